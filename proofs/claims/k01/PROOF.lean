import PyProof.Rows.All
import Wide.All
import OpenK.AllK
import Wide.FinOn
import PyProof.NeKinds
import HandS.ForMost
import HandS.IsInst
import HandS.Conv
import HandS.Codes
import HandS.Evl
import HandS.Strs
import HandS.SetFor
import HandS.SortInts
import HandS.Steps
import PyProof.Rows.IntBool
import PyProof.CallStr
import PyProof.FitsInt
import PySem.Challenge.RW_tidecopy_k01_tables_told
set_option Elab.async false
set_option linter.all false
set_option maxRecDepth 100000
namespace Tc
open PySem L2
/-- a def of the text under its name, with its promise -/
def Own (P : Program) (w : World) (K : PySem.W.Frag) (mg : Str → Option Value) (base : Heap) (x : Str) (ps : List Str) (k : Nat) (sp : Sp) : Prop :=
  ∃ (f : Addr) (fd : FuncData), FnOk P w K mg base CX0 k f fd ps sp ∧ mg x = some (.ref f) ∧ PySem.W.keepIn K (.ref f) = true ∧ Binds K fd ps []
theorem pe_own {X : Cx} {x : Str} {ps : List Str} {k j : Nat} {sp : Sp} {e : Expr} {es : List Expr} {t : TA} {p pos : Pos} (d : Own X.prog X.w X.K X.mg X.base x ps k sp) (hr : Room j X.A) (hj : k ≤ j) (hg : Gl X x) (ha : PA X (e :: es) t)
    (he : starEach (e :: es) X.env = (false, eval e X.env) :: starEach es X.env := by rfl) (hdb : (x == ("__debug__" : Str)) = false := by decide) (hpl : (backTo pos (starEach es X.env)).any (·.1) = false := by rfl) :
    PE X (.Call (.Name x p) (e :: es) [] pos) (tCall sp [] E0 t) := by
  obtain ⟨f, fd, F, hm, hk, hb⟩ := d
  exact pe_call F (hr.mono hj) hg hm hk hb .nil pass0 ha hdb he hpl

/-! ### one object hidden: the bag of draws, which changes -/
def hid (b : Addr) (H : Hp) : Hp := fun a => if a = b then none else H a
theorem hid_same (b : Addr) (H : Hp) : Same (hid b H) H := fun a o h => by
  unfold hid at h
  split at h
  · cases h
  · exact h
theorem hid_at {b a : Addr} {H : Hp} {o : HO} (h : H a = some o) (n : a ≠ b) : hid b H a = some o := by
  unfold hid
  rw [if_neg n]
  exact h
theorem hid_self (b : Addr) (H : Hp) : hid b H b = none := by
  unfold hid
  rw [if_pos rfl]
theorem hid_upd (b : Addr) (H : Hp) (o : HO) : hid b (upd H b o) = hid b H := by
  funext a
  unfold hid
  by_cases h : a = b
  · rw [if_pos h, if_pos h]
  · rw [if_neg h, if_neg h, upd_ne h]
theorem hid_new {b : Addr} {H : Hp} (h : H b = none) : hid b H = H := by
  funext a
  unfold hid
  by_cases e : a = b
  · rw [if_pos e, e, h]
  · rw [if_neg e]
/-- the bag at b, and all else as it was or more -/
def Bag (H : Hp) (b : Addr) : Prop := ∃ x y : Int, H b = some (.lst [.int x, .int y]) ∧ 0 ≤ x ∧ 0 ≤ y ∧ y < 2147483648
structure Fr (b : Addr) (H H' : Hp) : Prop where
  bag : Bag H' b
  sm : Same (hid b H) (hid b H')
theorem Fr.refl {b : Addr} {H : Hp} (h : Bag H b) : Fr b H H := ⟨h, Same.refl _⟩
theorem Fr.trans {b : Addr} {H H1 H2 : Hp} (x : Fr b H H1) (y : Fr b H1 H2) : Fr b H H2 := ⟨y.bag, x.sm.trans y.sm⟩
theorem Bag.ne {b p : Addr} {H : Hp} (h : Bag H b) (n : H p = none) : p ≠ b := fun e => by
  obtain ⟨x, y, h, _⟩ := h
  rw [e, h] at n
  cases n
theorem Fr.new {b p : Addr} {H : Hp} {o : HO} (h : Bag H b) (n : H p = none) : Fr b H (upd H p o) := by
  have hp := h.ne n
  refine ⟨?_, fun a u e => ?_⟩
  · obtain ⟨x, y, h, r⟩ := h
    exact ⟨x, y, by rw [upd_ne hp.symm]; exact h, r⟩
  · have e1 := hid_same b H a u e
    have e2 : a ≠ b := fun z => by
      rw [z, hid_self] at e
      cases e
    exact hid_at (by rw [upd_ne (ne_of_none e1 n)]; exact e1) e2
/-- an object made on the way may change -/
theorem Fr.mut {b p : Addr} {H H' : Hp} {o : HO} (x : Fr b H H') (n : H p = none) (hb : p ≠ b) : Fr b H (upd H' p o) := by
  refine ⟨?_, fun a u e => ?_⟩
  · obtain ⟨x1, y, h, r⟩ := x.bag
    exact ⟨x1, y, by rw [upd_ne hb.symm]; exact h, r⟩
  · have e1 := hid_same b H a u e
    have e3 := x.sm a u e
    have e4 := hid_same b H' a u e3
    have e2 : a ≠ b := fun z => by
      rw [z, hid_self] at e
      cases e
    exact hid_at (by rw [upd_ne (ne_of_none e1 n)]; exact e4) e2
theorem Fr.at {b a : Addr} {H H' : Hp} {o : HO} (x : Fr b H H') (h : H a = some o) (n : a ≠ b) : H' a = some o := hid_same b H' a o (x.sm a o (hid_at h n))
theorem Fr.free {b p : Addr} {H H' : Hp} (x : Fr b H H') (hb : Bag H b) (h : H' p = none) : H p = none := by
  have hp : p ≠ b := x.bag.ne h
  cases e : H p with
  | none => rfl
  | some o =>
    rw [x.at e hp] at h
    cases h

/-! ### data -/
mutual
theorem dp_same {K : PySem.W.Frag} {H H' : Hp} (e : Same H H') : ∀ (d : PyData) (v : V), Dp K H v d → Dp K H' v d
  | _, _, .non => .non
  | _, _, .bl b => .bl b
  | _, _, .int i => .int i
  | _, _, .str x => .str x
  | _, _, .lst h r => .lst (Evl.ex_l e h) (dps_same e _ _ r)
  | _, _, .tup h r => .tup (Evl.ex_t e h) (dps_same e _ _ r)
theorem dps_same {K : PySem.W.Frag} {H H' : Hp} (e : Same H H') : ∀ (ds : List PyData) (vs : List V), DpAll K H vs ds → DpAll K H' vs ds
  | _, _, .nil => .nil
  | _, _, .cons h r => .cons (dp_same e _ _ h) (dps_same e _ _ r)
end
theorem dps_len {K : PySem.W.Frag} {H : Hp} : ∀ {vs : List V} {ds : List PyData}, DpAll K H vs ds → vs.length = ds.length
  | _, _, .nil => rfl
  | _, _, .cons _ r => congrArg (· + 1) (dps_len r)
theorem dps_at {K : PySem.W.Frag} {H : Hp} : ∀ {vs : List V} {ds : List PyData} {i : Nat} {v : V}, DpAll K H vs ds → vs[i]? = some v → ∃ d, ds[i]? = some d ∧ Dp K H v d
  | _, _, 0, _, .cons h r, e => ⟨_, rfl, by cases e; exact h⟩
  | _, _, i + 1, _, .cons h r, e => dps_at (i := i) r e
theorem dps_at' {K : PySem.W.Frag} {H : Hp} : ∀ {vs : List V} {ds : List PyData} {i : Nat} {d : PyData}, DpAll K H vs ds → ds[i]? = some d → ∃ v, vs[i]? = some v ∧ Dp K H v d
  | _, _, 0, _, .cons h r, e => ⟨_, rfl, by cases e; exact h⟩
  | _, _, i + 1, _, .cons h r, e => dps_at' (i := i) r e
theorem dps_app {K : PySem.W.Frag} {H : Hp} : ∀ {vs ws : List V} {ds es : List PyData}, DpAll K H vs ds → DpAll K H ws es → DpAll K H (vs ++ ws) (ds ++ es)
  | _, _, _, _, .nil, q => q
  | _, _, _, _, .cons h r, q => .cons h (dps_app r q)
theorem dps_take {K : PySem.W.Frag} {H : Hp} : ∀ {vs : List V} {ds : List PyData} (n : Nat), DpAll K H vs ds → DpAll K H (vs.take n) (ds.take n)
  | _, _, 0, _ => .nil
  | _, _, n + 1, .nil => .nil
  | _, _, n + 1, .cons h r => .cons h (dps_take n r)
theorem dps_drop {K : PySem.W.Frag} {H : Hp} : ∀ {vs : List V} {ds : List PyData} (n : Nat), DpAll K H vs ds → DpAll K H (vs.drop n) (ds.drop n)
  | _, _, 0, r => r
  | _, _, n + 1, .nil => .nil
  | _, _, n + 1, .cons h r => dps_drop n r
theorem dps_set {K : PySem.W.Frag} {H : Hp} : ∀ {vs : List V} {ds : List PyData} {v : V} {d : PyData} (n : Nat), DpAll K H vs ds → Dp K H v d → DpAll K H (vs.set n v) (ds.set n d)
  | _, _, _, _, _, .nil, _ => .nil
  | _, _, _, _, 0, .cons h r, q => .cons q r
  | _, _, _, _, n + 1, .cons h r, q => .cons h (dps_set n r q)
theorem dps_mem {K : PySem.W.Frag} {H : Hp} : ∀ {vs : List V} {ds : List PyData} {v : V}, DpAll K H vs ds → v ∈ vs → ∃ d ∈ ds, Dp K H v d
  | _, _, _, .cons h r, m => by
    rcases List.mem_cons.mp m with e | m
    · exact ⟨_, List.mem_cons_self, e ▸ h⟩
    · obtain ⟨d, a, b⟩ := dps_mem r m
      exact ⟨d, List.mem_cons_of_mem _ a, b⟩
/-! ### kinds -/
def tyN : PyData → String
  | .none => "NoneType"
  | .bool _ => "bool"
  | .int _ => "int"
  | .str _ => "str"
  | .list _ => "list"
  | .tuple _ => "tuple"
  | .dict _ => "dict"
theorem ty_tup {K : PySem.W.Frag} {H : Hp} {a : Addr} {xs : List V} (h : SqT K H a xs) : TyX K H (.ref a) (.type "tuple") := by
  rcases h with (h | ⟨o, h⟩) | ⟨o, its, n, hk, hc, _⟩
  · exact .base (.tup h)
  · exact .fTuple h
  · exact .kTuple hk hc
theorem ty_lst {K : PySem.W.Frag} {H : Hp} {a : Addr} {xs : List V} (h : SqL K H a xs) : TyX K H (.ref a) (.type "list") := by
  rcases h with (h | ⟨o, h⟩) | ⟨o, its, n, hk, hc, _⟩
  · exact .base (.lst h)
  · exact .base (.frz h)
  · exact .kList hk hc
theorem ty_dp {K : PySem.W.Frag} {H : Hp} {v : V} {d : PyData} (h : Dp K H v d) : TyX K H v (.type (tyN d)) := by
  cases h with
  | non => exact .base .non
  | bl b => exact .base (.bl b)
  | int i => exact .base (.int i)
  | str z => exact .base (.str z)
  | lst h r => exact ty_lst h
  | tup h r => exact ty_tup h
theorem dp_nodict {K : PySem.W.Frag} {H : Hp} {v : V} {d : PyData} (h : Dp K H v d) : ∀ kv, d ≠ .dict kv := by
  cases h <;> intro kv z <;> cases z
/-- isinstance of data -/
theorem isi {K : PySem.W.Frag} {H : Hp} {v : V} {d : PyData} {c : String} {b : Bool} {Q : VK} (h : Dp K H v d) (k : kitB (tyN d) c = some b) (q : Q (.bl b) H) : rIsi K [v, .ty c] H Q :=
  ⟨v, .ty c, .type (tyN d), .type c, b, rfl, .ty c, ty_dp h, kit_ty k, q⟩
def isInt : PyData → Bool
  | .int _ => true | .bool _ => true | _ => false
def isBool : PyData → Bool
  | .bool _ => true | _ => false
def isTup : PyData → Bool
  | .tuple _ => true | _ => false
def isLst : PyData → Bool
  | .list _ => true | _ => false
def isStr : PyData → Bool
  | .str _ => true | _ => false
theorem kit_int {d : PyData} (n : ∀ kv, d ≠ .dict kv) : kitB (tyN d) "int" = some (isInt d) := by
  cases d with
  | none => exact (by decide +kernel : kitB "NoneType" "int" = some false)
  | bool _ => exact (by decide +kernel : kitB "bool" "int" = some true)
  | int _ => exact (by decide +kernel : kitB "int" "int" = some true)
  | str _ => exact (by decide +kernel : kitB "str" "int" = some false)
  | list _ => exact (by decide +kernel : kitB "list" "int" = some false)
  | tuple _ => exact (by decide +kernel : kitB "tuple" "int" = some false)
  | dict kv => exact absurd rfl (n kv)
theorem kit_bool {d : PyData} (n : ∀ kv, d ≠ .dict kv) : kitB (tyN d) "bool" = some (isBool d) := by
  cases d with
  | none => exact (by decide +kernel : kitB "NoneType" "bool" = some false)
  | bool _ => exact (by decide +kernel : kitB "bool" "bool" = some true)
  | int _ => exact (by decide +kernel : kitB "int" "bool" = some false)
  | str _ => exact (by decide +kernel : kitB "str" "bool" = some false)
  | list _ => exact (by decide +kernel : kitB "list" "bool" = some false)
  | tuple _ => exact (by decide +kernel : kitB "tuple" "bool" = some false)
  | dict kv => exact absurd rfl (n kv)
theorem kit_tuple {d : PyData} (n : ∀ kv, d ≠ .dict kv) : kitB (tyN d) "tuple" = some (isTup d) := by
  cases d with
  | none => exact (by decide +kernel : kitB "NoneType" "tuple" = some false)
  | bool _ => exact (by decide +kernel : kitB "bool" "tuple" = some false)
  | int _ => exact (by decide +kernel : kitB "int" "tuple" = some false)
  | str _ => exact (by decide +kernel : kitB "str" "tuple" = some false)
  | list _ => exact (by decide +kernel : kitB "list" "tuple" = some false)
  | tuple _ => exact (by decide +kernel : kitB "tuple" "tuple" = some true)
  | dict kv => exact absurd rfl (n kv)
theorem kit_list {d : PyData} (n : ∀ kv, d ≠ .dict kv) : kitB (tyN d) "list" = some (isLst d) := by
  cases d with
  | none => exact (by decide +kernel : kitB "NoneType" "list" = some false)
  | bool _ => exact (by decide +kernel : kitB "bool" "list" = some false)
  | int _ => exact (by decide +kernel : kitB "int" "list" = some false)
  | str _ => exact (by decide +kernel : kitB "str" "list" = some false)
  | list _ => exact (by decide +kernel : kitB "list" "list" = some true)
  | tuple _ => exact (by decide +kernel : kitB "tuple" "list" = some false)
  | dict kv => exact absurd rfl (n kv)
theorem kit_str {d : PyData} (n : ∀ kv, d ≠ .dict kv) : kitB (tyN d) "str" = some (isStr d) := by
  cases d with
  | none => exact (by decide +kernel : kitB "NoneType" "str" = some false)
  | bool _ => exact (by decide +kernel : kitB "bool" "str" = some false)
  | int _ => exact (by decide +kernel : kitB "int" "str" = some false)
  | str _ => exact (by decide +kernel : kitB "str" "str" = some true)
  | list _ => exact (by decide +kernel : kitB "list" "str" = some false)
  | tuple _ => exact (by decide +kernel : kitB "tuple" "str" = some false)
  | dict kv => exact absurd rfl (n kv)
/-! ### a list beside the empty one -/
def rNeE (K : PySem.W.Frag) : R2 := fun x y H Q => ∃ (a b : Addr) (xs : List V), x = .ref a ∧ y = .ref b ∧ SqL K H a xs ∧ SqL K H b [] ∧ Q (.bl (!xs.isEmpty)) H
theorem op_neE {X : Cx} (hu : X.A.units + 64 < cLine) : OpR X (compareOp .NotEq) (rNeE X.K) := by
  intro pins s σ H x y v u Q I rx ry h
  obtain ⟨a, b, xs, rfl, rfl, ha, hb, q⟩ := h
  cases xs with
  | nil => exact op_neD hu pins s σ H _ _ v u Q I rx ry ⟨.list [], .list [], .lst ha .nil, .lst hb .nil, rfl, rfl, q⟩
  | cons z zs =>
    cases (show v = Value.ref a from rx)
    cases (show u = Value.ref b from ry)
    obtain ⟨i1, r1, l1, _⟩ := I.list ha
    obtain ⟨i2, r2, l2, _⟩ := I.list hb
    have h1 : (i1.toArray.size != i2.toArray.size) = true := by
      have e1 := r1.length
      have e2 := r2.length
      simp only [List.size_toArray]
      rw [← e1, ← e2]
      rfl
    exact SeqAt.RcNeAt.lists_lengths l1.isList l2.isList h1 (by omega) _ _ _ _ ⟨.bl true, H, I, rfl, q⟩
/-! ### evaluation of tests over data -/
section
open Evl
variable {K : PySem.W.Frag} {σ : L2.St} {H : Hp} {ta tb tc : TE} {x y z v : V} {d : PyData}
theorem rc_isi {c : String} {b : Bool} (h : Dp K H v d) (k : kitB (tyN d) c = some b) : RC (rIsi K) [v, .ty c] H (.bl b) := fun H1 e _ q => isi (dp_same e _ _ h) k (q H1 (Ex.refl H1))
theorem ev_isi {c : String} {b : Bool} (ha : Ev ta σ H v) (h : Dp K H v d) (k : kitB (tyN d) c = some b) : Ev (tCB (rIsi K) (tCons ta (tCons (tC (.ty c)) tNil))) σ H (.bl b) := ev_cb (ea_cons ha (ea_cons ev_c ea_nil)) (rc_isi h k)
theorem ev_int (ha : Ev ta σ H v) (h : Dp K H v d) : Ev (tCB (rIsi K) (tCons ta (tCons (tC (.ty "int")) tNil))) σ H (.bl (isInt d)) := ev_isi ha h (kit_int (dp_nodict h))
theorem ev_bool (ha : Ev ta σ H v) (h : Dp K H v d) : Ev (tCB (rIsi K) (tCons ta (tCons (tC (.ty "bool")) tNil))) σ H (.bl (isBool d)) := ev_isi ha h (kit_bool (dp_nodict h))
theorem ev_tuple (ha : Ev ta σ H v) (h : Dp K H v d) : Ev (tCB (rIsi K) (tCons ta (tCons (tC (.ty "tuple")) tNil))) σ H (.bl (isTup d)) := ev_isi ha h (kit_tuple (dp_nodict h))
theorem ev_str (ha : Ev ta σ H v) (h : Dp K H v d) : Ev (tCB (rIsi K) (tCons ta (tCons (tC (.ty "str")) tNil))) σ H (.bl (isStr d)) := ev_isi ha h (kit_str (dp_nodict h))
theorem ev_chain {p p' : Int → Int → Bool} {i j k : Int} (ha : Ev ta σ H (.int i)) (hb : Ev tb σ H (.int j)) (hc : Ev tc σ H (.int k)) :
    Ev (tChain (rI0 fun i j => .bl (p i j)) (rI0 fun i j => .bl (p' i j)) ta tb tc) σ H (.bl (p i j && p' j k)) := fun H1 e Q q =>
  ha H1 e _ fun H2 e2 => hb H2 (e.trans e2) _ fun H3 e3 => ⟨i, j, rfl, rfl, p i j, rfl, by
    cases h : p i j with
    | true => exact hc H3 ((e.trans e2).trans e3) _ fun H4 e4 => ⟨j, k, rfl, rfl, by
        rw [h] at q
        exact q H4 ((e2.trans e3).trans e4)⟩
    | false =>
      rw [h] at q
      exact q H3 (e2.trans e3)⟩
/-- a def that answers a truth of data -/
def spTold (K : PySem.W.Frag) (f : PyData → Bool) : Sp := fun vs H Q _ => ∃ (v : V) (d : PyData), vs = [v] ∧ Dp K H v d ∧ ∀ H', Ex H H' → Q (.bl (f d)) H'
theorem spv_told {f : PyData → Bool} (h : Dp K H v d) : SpV (spTold K f) [v] H (.bl (f d)) := fun H1 e Q q E => ⟨v, d, rfl, dp_same e _ _ h, fun H' e' => q H' e'⟩
theorem ev_told {f : PyData → Bool} {E : XK} (ha : Ev ta σ H v) (h : Dp K H v d) : Ev (tCall (spTold K f) [] E (tCons ta tNil)) σ H (.bl (f d)) := ev_call (ea_cons ha ea_nil) (spv_told h)
theorem ev_ixT {p : Addr} {xs : List V} {j : Nat} (ha : Ev ta σ H (.ref p)) (h : SqT K H p xs) (hj : xs[j]? = some v) : Ev (tOp (rIxT K) ta (tC (.int (j : Int)))) σ H v := ev_op ha ev_c (rv_ixT h (atI_nat hj))
theorem ev_lenT {p : Addr} {xs : List V} (ha : Ev ta σ H (.ref p)) (h : SqT K H p xs) : Ev (tCB (rLenS K) (tCons ta tNil)) σ H (.int (xs.length : Int)) := fun H1 e Q q =>
  ha H1 e _ fun H2 e2 => ⟨p, xs, rfl, Or.inr (ex_t (e.trans e2) h), q H2 e2⟩
theorem ev_ix0 {p : Addr} {xs : List V} (ha : Ev ta σ H (.ref p)) (h : SqT K H p (v :: xs)) : Ev (tOp (rIxT K) ta (tC (.int 0))) σ H v := ev_ixT (j := 0) ha h rfl
theorem ev_ix1 {p : Addr} {xs : List V} (ha : Ev ta σ H (.ref p)) (h : SqT K H p (x :: v :: xs)) : Ev (tOp (rIxT K) ta (tC (.int 1))) σ H v := ev_ixT (j := 1) ha h rfl
theorem two_of {α : Type} {l : List α} (h : l.length = 2) : ∃ x y, l = [x, y] := match l, h with | [x, y], _ => ⟨x, y, rfl⟩
theorem ev_glob {i : Int} (q : True) : Ev (tC (.int i)) σ H (.int i) := ev_c
end
end Tc
/-! sets of ints out of a list, and their sorted list, of any length -/
namespace Tc
open PySem L2 PyProof.Rows
section
variable {P : Program} {w : World} {A : Around} {E : Value → Shared → Prop} {s : Shared}
/-- the empty set as the model lays it -/
abbrev noneSet (w : World) : Obj := { cls := .type "set", dict := none, data := .set #[] 0 (.fresh 0 0 (!w.params.followText "set-order")) }
abbrev withSet (w : World) (s : Shared) : Shared := { s with heap := s.heap.push (noneSet w) }
/-- what is known behind set(..) of ints -/
def Made (w : World) (s : Shared) (ns : List Int) (s₂ : Shared) : Prop := ∃ (h' : Heap) (tk c : Nat), s₂ = { s with heap := h', toks := tk } ∧ SetR w h' s.heap.objs.size (fun j => decide (j ∈ ns)) c ∧ c ≤ ns.length ∧ ∀ b o, s.heap.get? b = some o → h'.get? b = some o
set_option maxHeartbeats 8000000 in
theorem call_set_ints {l : Addr} {items : Array Value} {ns : List Int} {Q : Value → Shared → Prop} (hh : A.handled = none) (hl : s.heap.IsList l items) (hit : IntsAre items.toList ns) (hb : ns.length + 1 < scanBound)
    (h : ∀ s₂, Made w s ns s₂ → Q (.ref s.heap.objs.size) s₂) : wpAny (model P w) A (call (.type "set") [.ref l]) Q E s := by
  have hisz : items.size = ns.length := by rw [← Array.length_toList]; exact IntsAre.length hit
  obtain ⟨⟨ocls, odict, odata, oslots⟩, hol, hcl, nl, hdl⟩ := hl
  simp only at hcl hdl
  subst hcl; subst hdl
  have lS : l < s.heap.objs.size := Heap.lt_size hol
  have hS : (withSet w s).heap.get? s.heap.objs.size = some (noneSet w) := Heap.get?_push_size _ rfl
  have hT : (withSet w s).TypeIs (.ref s.heap.objs.size) "set" := ⟨_, hS, rfl⟩
  have hol' := Heap.get?_push_of_some (noneSet w) hol
  have hl1 : (withSet w s).heap.IsList l items := ⟨_, hol', rfl, nl, rfl⟩
  obtain ⟨c0, tl0, p1⟩ := F.called_set.mro
  have p2 := F.called_set.made
  have p3 := F.called_set.sub
  have p4 := F.called_set.notType
  have p5 := F.called_set.canCreate
  have p6 := F.typeCall_set_1 (.ref l)
  have p7 := F.called_set.init.lookup
  have p8 := F.called_set.init.bind (.ref s.heap.objs.size)
  refine wpAny_call (codeAny_of_tree (show wpAny _ _ (callAny (.type "set") _) _ _ _ from wpAny_pure ⟨Code.quiet_builtin _ (by decide +kernel), codeAny_builtin F.entry_type_call ?_⟩))
  rw [Around.under_plain (weight_type_call_type "set" [.ref l] []) rfl]
  repeat (any_goals (first | assumption | wp_step))
  refine codeAny_mono (code_set_led1 (.ref l) (E := E) (Q₁ := fun obj s₁ => obj = .ref s.heap.objs.size ∧ s₁ = withSet w s) ⟨rfl, rfl⟩) fun r s₁ hr => ?_
  rcases r with e | fl
  · exact hr
  cases fl with
  | ret obj =>
    obtain ⟨rfl, rfl⟩ := hr
    repeat (any_goals (first | assumption | wp_step))
    refine codeAny_mono (codeAny_call_builtin (R := wants (fun r s₂ => r = .none ∧ Made w s ns s₂) E) F.called_set.init.plain F.entry_set_init (check_set_init_1 hT ?_)) fun r₂ s₂ hr₂ => ?_
    · have q1 := F.sub_list_set
      have q2 := F.sub_list_frozenset
      have q3 : (Value.type "list" == Value.type "dict") = false := by decide
      unfold Builtin.«set.__init__» noKeywords Builtin.Frozenset.updateFrom
      generalize hPI : pyIter = PI
      wp_walk
      subst hPI
      refine wpAny_pyIter_list hl1 (wpAny_bind (wpAny_runValue ?_))
      have z1 : (withSet w s).heap.objs.size = s.heap.objs.size + 1 := Heap.size_push ..
      have n1 : l ≠ (withSet w s).heap.objs.size := by
        rw [z1]
        exact Nat.ne_of_lt (Nat.lt_succ_of_lt lS)
      have n2 : s.heap.objs.size ∉ [(withSet w s).heap.objs.size, l] := by
        rw [z1]
        intro m
        simp only [List.mem_cons, List.not_mem_nil, or_false] at m
        rcases m with m | m
        · exact absurd m (Nat.ne_of_lt (Nat.lt_succ_self _))
        · exact absurd m (Nat.ne_of_gt lS)
      have each : ∀ (i : Nat) (v : Value), items[i]? = some v → ∃ (k : Int) (tok : Tok), ns[i]? = some k ∧ v = .int k tok := fun i v at_ => by
        have lt : i < ns.length := hisz ▸ (Array.getElem?_eq_some_iff.mp at_).1
        obtain ⟨tok, rfl⟩ := IntsAre.int_at hit i v (Array.getElem?_toList ▸ at_)
        exact ⟨ns[i], tok, List.getElem?_eq_getElem lt, by simp [lt]⟩
      refine set_update_ints ((Walks.list (by simp [hh]) _ l n1 items).toS) s.heap.objs.size n2 ns hisz hb each (items.size - 0) 0 _ (by omega) (Nat.zero_le _)
        ⟨⟨_, Heap.get?_push_size _ rfl, rfl, rfl⟩, hl1.push _⟩ ⟨0, Nat.le_refl 0, setR_new_at (Heap.get?_push_of_some _ hS)⟩ fun s' c' hm hc' hS' => ?_
      obtain ⟨h', gen', drw', tk', os1⟩ := s'
      cases (show gen' = s.gens from hm.gens)
      cases (show drw' = s.drawn from hm.drawn)
      cases (show os1 = s.os from hm.os)
      refine wpAny_pure (show wpAny _ _ (ret Value.none) _ _ _ from wpAny_pure ⟨rfl, h', tk', c', rfl, hS', by omega, fun b o e => ?_⟩)
      have b0 : b < s.heap.objs.size := Heap.lt_size e
      refine hm.heap b o (fun m => ?_) (Heap.get?_push_of_some _ (Heap.get?_push_of_some _ e))
      simp only [List.mem_cons, List.not_mem_nil, or_false] at m
      rcases m with m | m
      · exact absurd m (Nat.ne_of_lt b0)
      · exact absurd (m.trans z1) (Nat.ne_of_lt (Nat.lt_succ_of_lt b0))
    · rcases r₂ with e | f2
      · exact hr₂
      cases f2 with
      | ret r =>
        obtain ⟨rfl, m⟩ := hr₂
        repeat (any_goals (first | assumption | wp_step))
        exact h _ m
      | _ => exact hr₂.elim
  | _ => exact hr.elim
end
/-! ### the rules -/
section
variable {X : Cx}
/-- set(xs), xs a list of ints -/
def rSetL (K : PySem.W.Frag) (w : World) : List V → Hp → VK → Prop := fun xs H Q => ∃ (l : Addr) (ns : List Int), xs = [V.ref l] ∧ SqL K H l (ns.map V.int) ∧ ns.length ≤ 4000 ∧
  ∀ (p : Addr) (c : Nat), H p = none → c ≤ ns.length → Q (.ref p) (upd H p (SetO w p (fun j => decide (j ∈ ns)) c))
theorem cr_setL (hc : X.calm = true) : CallR X (.type "set") (rSetL X.K X.w) := by
  intro pins s σ H vs us Q I r ⟨l, ns, e0, hs, hz, q⟩
  subst e0
  rw [Vals.ref1 r]
  have ⟨its, rv, hl, _⟩ := I.list hs
  refine call_set_ints (ns := ns) (I.ok.hd hc) hl.isList rv.ints (by unfold scanBound; omega) fun s₂ m => ?_
  obtain ⟨h', tk, c, rfl, R, hc', k⟩ := m
  exact ⟨.ref _, upd H s.heap.objs.size (SetO X.w s.heap.objs.size (fun j => decide (j ∈ ns)) c), I.laid (t' := tk) k (Nat.le_refl _) (setO_new R), rfl, q _ c (I.hok.fresh (Nat.le_refl _)) hc'⟩
end
end Tc
/-! the sorted list of a set of ints, of any length -/
namespace Tc
open PySem L2 PyProof.Rows
section
variable {P : Program} {w : World} {A : Around} {E : Value → Shared → Prop} {s : Shared} {a : Addr}
set_option maxHeartbeats 9000000 in
/-- sorted(a set of ints): the road of the library's rule for fewer than 64 of them, with its sort of ints of any number -/
theorem sorted_any {S : Int → Bool} {n : Nat} {Q : Value → Shared → Prop} (R : SetR w s.heap a S n) (free : A.handled = none)
    (fin : ∀ s' p (out : List Value) (c : Nat) (ns : List Int), (∀ b o, s.heap.get? b = some o → s'.heap.get? b = some o) → s'.gens = s.gens → s'.os = s.os → s.heap.objs.size ≤ p →
      s'.heap.get? p = some (seqObj "list" out.toArray c) → IntsAre out ns → ns.Pairwise (· < ·) → (∀ k, k ∈ ns ↔ S k = true) → ns.length = n → ns.length ≤ sizeLine → Q (.ref p) s') : wpAny (model P w) A (call (.builtin "sorted") [.ref a]) Q E s := by
  obtain ⟨ob, ents, _, _, at1, exact1, dat, isI, once, mem, room, fits, count, ring, laid⟩ := R
  have many : ∀ {l : List Value}, l.Perm (ents.toList.map (·.2)) → l.length = n := fun pm => (pm.length_eq.trans (by simp)).trans count
  have size : n ≤ sizeLine := count ▸ fits_of_scanBound room
  refine Calls.call_function_entry kind_sorted plain_sorted entry_sorted (args_sorted1 _) (show wpAny _ _ (Builtin.«sorted» _) _ _ _ from ?_)
  refine wpAny_bind (m := checkCount "sorted" 1 1 _) (wpAny_pure (wpAny_bind (collect_set (A := A.in1) free ⟨ob, at1, exact1.1, dat⟩ fits room ring laid fun t vs keep old gens os pm => ?_)))
  /- the items, as ints -/
  have are : IntsAre vs (vs.map Builtin.Re.reRawOf) := ints_of vs fun v m => by
    have ⟨x, mx, ex⟩ := List.mem_map.mp (pm.mem_iff.mp m)
    have ⟨i, tok, hx, _⟩ := isI x mx
    exact ⟨i, tok, ex ▸ hx⟩
  have these : (vs.map Builtin.Re.reRawOf).Perm (ents.toList.map keyOf) := (pm.map Builtin.Re.reRawOf).trans (by rw [List.map_map]; exact .refl _)
  refine wpAny_bind (wpAny_newList ?_ ((many pm).symm ▸ size))
  generalize hL : t.heap.push (seqObj "list" vs.toArray 0) = L
  have new : L.get? t.heap.objs.size = some (seqObj "list" vs.toArray 0) := hL ▸ Heap.get?_push_size _ rfl
  refine wpAny_bind (wpAny_holding (wpAny_call_entry slot_list_sort ⟨_, new, rfl⟩ entry_list_sort (SrtO.list_sort_ord SrtO.swo_int new ((many pm).symm ▸ size) (fun lt => SrtO.ints_sortable are lt) fun out o1 o2 => ⟨_, rfl, ?_⟩) (args_list_sort _)))
  obtain ⟨r1, r2, r3⟩ := SrtO.ints_out are o1 o2
  have ⟨c, hc⟩ := sortedHeap_at (vs := vs) (out := out.toArray) new
  have all := r2.trans these
  have len := all.length_eq.trans ((List.length_map _).trans (Array.length_toList.trans count))
  refine wpAny_pure ⟨_, rfl, fin _ t.heap.objs.size out c _ (fun b u e => ?_) gens os old hc r1 (L2.lt_of_le_nodup _ r3 (all.nodup_iff.mpr once)) (fun k => all.mem_iff.trans (mem k).symm) len (len.symm ▸ size)⟩
  have lt := Heap.lt_size (keep b u e)
  show (sortedHeap L t.heap.objs.size vs out.toArray).get? b = some u
  rw [sortedHeap_old (Nat.ne_of_lt lt) (hL ▸ size_push' t.heap _ ▸ Nat.lt_succ_of_lt lt), ← hL]
  exact Heap.get?_push_of_some _ (keep b u e)
end
section
variable {X : Cx}
/-- sorted(s), s a set of ints: a new list, rising, of just its members -/
def rSortedSetA (w : World) : List V → Hp → VK → Prop := fun vs H Q => ∃ (a : Addr) (S : Int → Bool) (n : Nat), vs = [V.ref a] ∧ H a = some (SetO w a S n) ∧ ∀ (ms : List Int) (p : Addr), ms.Pairwise (· < ·) → (∀ k : Int, k ∈ ms ↔ S k = true) → ms.length = n → H p = none → Q (.ref p) (upd H p (.lst (ms.map V.int)))
theorem cr_sortedSetA (hc : X.calm = true) : CallR X (.builtin "sorted") (rSortedSetA X.w) := by
  intro pins s0 σ H vs us Q I r hyp
  obtain ⟨a, S, n, rfl, ha, q⟩ := hyp
  rw [Vals.ref1 r]
  refine sorted_any (setO_get I ha) (I.ok.hd hc) fun t p out c ms keep gens os far at2 are rise mem cnt size => ?_
  have none0 := I.hok.fresh far
  have ok : ObjOk X.prog X.w (upd H p (.lst (ms.map V.int))) t.heap p (.lst (ms.map V.int)) := ⟨(List.length_map (f := V.int)).symm ▸ size, out, c, vals_of_ints are, at2⟩
  have inv := I.call (g' := t.gens) (d' := t.drawn) (t' := t.toks) (ch := []) (Un.laid keep far none0) (I.hok.laid keep far ok) (gens ▸ I.bare) (fun _ z => nomatch z)
  have same : t = { s0 with heap := t.heap, gens := t.gens, drawn := t.drawn, toks := t.toks } := by
    obtain ⟨t1, t2, t3, t4, t5⟩ := t
    cases os
    rfl
  exact same ▸ ⟨.ref p, _, inv, rfl, q ms p rise mem cnt none0⟩
end
end Tc
namespace Tc
open PySem L2 Evl
section
variable {K : PySem.W.Frag} {σ : L2.St} {H : Hp} {ta tb tc te : TE} {x y z v : V} {d : PyData}
theorem s_next {D : Ends} {σ : L2.St} {H : Hp} (h : D.nx σ H) : tNext D σ H := h
theorem s_seq {D : Ends} {σ : L2.St} {H : Hp} {t u : TS} (h : t { D with nx := u D } σ H) : tSeq t u D σ H := h
theorem ev_l0 {p : Addr} {xs : List V} (ha : Ev ta σ H (.ref p)) (h : SqL K H p (v :: xs)) : Ev (tOp (rIxL K) ta (tC (.int 0))) σ H v := ev_op ha ev_c (rv_ixL h (atI_nat (j := 0) rfl))
theorem ev_l1 {p : Addr} {xs : List V} (ha : Ev ta σ H (.ref p)) (h : SqL K H p (x :: v :: xs)) : Ev (tOp (rIxL K) ta (tC (.int 1))) σ H v := ev_op ha ev_c (rv_ixL h (atI_nat (j := 1) rfl))
theorem ex_hid {b : Addr} {H H1 : Hp} (e : Ex H H1) : Same (hid b H) (hid b H1) := fun a u h => by
  have n : a ≠ b := fun z => by
    rw [z, hid_self] at h
    cases h
  exact hid_at (e a u (hid_same b H a u h)) n
theorem Fr.ex {b : Addr} {H H1 : Hp} (h : Bag H b) (e : Ex H H1) : Fr b H H1 := by
  obtain ⟨x, y, hb, r⟩ := h
  exact ⟨⟨x, y, e b _ hb, r⟩, ex_hid e⟩
theorem Fr.put {b : Addr} {H H1 : Hp} {x y : Int} (e : Ex H H1) (hx : 0 ≤ x) (hy : 0 ≤ y) (hz : y < 2147483648) : Fr b H (upd H1 b (.lst [.int x, .int y])) := by
  refine ⟨⟨x, y, upd_same, hx, hy, hz⟩, ?_⟩
  rw [hid_upd]
  exact ex_hid e
theorem rv_mod {i j : Int} (h : 0 < j) : RV (rI (fun _ j => 0 < j) fun i j => .int (i % j)) (.int i) (.int j) H (.int (i % j)) := fun H1 _ _ q => ⟨i, j, rfl, rfl, h, q H1 (Ex.refl H1)⟩
theorem rv_fdiv {i j : Int} (h : 0 < j) (h2 : j < 1073741824) : RV (rI CDiv fun i j => .int (i / j)) (.int i) (.int j) H (.int (i / j)) := fun H1 _ _ q => ⟨i, j, rfl, rfl, ⟨h, h2⟩, q H1 (Ex.refl H1)⟩
theorem rv_mul {i j : Int} (h : CMul i j) : RV (rI CMul fun i j => .int (i * j)) (.int i) (.int j) H (.int (i * j)) := fun H1 _ _ q => ⟨i, j, rfl, rfl, h, q H1 (Ex.refl H1)⟩
theorem rv_pow {i j : Int} (h : CPow i j) : RV (rI CPow fun i j => .int (i ^ j.toNat)) (.int i) (.int j) H (.int (i ^ j.toNat)) := fun H1 _ _ q => ⟨i, j, rfl, rfl, h, q H1 (Ex.refl H1)⟩
theorem rv_add {i j : Int} : RV (rI0 fun i j => .int (i + j)) (.int i) (.int j) H (.int (i + j)) := rv_I0
theorem rv_sub {i j : Int} : RV (rI0 fun i j => .int (i - j)) (.int i) (.int j) H (.int (i - j)) := rv_I0
theorem ev_abs {i : Int} (ha : Ev ta σ H (.int i)) : Ev (tCB (fun xs H Q => ∃ i, xs = [.int i] ∧ Q (.int (if i < 0 then -i else i)) H) (tCons ta tNil)) σ H (.int (if i < 0 then -i else i)) :=
  ev_cb (ea_cons ha ea_nil) fun H1 _ _ q => ⟨i, rfl, q H1 (Ex.refl H1)⟩
theorem ev_lx {p : Addr} {xs : List V} {j : Nat} (ha : Ev ta σ H (.ref p)) (hb : Ev tb σ H (.int (j : Int))) (h : SqL K H p xs) (hj : xs[j]? = some v) : Ev (tOp (rIxL K) ta tb) σ H v := ev_op ha hb (rv_ixL h (atI_nat hj))
/-- a new bag -/
def spBag (K : PySem.W.Frag) : Sp := fun vs H Q _ => ∃ (a : Addr) (ns : List Int) (k : Nat), vs = [.ref a, .int (k : Int)] ∧ SqL K H a (ns.map V.int) ∧ k ≤ 1000 ∧ ∀ b H', H b = none → Ex H H' → Bag H' b → Q (.ref b) H'
/-- a draw below m -/
def spTake : Sp := fun vs H Q _ => ∃ (b : Addr) (m : Int), vs = [.ref b, .int m] ∧ Bag H b ∧ 0 < m ∧ m < 1073741824 ∧ ∀ r H', Fr b H H' → 0 ≤ r → r < m → Q (.int r) H'
end
end Tc
namespace Tc
open PySem L2 Evl
section
variable {K : PySem.W.Frag} {σ : L2.St} {H : Hp} {ta tb tc te : TE} {t : TT} {x y z v : V} {d : PyData}
/-- a list comprehension over a tuple, changing nothing -/
theorem el_lcT {a : Addr} {xs : List V} {tl : TE} {j : Nat} {vs : List Nat} (f : Nat → Bool) (u : Nat → V) (h : Ev tl σ H (.ref a)) (hx : SqT K H a xs) (hz : xs.length ≤ 40000) (hw : ∀ x, wipe ((wipe σ vs).set j (some x)) vs = wipe σ vs)
    (ht : ∀ (i : Nat) (x : V) H1, Ex H H1 → xs[i]? = some x → EvT t ((wipe σ vs).set j (some x)) H1 (f i)) (he : ∀ (i : Nat) (x : V) H1, Ex H H1 → xs[i]? = some x → f i = true → Ev te ((wipe σ vs).set j (some x)) H1 (u i)) :
    EvL (tLc (iTup K tl) (gName j) t te vs) σ H (given xs.length f u) := fun H0 e Q q => h H0 e _ fun H1 e1 => ⟨a, rfl, ⟨xs, ex_t (e.trans e1) hx⟩, fun Dl hD =>
  lc_tup (xs := xs) (Cw H1 f u Dl) ⟨hD, Ex.new hD, upd_same⟩ (fun i H' _ p => ex_t ((e.trans e1).trans p.2.1) hx) (fun i x H' hi p => ⟨hw x, cw_turn p (by have := (List.getElem?_eq_some_iff.mp hi).1; omega) (ht i x H1 (e.trans e1) hi) (fun hf => he i x H1 (e.trans e1) hi hf)⟩)
    (fun H' ⟨n0, x0, d0⟩ => q Dl H' (fresh_back e1 n0) (e1.trans x0) d0)⟩
theorem et_yes : EvT tYes σ H true := fun H1 _ _ q => q H1 (Ex.refl H1)
theorem given_all (n : Nat) (u : Nat → V) : given n (fun _ => true) u = (List.range n).map u := by
  unfold given
  rw [List.filter_eq_self.mpr fun _ _ => rfl]
theorem given_empty (n : Nat) (f : Nat → Bool) (u : Nat → V) : (given n f u).isEmpty = true ↔ ∀ i, i < n → f i = false := by
  unfold given
  rw [List.isEmpty_iff, List.map_eq_nil_iff, List.filter_eq_nil_iff]
  constructor
  · intro h i hi
    cases e : f i with
    | true => exact absurd e (h i (List.mem_range.mpr hi))
    | false => rfl
  · intro h i hi
    rw [h i (List.mem_range.mp hi)]
    exact Bool.false_ne_true
/-- two rising lists of the same members are one -/
theorem rising_one : ∀ (a b : List Int), a.Pairwise (· < ·) → b.Pairwise (· < ·) → (∀ k, k ∈ a ↔ k ∈ b) → a = b
  | [], [], _, _, _ => rfl
  | [], y :: b, _, _, h => absurd ((h y).mpr List.mem_cons_self) (by simp)
  | x :: a, [], _, _, h => absurd ((h x).mp List.mem_cons_self) (by simp)
  | x :: a, y :: b, ha, hb, h => by
    obtain ⟨a1, a2⟩ := List.pairwise_cons.mp ha
    obtain ⟨b1, b2⟩ := List.pairwise_cons.mp hb
    have e : x = y := by
      rcases List.mem_cons.mp ((h x).mp List.mem_cons_self) with e | m
      · exact e
      · rcases List.mem_cons.mp ((h y).mpr List.mem_cons_self) with e | m2
        · exact e.symm
        · have p1 := b1 x m
          have p2 := a1 y m2
          omega
    subst e
    refine congrArg (x :: ·) (rising_one a b a2 b2 fun k => ⟨fun m => ?_, fun m => ?_⟩)
    · rcases List.mem_cons.mp ((h k).mp (List.mem_cons_of_mem _ m)) with e | m2
      · have := a1 k m
        omega
      · exact m2
    · rcases List.mem_cons.mp ((h k).mpr (List.mem_cons_of_mem _ m)) with e | m2
      · have := b1 k m
        omega
      · exact m2
/-- sorted(set(xs)) of ints -/
theorem el_sortset {w : World} {ns ms : List Int} (ha : EvL ta σ H (ns.map V.int)) (hl : ns.length ≤ 4000) (hm : ∀ l : List Int, l.Pairwise (· < ·) → (∀ k, k ∈ l ↔ k ∈ ns) → l = ms) :
    EvL (tCB (rSortedSetA w) (tCons (tCB (rSetL K w) (tCons ta tNil)) tNil)) σ H (ms.map V.int) := fun H1 e Q q =>
  ha H1 e _ fun p H2 hp e2 h2 => ⟨p, ns, rfl, sq_of h2, hl, fun s c hs hc => ⟨s, _, c, rfl, upd_same, fun l r hp1 hm1 hn hr => by
    have e3 := hm l hp1 fun k => by rw [hm1 k, decide_eq_true_eq]
    subst e3
    exact q r _ (fresh_back (e2.trans (Ex.new hs)) hr) ((e2.trans (Ex.new hs)).trans (Ex.new hr)) upd_same⟩⟩
theorem el_sortsetV {w : World} {a : Addr} {ns ms : List Int} (ha : Ev ta σ H (.ref a)) (hs : SqL K H a (ns.map V.int)) (hl : ns.length ≤ 4000) (hm : ∀ l : List Int, l.Pairwise (· < ·) → (∀ k, k ∈ l ↔ k ∈ ns) → l = ms) :
    EvL (tCB (rSortedSetA w) (tCons (tCB (rSetL K w) (tCons ta tNil)) tNil)) σ H (ms.map V.int) := fun H1 e Q q =>
  ha H1 e _ fun H2 e2 => ⟨a, ns, rfl, ex_l (e.trans e2) hs, hl, fun s c hs hc => ⟨s, _, c, rfl, upd_same, fun l r hp1 hm1 hn hr => by
    have e3 := hm l hp1 fun k => by rw [hm1 k, decide_eq_true_eq]
    subst e3
    exact q r _ (fresh_back (e2.trans (Ex.new hs)) hr) ((e2.trans (Ex.new hs)).trans (Ex.new hr)) upd_same⟩⟩
theorem dps_ints {ns : List Int} : DpAll K H (ns.map V.int) (ns.map PyData.int) := by
  induction ns with
  | nil => exact .nil
  | cons n ns ih => exact .cons (.int n) ih
theorem eqv_ints : ∀ a b : List Int, PyData.eqvAll (a.map PyData.int) (b.map PyData.int) = decide (a = b)
  | [], [] => rfl
  | [], y :: b => by simp [PyData.eqvAll]
  | x :: a, [] => by simp [PyData.eqvAll]
  | x :: a, y :: b => by
    rw [List.map_cons, List.map_cons, PyData.eqvAll, eqv_ints a b]
    simp [PyData.eqv]
    rfl
theorem shaped_ints (a : List Int) : SeqAt.shaped (.list (a.map PyData.int)) = true := by
  have h : ∀ a : List Int, PyData.canLayAll0 (a.map PyData.int) = true ∧ PyData.depthAll (a.map PyData.int) = 0 := by
    intro a
    induction a with
    | nil => exact ⟨rfl, rfl⟩
    | cons n a ih => exact ⟨by rw [List.map_cons, PyData.canLayAll0, ih.1]; rfl, by rw [List.map_cons, PyData.depthAll, ih.2]; rfl⟩
  unfold SeqAt.shaped
  rw [PyData.canLay0, (h a).1, PyData.depth, (h a).2]
  rfl
end
end Tc
/-! data made beside a bag of draws -/
namespace Tc
open PySem L2 Evl
/-- sizes of data: c counts how often it was changed, n how deep it is -/
def gd (c : Nat) : Nat → PyData → Bool
  | _, .none => true
  | _, .bool _ => true
  | _, .int i => decide (i.natAbs ≤ 10 ^ 31 + 1000 * c)
  | _, .str z => decide (z.length ≤ 100 * 3 ^ c)
  | n + 1, .list ds => decide (ds.length ≤ 1100 + c) && ds.all (gd c n)
  | n + 1, .tuple ds => decide (ds.length ≤ 1100 + c) && ds.all (gd c n)
  | _, _ => false
theorem gd_n {c : Nat} : ∀ (n : Nat) (d : PyData), gd c n d = true → gd c (n + 1) d = true
  | _, .none, _ => rfl
  | _, .bool _, _ => rfl
  | 0, .int i, h => h
  | n + 1, .int i, h => h
  | 0, .str i, h => h
  | n + 1, .str i, h => h
  | 0, .list ds, h => by cases h
  | 0, .tuple ds, h => by cases h
  | 0, .dict ds, h => by cases h
  | n + 1, .dict ds, h => by cases h
  | n + 1, .list ds, h => by
    rw [gd, Bool.and_eq_true, List.all_eq_true] at h ⊢
    exact ⟨h.1, fun d m => gd_n n d (h.2 d m)⟩
  | n + 1, .tuple ds, h => by
    rw [gd, Bool.and_eq_true, List.all_eq_true] at h ⊢
    exact ⟨h.1, fun d m => gd_n n d (h.2 d m)⟩
theorem gd_c {c : Nat} : ∀ (n : Nat) (d : PyData), gd c n d = true → gd (c + 1) n d = true
  | _, .none, _ => by rw [gd]
  | _, .bool _, _ => by rw [gd]
  | 0, .int i, h => decide_eq_true (by have := of_decide_eq_true (p := i.natAbs ≤ 10 ^ 31 + 1000 * c) h; omega)
  | n + 1, .int i, h => decide_eq_true (by have := of_decide_eq_true (p := i.natAbs ≤ 10 ^ 31 + 1000 * c) h; omega)
  | 0, .str z, h => decide_eq_true (by have := of_decide_eq_true (p := z.length ≤ 100 * 3 ^ c) h; rw [Nat.pow_succ]; omega)
  | n + 1, .str z, h => decide_eq_true (by have := of_decide_eq_true (p := z.length ≤ 100 * 3 ^ c) h; rw [Nat.pow_succ]; omega)
  | 0, .list ds, h => by cases h
  | 0, .tuple ds, h => by cases h
  | 0, .dict ds, h => by cases h
  | n + 1, .dict ds, h => by cases h
  | n + 1, .list ds, h => by
    rw [gd, Bool.and_eq_true, List.all_eq_true, decide_eq_true_eq] at h ⊢
    exact ⟨by omega, fun d m => gd_c n d (h.2 d m)⟩
  | n + 1, .tuple ds, h => by
    rw [gd, Bool.and_eq_true, List.all_eq_true, decide_eq_true_eq] at h ⊢
    exact ⟨by omega, fun d m => gd_c n d (h.2 d m)⟩
theorem gd_le {c n m : Nat} {d : PyData} (h : gd c n d = true) (hm : n ≤ m) : gd c m d = true := by
  induction hm with
  | refl => exact h
  | step _ ih => exact gd_n _ _ ih
theorem gd_lc {c e n : Nat} {d : PyData} (h : gd c n d = true) (hm : c ≤ e) : gd e n d = true := by
  induction hm with
  | refl => exact h
  | step _ ih => exact gd_c _ _ ih
theorem gd_tup {c n : Nat} {ds : List PyData} : gd c (n + 1) (.tuple ds) = true ↔ ds.length ≤ 1100 + c ∧ ∀ d ∈ ds, gd c n d = true := by
  rw [gd, Bool.and_eq_true, List.all_eq_true, decide_eq_true_eq]
theorem gd_lst {c n : Nat} {ds : List PyData} : gd c (n + 1) (.list ds) = true ↔ ds.length ≤ 1100 + c ∧ ∀ d ∈ ds, gd c n d = true := by
  rw [gd, Bool.and_eq_true, List.all_eq_true, decide_eq_true_eq]
section
variable {b : Addr} {K : PySem.W.Frag} {σ : L2.St} {H : Hp} {ta tb tc te : TE} {t : TT} {x y z v : V} {d : PyData}
theorem dpt_new {p : Addr} {vs : List V} {ds : List PyData} (hb : Bag H b) (hp : H p = none) (h : DpAll K (hid b H) vs ds) : Dp K (hid b (upd H p (.tup vs))) (.ref p) (.tuple ds) :=
  .tup (st_of (hid_at upd_same (hb.ne hp))) (dps_same (Fr.new hb hp).sm _ _ h)
theorem fr_back {b p : Addr} {H H1 : Hp} (e : Fr b H H1) (hp : H1 p = none) : H p = none ∨ p = b := by
  by_cases h : p = b
  · exact .inr h
  · cases e1 : H p with
    | none => exact .inl rfl
    | some o =>
      rw [e.at e1 h] at hp
      cases hp
theorem fr_back' {b p : Addr} {H H1 : Hp} (e : Fr b H H1) (hp : H1 p = none) : H p = none := by
  rcases fr_back e hp with h | h
  · exact h
  · exact absurd h (e.bag.ne hp)
end
end Tc
namespace Tc
open PySem L2 Evl
section
variable {b : Addr} {K : PySem.W.Frag} {σ : L2.St} {H : Hp} {ta tb tc te : TE} {t : TT} {x y z v : V} {d : PyData} {Q : VK} {E : XK}
theorem take_of {ta : TA} {m : Int} (hB : Bag H b) (ha : EvA ta σ H [.ref b, .int m]) (h0 : 0 < m) (h1 : m < 1073741824) (q : ∀ r H', Fr b H H' → 0 ≤ r → r < m → Q (.int r) H') : tCall spTake [] E ta σ H Q :=
  ha H (Ex.refl H) _ fun H1 e => ⟨b, m, rfl, (Fr.ex hB e).bag, h0, h1, fun r H' fr => q r H' ((Fr.ex hB e).trans fr)⟩
theorem el_cat {xs ys : List V} (ha : EvL ta σ H xs) (hb : EvL tb σ H ys) (hl : xs.length + ys.length ≤ 100000) : EvL (tOp rCat ta tb) σ H (xs ++ ys) := fun H1 e Q q =>
  ha H1 e _ fun p H2 hp e2 h2 => hb H2 (e.trans e2) _ fun r H3 hr e3 h3 => ⟨p, r, xs, ys, rfl, rfl, e3 p _ h2, h3, sz_of hl, fun s hs => q s _ (fresh_back (e2.trans e3) hs) ((e2.trans e3).trans (Ex.new hs)) upd_same⟩
theorem el_is {xs ys : List V} (h : EvL te σ H xs) (e : xs = ys) : EvL te σ H ys := e ▸ h
/-- an item of a new list by a draw -/
theorem item_new {xs : List V} {tb : TE} (ha : EvL ta σ H xs) (hB : Bag H b) (h : ∀ H1, Fr b H H1 → ∀ Q : VK, (∀ r H', Fr b H1 H' → 0 ≤ r → r < (xs.length : Int) → Q (.int r) H') → tb σ H1 Q) (q : ∀ v H', Fr b H H' → v ∈ xs → Q v H') : tOp (rIxL K) ta tb σ H Q :=
  ha H (Ex.refl H) _ fun p H1 hp e h1 => h H1 (Fr.ex hB e) _ fun r H2 f2 h0 h3 => by
    obtain ⟨n, rfl⟩ : ∃ n : Nat, r = (n : Int) := ⟨r.toNat, by omega⟩
    have hlt : n < xs.length := by omega
    have hpb : p ≠ b := hB.ne hp
    exact ⟨p, xs, n, xs[n], rfl, rfl, sq_of (f2.at h1 hpb), atI_nat (List.getElem?_eq_getElem hlt), q _ _ ((Fr.ex hB e).trans f2) (List.getElem_mem hlt)⟩
/-- keys of a table -/
def spKeys : Sp := fun vs H Q _ => ∃ b : Addr, vs = [.ref b] ∧ Bag H b ∧ ∀ l (ks : List Int) H', Fr b H H' → H l = none → l ≠ b → H' l = some (.lst (ks.map V.int)) → (∀ k ∈ ks, 0 ≤ k ∧ k < 1000) → ks.length ≤ 1000 → Q (.ref l) H'
end
end Tc
namespace Tc
open PySem L2 Evl
theorem same_hid {D : Addr} {H H' : Hp} (e : Same H H') : Same (hid D H) (hid D H') := fun a u h => by
  have n : a ≠ D := fun z => by
    rw [z, hid_self] at h
    cases h
  exact hid_at (e a u (hid_same D H a u h)) n
theorem hid_upd2 {b D : Addr} (H : Hp) (o : HO) (n : D ≠ b) : hid D (hid b (upd H D o)) = hid D (hid b H) := by
  funext a
  unfold hid
  by_cases h : a = D
  · rw [if_pos h, if_pos h]
  · rw [if_neg h, if_neg h]
    by_cases h2 : a = b
    · rw [if_pos h2, if_pos h2]
    · rw [if_neg h2, if_neg h2, upd_ne h]
/-- a list at D that collects data, beside a bag at b -/
structure Col (b : Addr) (K : PySem.W.Frag) (g : PyData → Bool) (H : Hp) (D : Addr) (i : Nat) (H' : Hp) : Prop where
  fr : Fr b H H'
  new : H D = none
  ne : D ≠ b
  ex : ∃ (vs : List V) (ds : List PyData), H' D = some (.lst vs) ∧ DpAll K (hid D (hid b H')) vs ds ∧ vs.length ≤ i ∧ ∀ d ∈ ds, g d = true
section
variable {b D : Addr} {K : PySem.W.Frag} {g : PyData → Bool} {H H' H4 : Hp} {i : Nat} {y : V} {d : PyData}
theorem Col.start (hB : Bag H b) (hD : H D = none) : Col b K g H D 0 (upd H D (.lst [])) := ⟨Fr.new hB hD, hD, hB.ne hD, [], [], upd_same, .nil, Nat.le_refl _, fun d m => by simp at m⟩
theorem Col.skip (c : Col b K g H D i H') (f : Fr b H' H4) : Col b K g H D (i + 1) H4 := by
  obtain ⟨vs, ds, h1, h2, h3, h4⟩ := c.ex
  exact ⟨c.fr.trans f, c.new, c.ne, vs, ds, f.at h1 c.ne, dps_same (same_hid f.sm) _ _ h2, by omega, h4⟩
theorem Col.push (c : Col b K g H D i H') (f : Fr b H' H4) (hy : Dp K (hid D (hid b H4)) y d) (hg : g d = true) (hi : i < 10000) : ∃ acc, H4 D = some (.lst acc) ∧ acc.length < sizeLine ∧ Col b K g H D (i + 1) (upd H4 D (.lst (acc ++ [y]))) := by
  obtain ⟨vs, ds, h1, h2, h3, h4⟩ := c.ex
  refine ⟨vs, f.at h1 c.ne, sz_lt (by omega), Fr.mut (c.fr.trans f) c.new c.ne, c.new, c.ne, vs ++ [y], ds ++ [d], upd_same, ?_, by simp; omega, fun e m => ?_⟩
  · rw [hid_upd2 _ _ c.ne]
    exact dps_app (dps_same (same_hid f.sm) _ _ h2) (.cons hy .nil)
  · rcases List.mem_append.mp m with m | m
    · exact h4 e m
    · rw [List.mem_singleton.mp m]
      exact hg
/-- a pair of ints, new -/
theorem dp_pair {p : Addr} {k r : Int} (hB : Bag H b) (hD : H D ≠ none) (hp : H p = none) : Dp K (hid D (hid b (upd H p (.tup [.int k, .int r])))) (.ref p) (.tuple [.int k, .int r]) :=
  .tup (st_of (hid_at (hid_at upd_same (hB.ne hp)) fun z => hD (z ▸ hp))) (.cons (.int k) (.cons (.int r) .nil))
theorem Col.at (c : Col b K g H D i H') : H' D ≠ none := by
  obtain ⟨vs, ds, h1, _⟩ := c.ex
  rw [h1]
  exact fun z => nomatch z
/-- tuple(..) of what was collected -/
theorem Col.tup {te : TE} {σ : L2.St} {Q : VK} {i : Nat} (h : ∀ Q' : VK, (∀ p H', Col b K g H p i H' → Q' (.ref p) H') → te σ H Q') (hz : i ≤ 1100)
    (q : ∀ v d H', Fr b H H' → Dp K (hid b H') v d → (∃ ds : List PyData, d = .tuple ds ∧ ds.length ≤ i ∧ ∀ d ∈ ds, g d = true) → Q v H') :
    tCB (fun xs H Q => ∃ p ys, xs = [.ref p] ∧ ((SqL K H p ys ∧ ∀ l, H l = none → Q (.ref l) (upd H l (.tup ys))) ∨ (SqT K H p ys ∧ Q (.ref p) H))) (tCons te tNil) σ H Q :=
  h _ fun p H' c => by
    obtain ⟨vs, ds, h1, h2, h3, h4⟩ := c.ex
    refine ⟨p, vs, rfl, .inl ⟨sq_of h1, fun l hl => q (.ref l) (.tuple ds) _ (c.fr.trans (Fr.new c.fr.bag hl)) (dpt_new c.fr.bag hl (dps_same (hid_same p _) _ _ h2)) ⟨ds, rfl, by rw [← dps_len h2]; exact h3, h4⟩⟩⟩
/-- a table of drawn worths -/
def spTab (K : PySem.W.Frag) : Sp := fun vs H Q _ => ∃ (b l : Addr) (ks : List Int), vs = [.ref b, .ref l] ∧ Bag H b ∧ l ≠ b ∧ H l = some (.lst (ks.map V.int)) ∧ (∀ k ∈ ks, 0 ≤ k ∧ k < 1000) ∧ ks.length ≤ 1000 ∧ ∀ v d H', Fr b H H' → Dp K (hid b H') v d → gd 0 2 d = true → Q v H'
theorem gd_pair {k r : Int} (h0 : 0 ≤ k) (h1 : k < 100000) (h2 : 0 ≤ r) (h3 : r < 100000) : gd 0 1 (.tuple [.int k, .int r]) = true := by
  refine gd_tup.mpr ⟨by simp, fun d m => ?_⟩
  simp only [List.mem_cons, List.not_mem_nil, or_false] at m
  rcases m with rfl | rfl
  · exact decide_eq_true (by have : (100000 : Nat) ≤ 10 ^ 31 := by decide
                             omega)
  · exact decide_eq_true (by have : (100000 : Nat) ≤ 10 ^ 31 := by decide
                             omega)
end
end Tc
namespace Tc
open PySem L2 Evl
section
variable {X : Cx}
def rAddB : R2 := fun x y H Q => ∃ (k : Bool) (i : Int), x = .bl k ∧ y = .int i ∧ Q (.int ((if k = true then (1 : Int) else 0) + i)) H
def rSubB : R2 := fun x y H Q => ∃ (k : Bool) (i : Int), x = .bl k ∧ y = .int i ∧ Q (.int ((if k = true then (1 : Int) else 0) - i)) H
def rNegB : V → Hp → VK → Prop := fun x H Q => ∃ k : Bool, x = .bl k ∧ Q (.int (-(if k = true then (1 : Int) else 0))) H
def rStrB : List V → Hp → VK → Prop := fun xs H Q => ∃ k : Bool, xs = [.bl k] ∧ Q (.str (if k = true then "True" else "False")) H
theorem op_add_bi : OpR X (binaryOp .Add) rAddB := by
  intro pins s σ H x y v u Q I rx ry h
  obtain ⟨k, i, rfl, rfl, q⟩ := h
  cases (show v = Value.bool k from rx)
  obtain ⟨t, rfl⟩ := ry
  exact IntBool.add_bool_int ⟨.int _, H, I.tok _, ⟨_, rfl⟩, q⟩
theorem op_sub_bi : OpR X (binaryOp .Sub) rSubB := by
  intro pins s σ H x y v u Q I rx ry h
  obtain ⟨k, i, rfl, rfl, q⟩ := h
  cases (show v = Value.bool k from rx)
  obtain ⟨t, rfl⟩ := ry
  exact IntBool.sub_bool_int ⟨.int _, H, I.tok _, ⟨_, rfl⟩, q⟩
theorem gives_neg_b (k : Bool) : Gives (Builtin.«int.__neg__» ⟨[.bool k], []⟩) (.int (-(if k = true then (1 : Int) else 0))) := .of_eq (by cases k <;> rfl)
theorem un_neg_b : UnR X (unaryOp .USub) rNegB := by
  intro pins s σ H x v Q I rx h
  obtain ⟨k, rfl, q⟩ := h
  cases (show v = Value.bool k from rx)
  exact unaryOp_gives (op := .USub) (typeIs_bool s k) rfl F.slot_bool_neg F.entry_int_neg (F.args_int_neg_1 _) (gives_neg_b k) ⟨.int _, H, I.tok _, ⟨_, rfl⟩, q⟩
theorem call_str_b : CallR X (.type "str") rStrB := by
  intro pins s σ H xs us Q I r h
  obtain ⟨k, rfl, q⟩ := h
  obtain ⟨u, rfl, r1⟩ := vals1 r
  cases (show u = Value.bool k from r1)
  refine PySem.P.str_of_bool ?_
  cases k with
  | true => exact ⟨.str "True", H, I.tok _, ⟨_, rfl⟩, q⟩
  | false => exact ⟨.str "False", H, I.tok _, ⟨_, rfl⟩, q⟩
end
theorem gd_int {c n : Nat} {i : Int} : gd c n (.int i) = true ↔ i.natAbs ≤ 10 ^ 31 + 1000 * c := by
  cases n <;> (rw [gd, decide_eq_true_eq])
theorem gd_str {c n : Nat} {z : Str} : gd c n (.str z) = true ↔ z.length ≤ 100 * 3 ^ c := by
  cases n <;> (rw [gd, decide_eq_true_eq])
theorem text_len {i : Int} {c : Nat} (hc : c ≤ 1000) (h : i.natAbs ≤ 10 ^ 31 + 1000 * c) : (Str.ofString (toString i)).length ≤ 33 := by
  have e := int_text_length_le10 (a := i) (k := 32) (by decide) (by
    have : (10 : Nat) ^ 32 = 10 * 10 ^ 31 := by decide
    have : (1000000 : Nat) ≤ 10 ^ 31 := by decide
    omega)
  rw [ofString_length]
  exact e
theorem log_small {i : Int} {c : Nat} (hc : c ≤ 1000) (h : i.natAbs ≤ 10 ^ 31 + 1000 * c) : i.natAbs.log2 < 1920 := by
  have h1 : i.natAbs < 2 ^ 200 := by
    have : (10 : Nat) ^ 31 + 1000 * 1000 < 2 ^ 200 := by decide
    omega
  by_cases h0 : i.natAbs = 0
  · rw [h0]
    decide
  · have := (Nat.log2_lt h0).mpr h1
    omega
end Tc
/-! data kept apart from a set of objects (the bag, lists under work) -/
namespace Tc
open PySem L2 Evl
open Classical in
noncomputable def cut (S : Addr → Prop) (H : Hp) : Hp := fun a => if S a then none else H a
theorem cut_in {S : Addr → Prop} {H : Hp} {a : Addr} (h : S a) : cut S H a = none := by
  unfold cut
  rw [if_pos h]
theorem cut_at {S : Addr → Prop} {H : Hp} {a : Addr} {o : HO} (h : H a = some o) (n : ¬ S a) : cut S H a = some o := by
  unfold cut
  rw [if_neg n]
  exact h
theorem cut_same (S : Addr → Prop) (H : Hp) : Same (cut S H) H := fun a o h => by
  by_cases n : S a
  · rw [cut_in n] at h
    cases h
  · unfold cut at h
    rw [if_neg n] at h
    exact h
theorem cut_out {S : Addr → Prop} {H : Hp} {a : Addr} {o : HO} (h : cut S H a = some o) : ¬ S a := fun n => by
  rw [cut_in n] at h
  cases h
theorem cut_hid (b : Addr) (H : Hp) : cut (fun a => a = b) H = hid b H := by
  funext a
  unfold cut hid
  by_cases h : a = b
  · rw [if_pos h, if_pos h]
  · rw [if_neg h, if_neg h]
/-- what is kept apart is there -/
structure Sok (S : Addr → Prop) (b : Addr) (H : Hp) : Prop where
  mem : S b
  old : ∀ a, S a → H a ≠ none
section
variable {S : Addr → Prop} {b : Addr} {K : PySem.W.Frag} {σ : L2.St} {H H' : Hp} {ta tb tc te : TE} {t : TT} {x y z v : V} {d : PyData}
theorem Sok.fr (h : Sok S b H) (f : Fr b H H') : Sok S b H' := ⟨h.mem, fun a m => by
  by_cases e : a = b
  · obtain ⟨x, y, hb, _⟩ := f.bag
    rw [e, hb]
    exact fun z => nomatch z
  · cases h1 : H a with
    | none => exact absurd h1 (h.old a m)
    | some o =>
      rw [f.at h1 e]
      exact fun z => nomatch z⟩
theorem Sok.new (h : Sok S b H) {p : Addr} (hp : H p = none) : ¬ S p := fun m => h.old p m hp
theorem cut_sm (h : S b) (f : Fr b H H') : Same (cut S H) (cut S H') := fun a o e => by
  have n := cut_out e
  exact cut_at (f.at (cut_same S H a o e) fun z => n (z ▸ h)) n
/-- the objects of S may change -/
theorem cut_upd {p : Addr} {o : HO} (h : S p) : cut S (upd H p o) = cut S H := by
  funext a
  unfold cut
  by_cases m : S a
  · rw [if_pos m, if_pos m]
  · rw [if_neg m, if_neg m, upd_ne (fun z : a = p => m (z ▸ h))]
theorem cdt_new {p : Addr} {vs : List V} {ds : List PyData} (hS : Sok S b H) (hB : Bag H b) (hp : H p = none) (h : DpAll K (cut S H) vs ds) : Dp K (cut S (upd H p (.tup vs))) (.ref p) (.tuple ds) :=
  .tup (st_of (cut_at upd_same (hS.new hp))) (dps_same (cut_sm hS.mem (Fr.new hB hp)) _ _ h)
theorem cdl_new {p : Addr} {vs : List V} {ds : List PyData} (hS : Sok S b H) (hB : Bag H b) (hp : H p = none) (h : DpAll K (cut S H) vs ds) : Dp K (cut S (upd H p (.lst vs))) (.ref p) (.list ds) :=
  .lst (sq_of (cut_at upd_same (hS.new hp))) (dps_same (cut_sm hS.mem (Fr.new hB hp)) _ _ h)
def CD (S : Addr → Prop) (b : Addr) (K : PySem.W.Frag) (te : TE) (σ : L2.St) (H : Hp) (d : PyData) : Prop := ∀ H1, Fr b H H1 → ∀ Q : VK, (∀ v H2, Fr b H1 H2 → Dp K (cut S H2) v d → Q v H2) → te σ H1 Q
def CDA (S : Addr → Prop) (b : Addr) (K : PySem.W.Frag) (ta : TA) (σ : L2.St) (H : Hp) (ds : List PyData) : Prop := ∀ H1, Fr b H H1 → ∀ Q : List V → Hp → Prop, (∀ vs H2, Fr b H1 H2 → DpAll K (cut S H2) vs ds → Q vs H2) → ta σ H1 Q
def CDL (S : Addr → Prop) (b : Addr) (K : PySem.W.Frag) (te : TE) (σ : L2.St) (H : Hp) (ds : List PyData) : Prop := ∀ H1, Fr b H H1 → ∀ Q : VK, (∀ p vs H2, Fr b H1 H2 → H1 p = none → p ≠ b → H2 p = some (.lst vs) → DpAll K (cut S H2) vs ds → Q (.ref p) H2) → te σ H1 Q
theorem cd_c (h : ∀ H, Dp K H v d) : CD S b K (tC v) σ H d := fun H1 e _ q => q v H1 (Fr.refl e.bag) (h _)
theorem cd_neg {i : Int} : CD S b K (tUn (rU fun i => .int (-i)) (tC (.int i))) σ H (.int (-i)) := fun H1 e _ q => ⟨i, rfl, q _ H1 (Fr.refl e.bag) (.int _)⟩
theorem cd_pow {i j : Int} (h : CPow i j) : CD S b K (tOp (rI CPow fun i j => .int (i ^ j.toNat)) (tC (.int i)) (tC (.int j))) σ H (.int (i ^ j.toNat)) := fun H1 e _ q => ⟨i, j, rfl, rfl, h, q _ H1 (Fr.refl e.bag) (.int _)⟩
theorem cda_nil : CDA S b K tNil σ H [] := fun H1 e _ q => q [] H1 (Fr.refl e.bag) .nil
theorem cda_cons {tr : TA} {ds : List PyData} (hS : S b) (h : CD S b K te σ H d) (r : CDA S b K tr σ H ds) : CDA S b K (tCons te tr) σ H (d :: ds) := fun H1 e _ q =>
  h H1 e _ fun v H2 e2 hv => r H2 (e.trans e2) _ fun vs H3 e3 hvs => q (v :: vs) H3 (e2.trans e3) (.cons (dp_same (cut_sm hS e3) _ _ hv) hvs)
theorem cd_tup {ta : TA} {ds : List PyData} (hS : Sok S b H) (h : CDA S b K ta σ H ds) (hl : ds.length ≤ 100000) : CD S b K (tTup ta) σ H (.tuple ds) := fun H1 e _ q =>
  h H1 e _ fun vs H2 e2 hv => ⟨sz_of (by rw [dps_len hv]; exact hl), fun p hp => q (.ref p) _ (e2.trans (Fr.new e2.bag hp)) (cdt_new ((hS.fr e).fr e2) e2.bag hp hv)⟩
theorem cd_lst {ta : TA} {ds : List PyData} (hS : Sok S b H) (h : CDA S b K ta σ H ds) (hl : ds.length ≤ 100000) : CD S b K (tLst ta) σ H (.list ds) := fun H1 e _ q =>
  h H1 e _ fun vs H2 e2 hv => ⟨sz_of (by rw [dps_len hv]; exact hl), fun p hp => q (.ref p) _ (e2.trans (Fr.new e2.bag hp)) (cdl_new ((hS.fr e).fr e2) e2.bag hp hv)⟩
theorem cdl_lst {ta : TA} {ds : List PyData} (hS : S b) (h : CDA S b K ta σ H ds) (hl : ds.length ≤ 100000) : CDL S b K (tLst ta) σ H ds := fun H1 e _ q =>
  h H1 e _ fun vs H2 e2 hv => ⟨sz_of (by rw [dps_len hv]; exact hl), fun p hp => q p vs _ (e2.trans (Fr.new e2.bag hp)) (fr_back' e2 hp) (e2.bag.ne hp) upd_same (dps_same (cut_sm hS (Fr.new e2.bag hp)) _ _ hv)⟩
theorem cdl_cat {i : Nat} {p : Addr} {vs : List V} {ds es : List PyData} (hS : S b) (hσ : σ[i]? = some (some (.ref p))) (hp : H p = some (.lst vs)) (hpb : p ≠ b) (hd : DpAll K (cut S H) vs ds) (h : CDL S b K tb σ H es) (hl : ds.length + es.length ≤ 100000) :
    CDL S b K (tOp rCat (tVar i) tb) σ H (ds ++ es) := fun H1 e _ q => ⟨.ref p, hσ, h H1 e _ fun r ws H2 e2 hr hrb hr2 hd2 => ⟨p, r, vs, ws, rfl, rfl, (e.trans e2).at hp hpb, hr2, sz_of (by rw [dps_len hd, dps_len hd2]; exact hl), fun s hs =>
  q s (vs ++ ws) _ (e2.trans (Fr.new e2.bag hs)) (fr_back' e2 hs) (e2.bag.ne hs) upd_same (dps_app (dps_same (cut_sm hS ((e.trans e2).trans (Fr.new e2.bag hs))) _ _ hd) (dps_same (cut_sm hS (Fr.new e2.bag hs)) _ _ hd2))⟩⟩
/-- the promise of a def that hands back data, drawing -/
def spNew (K : PySem.W.Frag) (g : PyData → Bool) : Sp := fun vs H Q _ => ∃ (b : Addr) (S : Addr → Prop), vs = [.ref b] ∧ Bag H b ∧ Sok S b H ∧ ∀ v d H', Fr b H H' → Dp K (cut S H') v d → g d = true → Q v H'
/-- one drawn item of a list of data -/
theorem cdraw_item {i j : Nat} {p : Addr} {vs : List V} {ds : List PyData} {Q : VK} {E : XK} (hS : S b) (hB : Bag H b) (hσ : σ[i]? = some (some (.ref p))) (hσ2 : σ[j]? = some (some (.ref b))) (hp : H p = some (.lst vs)) (hpb : p ≠ b) (hd : DpAll K (cut S H) vs ds) (h0 : 0 < ds.length) (hl : ds.length < 1000)
    (q : ∀ v d H', Fr b H H' → d ∈ ds → Dp K (cut S H') v d → Q v H') : tOp (rIxL K) (tVar i) (tCall spTake [] E (tCons (tVar j) (tCons (tCB (rLenS K) (tCons (tVar i) tNil)) tNil))) σ H Q := by
  refine ⟨.ref p, hσ, .ref b, hσ2, .ref p, hσ, p, vs, rfl, .inl (sq_of hp), b, _, rfl, hB, ?_, ?_, fun r H' fr h0' h1' => ?_⟩
  · have := dps_len hd
    omega
  · have := dps_len hd
    omega
  · obtain ⟨n, rfl⟩ : ∃ n : Nat, r = (n : Int) := ⟨r.toNat, by omega⟩
    have hlt : n < vs.length := by omega
    obtain ⟨d, hd1, hd2⟩ := dps_at hd (List.getElem?_eq_getElem hlt)
    exact ⟨p, vs, n, vs[n], rfl, rfl, sq_of (fr.at hp hpb), atI_nat (List.getElem?_eq_getElem hlt), q _ d H' fr (List.mem_of_getElem? hd1) (dp_same (cut_sm hS fr) _ _ hd2)⟩
end
end Tc
namespace Tc
open PySem L2 Evl
section
variable {S : Addr → Prop} {b : Addr} {K : PySem.W.Frag} {σ : L2.St} {H H' : Hp} {ta tb tc te : TE} {t : TT} {x y z v : V} {d : PyData}
theorem ev_isiT (ha : Ev ta σ H v) (h : Dp K H v d) : Ev (tCB (rIsiT K) (tCons ta (tCons (tTup (tCons (tC (.ty "tuple")) (tCons (tC (.ty "list")) tNil))) tNil))) σ H (.bl (isTup d || isLst d)) := fun H1 e Q q =>
  ha H1 e _ fun H2 e2 => ⟨sz_of (by simp), fun p hp => ⟨v, p, [.ty "tuple", .ty "list"], .type (tyN d), [.type "tuple", .type "list"], isTup d || isLst d, rfl, upd_same, .cons (.ty _) (.cons (.ty _) .nil), ty_dp (dp_same ((e.trans e2).trans (Ex.new hp)) _ _ h),
    kitAny_cons (kit_ty (kit_tuple (dp_nodict h))) (fun e1 => kitAny_cons (kit_ty (kit_list (dp_nodict h))) (fun e3 => by rw [e1, e3]; exact kitAny_nil) fun e3 => by rw [e1, e3]; rfl) (fun e1 => by rw [e1]; rfl), q _ (e2.trans (Ex.new hp))⟩⟩
theorem cd_ev (h : ∀ H, Ev te σ H v) (hd : ∀ H, Dp K H v d) : CD S b K te σ H d := fun H1 e _ q => h H1 H1 (Ex.refl H1) _ fun H2 x2 => q v H2 (Fr.ex e.bag x2) (hd _)
theorem cd_item {ds : List PyData} {j : Nat} (hS : S b) (h : CDL S b K ta σ H ds) (hb : ∀ H, Ev tb σ H (.int (j : Int))) (hj : ds[j]? = some d) : CD S b K (tOp (rIxL K) ta tb) σ H d := fun H1 e _ q =>
  h H1 e _ fun p vs H2 f2 hp hpb h2 hd => hb H2 H2 (Ex.refl H2) _ fun H3 x3 => by
    obtain ⟨v, hv, hv2⟩ := dps_at' hd hj
    exact ⟨p, vs, j, v, rfl, rfl, sq_of (x3 p _ h2), atI_nat hv, q v H3 (f2.trans (Fr.ex f2.bag x3)) (dp_same (cut_sm hS (Fr.ex f2.bag x3)) _ _ hv2)⟩
def rAddSt : R2 := fun x y H Q => ∃ i j, x = .str i ∧ y = .str j ∧ i.length + j.length ≤ sizeLine ∧ Q (.str (i ++ j)) H
theorem rv_addS {i j : Str} (h : i.length + j.length ≤ 10000000) : RV rAddSt (.str i) (.str j) H (.str (i ++ j)) := fun H1 _ _ q => ⟨i, j, rfl, rfl, Nat.le_trans h (by decide), q H1 (Ex.refl H1)⟩
theorem ev_slS {tl th : TO} {s : Str} {lo hi : Option Int} (h : Ev te σ H (.str s)) (h1 : EvO tl σ H lo) (h2 : EvO th σ H hi) (hs : s.length ≤ 10000000) : Ev (tSl rSlS te tl th) σ H (.str (cutS s lo hi)) := fun H1 e _ q =>
  h H1 e _ fun H2 e2 => h1 H2 (e.trans e2) _ fun H3 e3 => h2 H3 ((e.trans e2).trans e3) _ fun H4 e4 => ⟨s, rfl, Nat.le_trans hs (by decide), q H4 ((e2.trans e3).trans e4)⟩
theorem ev_upper {s : Str} (h : Ev te σ H (.str s)) (hs : s.length ≤ 5592405) : Ev (tM0 (fun x xs H Q => ∃ a, x = .str a ∧ xs = [] ∧ a.length ≤ 5592405 ∧ Q (.str (Txt.upper a)) H) te) σ H (.str (Txt.upper s)) := fun H1 e _ q =>
  h H1 e _ fun H2 e2 => ⟨⟨s, rfl⟩, s, rfl, rfl, hs, q H2 e2⟩
theorem ev_strI {i : Int} (h : Ev te σ H (.int i)) (hs : i.natAbs.log2 < 1920) : Ev (tCB (fun xs H Q => ∃ i, xs = [.int i] ∧ i.natAbs.log2 < 1920 ∧ Q (.str (toString i)) H) (tCons te tNil)) σ H (.str (toString i)) := ev_cb (ea_cons h ea_nil) fun H1 _ _ q => ⟨i, rfl, hs, q H1 (Ex.refl H1)⟩
theorem ev_strB {k : Bool} (h : Ev te σ H (.bl k)) : Ev (tCB rStrB (tCons te tNil)) σ H (.str (if k = true then "True" else "False")) := ev_cb (ea_cons h ea_nil) fun H1 _ _ q => ⟨k, rfl, q H1 (Ex.refl H1)⟩
theorem rv_addB {k : Bool} {i : Int} : RV rAddB (.bl k) (.int i) H (.int ((if k = true then (1 : Int) else 0) + i)) := fun H1 _ _ q => ⟨k, i, rfl, rfl, q H1 (Ex.refl H1)⟩
theorem rv_subB {k : Bool} {i : Int} : RV rSubB (.bl k) (.int i) H (.int ((if k = true then (1 : Int) else 0) - i)) := fun H1 _ _ q => ⟨k, i, rfl, rfl, q H1 (Ex.refl H1)⟩
theorem ru_negB {k : Bool} : RU rNegB (.bl k) H (.int (-(if k = true then (1 : Int) else 0))) := fun H1 _ _ q => ⟨k, rfl, q H1 (Ex.refl H1)⟩
/-- the promise of the def that spoils data -/
def spSp (K : PySem.W.Frag) (n : Nat) : Sp := fun vs H Q _ => ∃ (b : Addr) (v : V) (d : PyData) (S : Addr → Prop) (c : Nat), vs = [.ref b, v] ∧ Bag H b ∧ Sok S b H ∧ Dp K (cut S H) v d ∧ gd c n d = true ∧ c ≤ 8 ∧
  ∀ v' d' H', Fr b H H' → Dp K (cut S H') v' d' → gd (c + 1) (n + 3) d' = true → Q v' H'
end
theorem pow_bd {c : Nat} (h : c ≤ 9) : 100 * 3 ^ c ≤ 1968300 ∧ 100 ≤ 100 * 3 ^ c := by
  have h1 : 3 ^ c ≤ 3 ^ 9 := Nat.pow_le_pow_right (by decide) h
  have h2 : 1 ≤ 3 ^ c := Nat.pos_of_ne_zero (by
    have := Nat.pow_pos (n := c) (show 0 < 3 by decide)
    omega)
  have h3 : (3 : Nat) ^ 9 = 19683 := by decide
  omega
end Tc
namespace Tc
open PySem L2 Evl
section
variable {S : Addr → Prop} {b : Addr} {K : PySem.W.Frag} {σ : L2.St} {H H' : Hp} {ta tb tc te : TE} {t : TT} {x y z v : V} {d : PyData}
/-- one more object kept apart -/
def also (S : Addr → Prop) (l : Addr) : Addr → Prop := fun a => S a ∨ a = l
theorem also_same {l : Addr} : Same (cut (also S l) H) (cut S H) := fun a o h => cut_at (cut_same _ _ _ _ h) fun m => cut_out h (.inl m)
theorem also_new {l : Addr} (hS : S b) (f : Fr b H H') (hl : H l = none) : Same (cut S H) (cut (also S l) H') := fun a o h => by
  have n := cut_out h
  have h1 := cut_same S H a o h
  refine cut_at (f.at h1 fun z => n (z ▸ hS)) fun m => ?_
  rcases m with m | m
  · exact n m
  · rw [m, hl] at h1
    cases h1
theorem Sok.also {l : Addr} (h : Sok S b H) (hl : H l ≠ none) : Sok (also S l) b H := ⟨.inl h.mem, fun a m => by
  rcases m with m | m
  · exact h.old a m
  · rw [m]
    exact hl⟩
def SQ (K : PySem.W.Frag) (H : Hp) (a : Addr) (xs : List V) : Prop := SqL K H a xs ∨ SqT K H a xs
theorem SQ.same {a : Addr} {xs : List V} (h : SQ K H a xs) (e : Same H H') : SQ K H' a xs := by
  rcases h with h | h
  · exact .inl (ex_l e h)
  · exact .inr (ex_t e h)
theorem ev_lenQ {p : Addr} {xs : List V} (ha : Ev ta σ H (.ref p)) (h : SQ K H p xs) : Ev (tCB (rLenS K) (tCons ta tNil)) σ H (.int (xs.length : Int)) := fun H1 e Q q =>
  ha H1 e _ fun H2 e2 => ⟨p, xs, rfl, h.same (e.trans e2), q H2 e2⟩
theorem cut_len1 (xs : List V) (k : Nat) : (cutV xs none (some (k : Int))).length ≤ k := by
  unfold cutV
  rw [HT.sIx_nat, HT.sIx_none, List.length_take]
  omega
theorem cut_len2 (xs : List V) (k : Nat) : (cutV xs (some (k : Int)) none).length ≤ xs.length - k := by
  unfold cutV
  rw [HT.sIx_nat, HT.sIx_none, List.length_take, List.length_drop]
  omega
theorem dps_cut {xs : List V} {ds : List PyData} (lo hi : Option Int) (h : DpAll K H xs ds) : ∃ es, DpAll K H (cutV xs lo hi) es ∧ ∀ e ∈ es, e ∈ ds := by
  unfold cutV
  exact ⟨_, dps_take _ (dps_drop _ h), fun e m => List.mem_of_mem_drop (List.mem_of_mem_take m)⟩
theorem mem_set {α : Type} {l : List α} {n : Nat} {a e : α} (h : e ∈ l.set n a) : e ∈ l ∨ e = a := by
  rcases List.mem_or_eq_of_mem_set h with h | h
  · exact .inl h
  · exact .inr h
end
end Tc
namespace K01
open PySem L2 PyProof.Rows Tc
/-! ### the text -/
def topS (i : Nat) : Stmt := PySem.Challenge.pw_tidecopy_k01_tables_told.main.body.getD i (.Pass ⟨0, 0, 0, 0⟩)
abbrev sNum : Stmt := topS 4
abbrev sKey : Stmt := topS 5
abbrev sWorth : Stmt := topS 6
abbrev sRow : Stmt := topS 7
abbrev sRows : Stmt := topS 8
abbrev sTable : Stmt := topS 9
theorem scNum : FnScope ["thing"] ["thing"] (defScope sNum) := ⟨rfl, rfl, rfl, by decide +kernel, rfl, by decide +kernel, by decide +kernel⟩
theorem scKey : FnScope ["thing"] ["thing"] (defScope sKey) := ⟨rfl, rfl, rfl, by decide +kernel, rfl, by decide +kernel, by decide +kernel⟩
theorem scWorth : FnScope ["thing"] ["thing"] (defScope sWorth) := ⟨rfl, rfl, rfl, by decide +kernel, rfl, by decide +kernel, by decide +kernel⟩
theorem scRow : FnScope ["thing"] ["thing"] (defScope sRow) := ⟨rfl, rfl, rfl, by decide +kernel, rfl, by decide +kernel, by decide +kernel⟩
theorem scRows : FnScope ["thing", "first", "last", "least", "row"] ["thing", "first", "last"] (defScope sRows) := ⟨rfl, rfl, rfl, by decide +kernel, rfl, by decide +kernel, by decide +kernel⟩
theorem scTable : FnScope ["thing"] ["thing"] (defScope sTable) := ⟨rfl, rfl, rfl, by decide +kernel, rfl, by decide +kernel, by decide +kernel⟩
/-- what the module's names hold -/
structure Names (mg : Str → Option Value) : Prop where
  isinstance : mg "isinstance" = none
  int : mg "int" = none
  bool : mg "bool" = none
  tuple : mg "tuple" = none
  list : mg "list" = none
  str : mg "str" = none
  len : mg "len" = none
  set : mg "set" = none
  sorted : mg "sorted" = none
  range : mg "range" = none
  abs : mg "abs" = none
  min : mg "min" = none
  KEYS : ∃ t, mg "KEYS" = some (.int 1000 t)
  WORTHS : ∃ t, mg "WORTHS" = some (.int 1000 t)
  MOST_ROWS : ∃ t, mg "MOST_ROWS" = some (.int 100 t)
/-! ### the mathematics -/
def isNum : PyData → Bool
  | .int _ => true | _ => false
theorem isNum_eq (d : PyData) : isNum d = (isInt d && !isBool d) := by cases d <;> rfl
def isKey : PyData → Bool
  | .int i => decide (0 ≤ i) && decide (i < 1000) | _ => false
def isRow : PyData → Bool
  | .tuple [k, w] => isKey k && isKey w | _ => false
def keyOf : PyData → Int
  | .tuple (.int k :: _) => k | _ => 0
def rising : Int → List PyData → Bool
  | _, [] => true
  | least, d :: r => isRow d && decide (least ≤ keyOf d) && rising (keyOf d + 1) r
def isTable : PyData → Bool
  | .tuple ds => decide (ds.length ≤ 100) && rising 0 ds | _ => false
section
open Evl
variable {P : Program} {w : World} {K : PySem.W.Frag} {mg : Str → Option Value} {base : Heap}
theorem ok_num {f : Addr} {fd : FuncData} {k : Nat} (F : Fun K "is_number" "is_number" sNum f fd) (N : Names mg) : FnOk P w K mg base CX0 (k + 1) f fd ["thing"] (spTold K isNum) := by
  refine F.ok scNum (fun vs H Q E h => ?_) (fun cdv A outer s H vs Q E hr h => ?_)
  · obtain ⟨v, d, rfl, _⟩ := h
    rfl
  · obtain ⟨v, d, rfl, hd, q⟩ := h
    refine ⟨_, pss_one (ps_ret (pe_and (pe_callB call_isi (by rfl) N.isinstance boot_isinstance (pa_cons (pv 0) (pa_cons (pe_bltn (v := .ty "int") (by rfl) N.int boot_int rfl) pa_nil)))
      (pe_one (pe_not (pe_callB call_isi (by rfl) N.isinstance boot_isinstance (pa_cons (pv 0) (pa_cons (pe_bltn (v := .ty "bool") (by rfl) N.bool boot_bool rfl) pa_nil))))))), ?_⟩
    rw [isNum_eq] at q
    exact s_ret (ev_andV (ev_int (ev_var rfl) hd) fun _ => ev_notV (ev_bool (ev_var rfl) hd)) q
theorem num_int {H : Hp} {v : V} {d : PyData} (h : Dp K H v d) (e : isNum d = true) : ∃ i, v = .int i ∧ d = .int i := by
  cases h with
  | int i => exact ⟨i, rfl, rfl⟩
  | _ => cases e
theorem key_eq (d : PyData) : (isNum d && isKey d) = isKey d := by cases d <;> rfl
theorem ok_key {f : Addr} {fd : FuncData} {k : Nat} (F : Fun K "is_key" "is_key" sKey f fd) (N : Names mg) (dN : Own P w K mg base "is_number" ["thing"] k (spTold K isNum)) : FnOk P w K mg base CX0 (k + 1) f fd ["thing"] (spTold K isKey) := by
  refine F.ok scKey (fun vs H Q E h => ?_) (fun cdv A outer s H vs Q E hr h => ?_)
  · obtain ⟨v, d, rfl, _⟩ := h
    rfl
  · obtain ⟨v, d, rfl, hd, q⟩ := h
    obtain ⟨tk, hK⟩ := N.KEYS
    refine ⟨_, pss_one (ps_ret (pe_and (pe_own dN hr (Nat.le_refl _) (by rfl) (pa_cons (pv 0) pa_nil)) (pe_one (pe_chain op_le op_lt pe_int (pv 0) (pe_glob (v := .int 1000) (by rfl) hK ⟨_, rfl⟩))))), ?_⟩
    refine s_ret (ev_is (ev_andV (b := isKey d) (ev_told (ev_var rfl) hd) fun e => ?_) (congrArg V.bl (key_eq d))) q
    obtain ⟨i, rfl, rfl⟩ := num_int hd e
    exact ev_chain (p := fun i j => decide (i ≤ j)) (p' := fun i j => decide (i < j)) ev_c (ev_var rfl) ev_c
theorem ok_worth {f : Addr} {fd : FuncData} {k : Nat} (F : Fun K "is_worth" "is_worth" sWorth f fd) (N : Names mg) (dN : Own P w K mg base "is_number" ["thing"] k (spTold K isNum)) : FnOk P w K mg base CX0 (k + 1) f fd ["thing"] (spTold K isKey) := by
  refine F.ok scWorth (fun vs H Q E h => ?_) (fun cdv A outer s H vs Q E hr h => ?_)
  · obtain ⟨v, d, rfl, _⟩ := h
    rfl
  · obtain ⟨v, d, rfl, hd, q⟩ := h
    obtain ⟨tk, hK⟩ := N.WORTHS
    refine ⟨_, pss_one (ps_ret (pe_and (pe_own dN hr (Nat.le_refl _) (by rfl) (pa_cons (pv 0) pa_nil)) (pe_one (pe_chain op_le op_lt pe_int (pv 0) (pe_glob (v := .int 1000) (by rfl) hK ⟨_, rfl⟩))))), ?_⟩
    refine s_ret (ev_is (ev_andV (b := isKey d) (ev_told (ev_var rfl) hd) fun e => ?_) (congrArg V.bl (key_eq d))) q
    obtain ⟨i, rfl, rfl⟩ := num_int hd e
    exact ev_chain (p := fun i j => decide (i ≤ j)) (p' := fun i j => decide (i < j)) ev_c (ev_var rfl) ev_c
theorem tup_dp {H : Hp} {v : V} {d : PyData} (h : Dp K H v d) (e : isTup d = true) : ∃ a xs ds, v = .ref a ∧ d = .tuple ds ∧ SqT K H a xs ∧ DpAll K H xs ds := by
  cases h with
  | tup h r => exact ⟨_, _, _, rfl, rfl, h, r⟩
  | _ => cases e
def rowB : PyData → Bool
  | .tuple ds => decide ((ds.length : Int) = 2) && (isKey (ds.getD 0 .none) && isKey (ds.getD 1 .none)) | _ => false
theorem row_eq (d : PyData) : (isTup d && rowB d) = isRow d := by
  cases d with
  | tuple ds =>
    match ds with
    | [] => rfl
    | [_] => rfl
    | [x, y] => rfl
    | x :: y :: z :: r =>
      show (decide ((((r.length + 1 + 1 + 1 : Nat)) : Int) = 2) && (isKey x && isKey y)) = false
      rw [decide_eq_false (by omega)]
      rfl
  | _ => rfl
theorem ok_row {f : Addr} {fd : FuncData} {k : Nat} (F : Fun K "is_row" "is_row" sRow f fd) (N : Names mg) (dK : Own P w K mg base "is_key" ["thing"] k (spTold K isKey)) (dW : Own P w K mg base "is_worth" ["thing"] k (spTold K isKey)) :
    FnOk P w K mg base CX0 (k + 1) f fd ["thing"] (spTold K isRow) := by
  refine F.ok scRow (fun vs H Q E h => ?_) (fun cdv A outer s H vs Q E hr h => ?_)
  · obtain ⟨v, d, rfl, _⟩ := h
    rfl
  · obtain ⟨v, d, rfl, hd, q⟩ := h
    refine ⟨_, pss_one (ps_ret (pe_and (pe_callB call_isi (by rfl) N.isinstance boot_isinstance (pa_cons (pv 0) (pa_cons (pe_bltn (v := .ty "tuple") (by rfl) N.tuple boot_tuple rfl) pa_nil)))
      (pe_and (pe_cmpR op_eq (pe_callB call_len_seq (by rfl) N.len PySem.boot_len (pa_cons (pv 0) pa_nil)) pe_int (nomark _))
      (pe_and (pe_own dK hr (Nat.le_refl _) (by rfl) (pa_cons (pe_ix ix_tup (pv 0) pe_int (fun _ _ => rfl)) pa_nil))
      (pe_one (pe_own dW hr (Nat.le_refl _) (by rfl) (pa_cons (pe_ix ix_tup (pv 0) pe_int (fun _ _ => rfl)) pa_nil))))))), ?_⟩
    refine s_ret (ev_is (ev_andV (b := rowB d) (ev_tuple (ev_var rfl) hd) fun e => ?_) (congrArg V.bl (row_eq d))) q
    obtain ⟨a, xs, ds, rfl, rfl, hT, hA⟩ := tup_dp hd e
    have hl := dps_len hA
    refine ev_andV (ev_is (ev_op (ev_lenT (ev_var rfl) hT) ev_c (rv_eq rfl)) (congrArg V.bl ?_)) fun e2 => ?_
    · rw [hl]
      exact decide_eq_decide.mpr ⟨fun z => V.int.inj z, fun z => congrArg V.int z⟩
    · have e3 : ds.length = 2 := by
        have := of_decide_eq_true e2
        omega
      obtain ⟨d0, d1, rfl⟩ := two_of e3
      cases hA with
      | cons h0 r =>
        cases r with
        | cons h1 r2 =>
          cases r2
          exact ev_andV (a := isKey d0) (b := isKey d1) (ev_told (ev_ix0 (ev_var rfl) hT) h0) fun _ => ev_told (ev_ix1 (ev_var rfl) hT) h1
end
end K01
namespace K01
open PySem L2 PyProof.Rows Tc Evl
section
variable {P : Program} {w : World} {K : PySem.W.Frag} {mg : Str → Option Value} {base : Heap}
theorem key_int {H : Hp} {v : V} {d : PyData} (h : Dp K H v d) (e : isKey d = true) : ∃ i, v = .int i ∧ d = .int i ∧ 0 ≤ i ∧ i < 1000 := by
  cases h with
  | int i =>
    have p : (decide (0 ≤ i) && decide (i < 1000)) = true := e
    rw [Bool.and_eq_true, decide_eq_true_eq, decide_eq_true_eq] at p
    exact ⟨i, rfl, rfl, p.1, p.2⟩
  | _ => cases e
theorem row_two {ds : List PyData} (e : isRow (.tuple ds) = true) : ∃ d0 d1, ds = [d0, d1] ∧ isKey d0 = true ∧ isKey d1 = true := by
  match ds, e with
  | [d0, d1], e =>
    have e' : (isKey d0 && isKey d1) = true := e
    rw [Bool.and_eq_true] at e'
    exact ⟨d0, d1, rfl, e'.1, e'.2⟩
theorem row_dp {H : Hp} {v : V} {d : PyData} (h : Dp K H v d) (e : isRow d = true) : ∃ (a : Addr) (k z : Int), v = .ref a ∧ d = .tuple [.int k, .int z] ∧ SqT K H a [.int k, .int z] ∧ 0 ≤ k ∧ k < 1000 ∧ 0 ≤ z ∧ z < 1000 := by
  cases h with
  | @tup a xs ds h r =>
    obtain ⟨d0, d1, rfl, k0, k1⟩ := row_two e
    cases r with
    | cons h0 r =>
      cases r with
      | cons h1 r2 =>
        cases r2
        obtain ⟨k, rfl, rfl, p1, p2⟩ := key_int h0 k0
        obtain ⟨z, rfl, rfl, p3, p4⟩ := key_int h1 k1
        exact ⟨a, k, z, rfl, rfl, h, p1, p2, p3, p4⟩
  | _ => cases e
theorem rising_cons (l : Int) (ds : List PyData) (i : Nat) (d : PyData) (h : ds[i]? = some d) : rising l (ds.drop i) = (isRow d && decide (l ≤ keyOf d) && rising (keyOf d + 1) (ds.drop (i + 1))) := by
  have hi := (List.getElem?_eq_some_iff.mp h)
  obtain ⟨h1, h2⟩ := hi
  rw [List.drop_eq_getElem_cons h1, h2]
  rfl
/-- rows from a least key on, less than last -/
def risB (last : Int) : Int → List PyData → Bool
  | _, [] => true
  | least, d :: r => isRow d && (decide (least ≤ keyOf d) && decide (keyOf d < last)) && risB last (keyOf d + 1) r
theorem risB_cons (last l : Int) (ds : List PyData) (i : Nat) (d : PyData) (h : ds[i]? = some d) : risB last l (ds.drop i) = (isRow d && (decide (l ≤ keyOf d) && decide (keyOf d < last)) && risB last (keyOf d + 1) (ds.drop (i + 1))) := by
  obtain ⟨h1, h2⟩ := List.getElem?_eq_some_iff.mp h
  rw [List.drop_eq_getElem_cons h1, h2]
  rfl
theorem row_key {d : PyData} (h : isRow d = true) : keyOf d < 1000 := by
  unfold isRow at h
  split at h
  · rename_i k w
    rw [Bool.and_eq_true] at h
    cases k with
    | int i =>
      have h1 := h.1
      unfold isKey at h1
      rw [Bool.and_eq_true] at h1
      exact of_decide_eq_true h1.2
    | _ => cases h.1
  · cases h
theorem risB_all : ∀ (ds : List PyData) (l : Int), risB 1000 l ds = rising l ds
  | [], _ => rfl
  | d :: ds, l => by
    show (isRow d && (decide (l ≤ keyOf d) && decide (keyOf d < 1000)) && risB 1000 (keyOf d + 1) ds) = (isRow d && decide (l ≤ keyOf d) && rising (keyOf d + 1) ds)
    rw [risB_all ds]
    cases hr : isRow d with
    | false => rfl
    | true => rw [decide_eq_true (row_key hr), Bool.and_true]
def rowsB (a b : Int) : PyData → Bool
  | .tuple ds => risB b a ds
  | _ => false
theorem table_rows (d : PyData) : isTable d = (rowsB 0 1000 d && (match d with | .tuple ds => decide (ds.length ≤ 100) | _ => false)) := by
  cases d with
  | tuple ds =>
    show (decide (ds.length ≤ 100) && rising 0 ds) = (risB 1000 0 ds && decide (ds.length ≤ 100))
    rw [risB_all, Bool.and_comm]
  | _ => rfl
def spRowsT (K : PySem.W.Frag) : Sp := fun vs H Q _ => ∃ (v : V) (d : PyData) (a b : Int), vs = [v, .int a, .int b] ∧ Dp K H v d ∧ ∀ H', Ex H H' → Q (.bl (rowsB a b d)) H'
theorem ok_rows {f : Addr} {fd : FuncData} {k : Nat} (F : Fun K "is_rows" "is_rows" sRows f fd) (N : Names mg) (dR : Own P w K mg base "is_row" ["thing"] k (spTold K isRow)) :
    FnOk P w K mg base CX0 (k + 1) f fd ["thing", "first", "last"] (spRowsT K) := by
  refine F.ok scRows (fun vs H Q E h => ?_) (fun cdv A outer s H vs Q E hr h => ?_)
  · obtain ⟨v, d, a, b, rfl, _⟩ := h
    rfl
  · obtain ⟨v, d, lo, hi, rfl, hd, q⟩ := h
    refine ⟨_, pss_cons (ps_if (pt_not (pt_val (pe_callB call_isi (by rfl) N.isinstance boot_isinstance (pa_cons (pv 0) (pa_cons (pe_bltn (v := .ty "tuple") (by rfl) N.tuple boot_tuple rfl) pa_nil))))) (pss_one (ps_ret pe_bl)) pss_nil)
      (pss_cons (ps_set (i := 3) scRows.nd rfl (.inl rfl) (pv 1))
      (pss_cons (ps_for PassesOwn.never rfl (pi_tup (pv 0)) (pg_name (i := 4) scRows.nd rfl (.inl rfl))
        (pss_cons (ps_if (PW.pt (pw_or (pt_not (pt_val (pe_own dR hr (Nat.le_refl _) (by rfl) (pa_cons (pv 4) pa_nil))))
            (pw_or1 (pt_not (pt_chain op_le op_lt (pv 3) (pe_ix ix_tup (pv 4) pe_int (fun _ _ => rfl)) (pv 2)))))) (pss_one (ps_ret pe_bl)) pss_nil)
          (pss_one (ps_set (i := 3) scRows.nd rfl (.inl rfl) (pe_op op_add (pe_ix ix_tup (pv 4) pe_int (fun _ _ => rfl)) pe_int)))))
      (pss_one (ps_ret pe_bl)))), ?_⟩
    cases hT : isTup d with
    | false =>
      have e0 : rowsB lo hi d = false := by
        cases d <;> first | rfl | cases hT
      rw [e0] at q
      exact s_seq (s_if (b := true) (et_is (et_not (et_B (ev_tuple (ev_var rfl) hd))) (by rw [hT]; rfl)) (fun _ H1 x1 => s_ret ev_c fun H2 x2 => q H2 (x1.trans x2)) fun e => by cases e)
    | true =>
      obtain ⟨a, xs, ds, rfl, rfl, hS, hA⟩ := tup_dp hd hT
      have hl := dps_len hA
      have q' : ∀ H', Ex H H' → Q (.bl (risB hi lo ds)) H' := q
      refine s_seq (s_if (b := false) (et_is (et_not (et_B (ev_tuple (ev_var rfl) hd))) (by rw [hT]; rfl)) (fun e => by cases e) fun _ H1 x1 => s_next ?_)
      refine s_seq (s_asg (ev_var rfl) fun H2 x2 => s_seq ?_)
      refine s_forT (K := K) (a := a) (xs := xs) (ev_var rfl) (ex_t (x1.trans x2) hS) (fun i σ' H' => ∃ l y, σ' = [some (.ref a), some (.int lo), some (.int hi), some (.int l), y] ∧ Ex H H' ∧ risB hi lo ds = risB hi l (ds.drop i)) (fun H3 x3 => ⟨lo, none, rfl, (x1.trans x2).trans x3, rfl⟩) (fun i σ' H' _ p => ?_) (fun i x σ' H' hx p => ?_) (fun σ' H' p => ?_)
      · obtain ⟨_, _, _, xx, _⟩ := p
        exact ex_t xx hS
      · obtain ⟨l, y, rfl, xx, er⟩ := p
        obtain ⟨dx, hdx, hD⟩ := dps_at hA hx
        have hD' := dp_same xx _ _ hD
        rw [risB_cons hi l ds i dx hdx] at er
        show tSeq _ _ _ [some (V.ref a), some (V.int lo), some (V.int hi), some (V.int l), some x] H'
        cases hR : isRow dx with
        | false =>
          rw [hR] at er
          refine s_if (et_or (et_not (et_B (ev_told (ev_var rfl) hD'))) (b := false) fun e => ?_) (fun _ H1 x1 => s_ret ev_c fun H2 x2 => ?_) (fun e => ?_)
          · rw [hR] at e
            cases e
          · rw [er] at q'
            exact q' H2 ((xx.trans x1).trans x2)
          · rw [hR] at e
            cases e
        | true =>
          obtain ⟨b, kk, z, rfl, rfl, hb, _⟩ := row_dp hD' hR
          rw [hR] at er
          have er2 : risB hi lo ds = ((decide (l ≤ kk) && decide (kk < hi)) && risB hi (kk + 1) (ds.drop (i + 1))) := er
          refine s_if (et_or (et_not (et_B (ev_told (ev_var rfl) hD'))) fun e => et_not (et_test (ev_chain (p := fun i j => decide (i ≤ j)) (p' := fun i j => decide (i < j)) (ev_var rfl) (ev_ix0 (ev_var rfl) hb) (ev_var rfl)))) (fun e H1 x1 => s_ret ev_c fun H2 x2 => ?_) (fun e H1 x1 => ?_)
          · rw [hR] at e
            have e1 : (!(decide (l ≤ kk) && decide (kk < hi))) = true := e
            have e3 : (decide (l ≤ kk) && decide (kk < hi)) = false := by
              cases hz : (decide (l ≤ kk) && decide (kk < hi)) with
              | false => rfl
              | true =>
                rw [hz] at e1
                cases e1
            rw [er2, e3] at q'
            exact q' H2 ((xx.trans x1).trans x2)
          · rw [hR] at e
            have e1 : (!(decide (l ≤ kk) && decide (kk < hi))) = false := e
            have e3 : (decide (l ≤ kk) && decide (kk < hi)) = true := by
              cases hz : (decide (l ≤ kk) && decide (kk < hi)) with
              | true => rfl
              | false =>
                rw [hz] at e1
                cases e1
            rw [e3] at er2
            refine s_next (s_asg (ev_op (ev_ix0 (ev_var rfl) (ex_t x1 hb)) ev_c rv_I0) fun H2 x2 => ?_)
            exact ⟨kk + 1, _, rfl, (xx.trans x1).trans x2, er2⟩
      · obtain ⟨l, y, rfl, xx, er⟩ := p
        rw [hl, List.drop_length] at er
        have er3 : risB hi lo ds = true := er
        rw [er3] at q'
        dsimp only
        exact s_ret ev_c fun H2 x2 => q' H2 (xx.trans x2)
theorem ev_rowsT {σ : L2.St} {H : Hp} {ta tb tc : TE} {v : V} {d : PyData} {a b : Int} {E : XK} (ha : Ev ta σ H v) (h : Dp K H v d) (hb : Ev tb σ H (.int a)) (hc : Ev tc σ H (.int b)) : Ev (tCall (spRowsT K) [] E (tCons ta (tCons tb (tCons tc tNil)))) σ H (.bl (rowsB a b d)) :=
  ev_call (ea_cons ha (ea_cons hb (ea_cons hc ea_nil))) fun H1 e Q q E => ⟨v, d, a, b, rfl, dp_same e _ _ h, fun H' e' => q H' e'⟩
theorem ok_table {f : Addr} {fd : FuncData} {k : Nat} (F : Fun K "is_table" "is_table" sTable f fd) (N : Names mg) (dR : Own P w K mg base "is_rows" ["thing", "first", "last"] k (spRowsT K)) :
    FnOk P w K mg base CX0 (k + 1) f fd ["thing"] (spTold K isTable) := by
  refine F.ok scTable (fun vs H Q E h => ?_) (fun cdv A outer s H vs Q E hr h => ?_)
  · obtain ⟨v, d, rfl, _⟩ := h
    rfl
  · obtain ⟨v, d, rfl, hd, q⟩ := h
    obtain ⟨tk, hK⟩ := N.KEYS
    obtain ⟨tm, hM⟩ := N.MOST_ROWS
    refine ⟨_, pss_one (ps_ret (pe_and (pe_own dR hr (Nat.le_refl _) (by rfl) (pa_cons (pv 0) (pa_cons pe_int (pa_cons (pe_glob (v := .int 1000) (by rfl) hK ⟨_, rfl⟩) pa_nil))))
      (pe_one (pe_cmpR op_le (pe_callB call_len_seq (by rfl) N.len PySem.boot_len (pa_cons (pv 0) pa_nil)) (pe_glob (v := .int 100) (by rfl) hM ⟨_, rfl⟩) (nomark _))))), ?_⟩
    rw [table_rows] at q
    refine s_ret (ev_andV (ev_rowsT (ev_var rfl) hd ev_c ev_c) fun e => ?_) q
    cases d with
    | tuple ds =>
      obtain ⟨a, xs, ds', e1, e2, hS, hA⟩ := tup_dp hd rfl
      cases e1
      cases e2
      exact ev_is (ev_op (ev_lenT (ev_var rfl) hS) ev_c rv_I0) (by
        rw [dps_len hA]
        show V.bl (decide ((ds.length : Int) ≤ 100)) = V.bl (decide (ds.length ≤ 100))
        congr 1
        exact decide_eq_decide.mpr (by omega))
    | _ => cases e
end
end K01
namespace K01
open PySem L2 PyProof.Rows Tc Evl
abbrev sBag : Stmt := topS 11
abbrev sTake : Stmt := topS 12
theorem scBag : FnScope ["script", "k", "cell"] ["script", "k"] (defScope sBag) := ⟨rfl, rfl, rfl, by decide +kernel, rfl, by decide +kernel, by decide +kernel⟩
theorem scTake : FnScope ["bag", "many", "found"] ["bag", "many"] (defScope sTake) := ⟨rfl, rfl, rfl, by decide +kernel, rfl, by decide +kernel, by decide +kernel⟩
section
variable {P : Program} {w : World} {K : PySem.W.Frag} {mg : Str → Option Value} {base : Heap}
theorem ok_take {f : Addr} {fd : FuncData} {k : Nat} (F : Fun K "_law_take" "_law_take" sTake f fd) : FnOk P w K mg base CX0 (k + 1) f fd ["bag", "many"] spTake := by
  refine F.ok scTake (fun vs H Q E h => ?_) (fun cdv A outer s H vs Q E hr h => ?_)
  · obtain ⟨b, m, rfl, _⟩ := h
    rfl
  · obtain ⟨b, m, rfl, ⟨x, y, hb, hx, hy, hz⟩, hm, hm2, q⟩ := h
    refine ⟨_, pss_cons (ps_if (pt_cmpR op_gt (pe_ix ix_list (pv 0) pe_int (fun _ _ => rfl)) pe_int (nomark _))
        (pss_cons (ps_set (i := 2) scTake.nd rfl (.inl rfl) (pe_op op_mod (pe_ix ix_list (pv 0) pe_int (fun _ _ => rfl)) (pv 1)))
        (pss_cons (ps_asg (pe_op op_fdiv (pe_ix ix_list (pv 0) pe_int (fun _ _ => rfl)) (pv 1)) (pg_sub (pv 0) pe_int set_list))
        (pss_one (ps_ret (pv 2))))) pss_nil)
      (pss_cons (ps_asg (pe_op op_mod (pe_op op_mul (pe_ix ix_list (pv 0) pe_int (fun _ _ => rfl)) pe_int) pe_int) (pg_sub (pv 0) pe_int set_list))
      (pss_one (ps_ret (pe_op op_mod (pe_op op_fdiv (pe_op op_mod (pe_op op_mul (pe_ix ix_list (pv 0) pe_int (fun _ _ => rfl)) (pe_ix ix_list (pv 0) pe_int (fun _ _ => rfl))) pe_int) pe_int) (pv 1))))), ?_⟩
    have hS : SqL K H b [.int x, .int y] := sq_of hb
    refine s_if (et_test (ev_op (ev_l0 (ev_var rfl) hS) ev_c rv_I0)) (fun e H1 x1 => ?_) (fun e H1 x1 => ?_)
    · refine s_seq (s_asg (ev_op (ev_l0 (ev_var rfl) (ex_l x1 hS)) (ev_var rfl) (rv_mod hm)) fun H2 x2 => s_seq ?_)
      refine s_setL (l := b) (j := 0) (x2 b _ (x1 b _ hb)) (ev_op (ev_l0 (ev_var rfl) (ex_l (x1.trans x2) hS)) (ev_var rfl) (rv_fdiv hm hm2)) (ev_var rfl) ev_c (by simp) fun H3 x3 => ?_
      refine s_ret (ev_var rfl) fun H4 x4 => q _ _ ((Fr.put ((x1.trans x2).trans x3) (Int.ediv_nonneg hx (by omega)) hy hz).trans (Fr.ex ?_ x4)) (Int.emod_nonneg _ (by omega)) (Int.emod_lt_of_pos _ hm)
      exact ⟨x / m, y, upd_same, Int.ediv_nonneg hx (by omega), hy, hz⟩
    · have hS1 := ex_l x1 hS
      refine s_next (s_seq (s_setL (l := b) (j := 1) (x1 b _ hb) (ev_op (ev_op (ev_l1 (ev_var rfl) hS1) ev_c (rv_mul (.inl ⟨by omega, by omega⟩))) ev_c (rv_mod (by decide))) (ev_var rfl) ev_c (by simp) fun H2 x2 => ?_))
      have y1 := Int.emod_nonneg (y * 48271) (b := 2147483647) (by decide)
      have y2 := Int.emod_lt_of_pos (y * 48271) (b := 2147483647) (by decide)
      generalize hyy : y * 48271 % 2147483647 = yy at y1 y2
      have hb2 : (upd H2 b (.lst [.int x, .int yy])) b = some (.lst [.int x, .int yy]) := upd_same
      have hB : Bag (upd H2 b (.lst [.int x, .int yy])) b := ⟨x, yy, upd_same, hx, y1, by omega⟩
      have hS2 : SqL K (upd H2 b (.lst [.int x, .int yy])) b [.int x, .int yy] := sq_of upd_same
      refine s_ret (ev_op (ev_op (ev_op (ev_op (ev_l1 (ev_var rfl) hS2) (ev_l1 (ev_var rfl) hS2) (rv_mul (.inl ⟨by omega, by omega⟩))) ev_c (rv_mod (by decide))) ev_c (rv_fdiv (by decide) (by decide))) (ev_var rfl) (rv_mod hm)) fun H4 x4 => ?_
      exact q _ _ ((Fr.put (x1.trans x2) hx y1 (by omega)).trans (Fr.ex hB x4)) (Int.emod_nonneg _ (by omega)) (Int.emod_lt_of_pos _ hm)
theorem ok_bag {f : Addr} {fd : FuncData} {k : Nat} (F : Fun K "_law_bag" "_law_bag" sBag f fd) (N : Names mg) : FnOk P w K mg base CX0 (k + 1) f fd ["script", "k"] (spBag K) := by
  refine F.ok scBag (fun vs H Q E h => ?_) (fun cdv A outer s H vs Q E hr h => ?_)
  · obtain ⟨a, ns, k, rfl, _⟩ := h
    rfl
  · obtain ⟨a, ns, n, rfl, hS, hn, q⟩ := h
    refine ⟨_, pss_cons (ps_set (i := 2) scBag.nd rfl (.inl rfl) pe_int)
      (Evl.pss_cut (ps_if (pt_cmpR op_lt (pv 1) (pe_callB call_len_seq (by rfl) N.len PySem.boot_len (pa_cons (pv 0) pa_nil)) (nomark _)) (pss_one (ps_set (i := 2) scBag.nd rfl (.inl rfl) (pe_callB call_abs (by rfl) N.abs boot_abs (pa_cons (pe_ix ix_list (pv 0) (pv 1) (fun _ _ => rfl)) pa_nil)))) pss_nil)
      (pss_cons (ps_if (pt_cmpR op_lt (pv 2) (pe_op op_pow pe_int pe_int) (nomark _)) (pss_one (ps_ret (pe_lst (pa_cons pe_int (pa_cons (pe_op op_add pe_int (pe_op op_mod (pe_op op_add (pe_op op_mul (pv 2) pe_int) (pe_op op_mul pe_int (pv 1))) pe_int)) pa_nil))))) pss_nil)
      (pss_one (ps_ret (pe_lst (pa_cons (pv 2) (pa_cons (pe_op op_add pe_int (pe_op op_mod (pe_op op_add (pv 2) (pv 1)) pe_int)) pa_nil))))))), ?_⟩
    refine s_seq (s_asg ev_c fun H1 x1 => ⟨fun σ' H' => ∃ c : Int, σ' = [some (.ref a), some (.int (n : Int)), some (.int c)] ∧ Ex H H' ∧ 0 ≤ c, ?_, fun σ' H' m => ?_⟩)
    · refine s_if (et_test (ev_op (ev_var rfl) (ev_len (ev_var rfl) (ex_l x1 hS)) rv_I0)) (fun e H2 x2 => ?_) (fun e H2 x2 => ⟨0, rfl, x1.trans x2, by decide⟩)
      have e1 := of_decide_eq_true e
      rw [List.length_map] at e1
      have hlt : n < ns.length := by omega
      have hx : (ns.map V.int)[n]? = some (.int ns[n]) := by
        rw [List.getElem?_map, List.getElem?_eq_getElem hlt]
        rfl
      refine s_asg (ev_abs (ev_lx (ev_var rfl) (ev_var rfl) (ex_l (x1.trans x2) hS) hx)) fun H3 x3 => ⟨_, rfl, (x1.trans x2).trans x3, ?_⟩
      split <;> omega
    · obtain ⟨c, rfl, xx, hc⟩ := m
      refine s_seq (s_if (et_test (ev_op (ev_var rfl) (ev_op ev_c ev_c (rv_pow ⟨by decide, by decide, by decide⟩)) rv_I0)) (fun e H2 x2 => ?_) (fun e H2 x2 => s_next ?_))
      · refine s_retL (el_lst (ea_cons ev_c (ea_cons (ev_op ev_c (ev_op (ev_op (ev_op (ev_var rfl) ev_c (rv_mul (.inr ⟨by decide, by decide⟩))) (ev_op ev_c (ev_var rfl) (rv_mul (.inl ⟨by decide, by decide⟩))) rv_add) ev_c (rv_mod (by decide))) rv_add) ea_nil)) (by simp)) fun p H3 hp x3 hb => ?_
        have y1 := Int.emod_nonneg (c * 7919 + 104729 * (n : Int)) (b := 2147483646) (by decide)
        have y2 := Int.emod_lt_of_pos (c * 7919 + 104729 * (n : Int)) (b := 2147483646) (by decide)
        exact q p H3 (fresh_back (xx.trans x2) hp) ((xx.trans x2).trans x3) ⟨_, _, hb, by decide, by omega, by omega⟩
      · refine s_retL (el_lst (ea_cons (ev_var rfl) (ea_cons (ev_op ev_c (ev_op (ev_op (ev_var rfl) (ev_var rfl) rv_add) ev_c (rv_mod (by decide))) rv_add) ea_nil)) (by simp)) fun p H3 hp x3 hb => ?_
        have y1 := Int.emod_nonneg (c + (n : Int)) (b := 2147483646) (by decide)
        have y2 := Int.emod_lt_of_pos (c + (n : Int)) (b := 2147483646) (by decide)
        exact q p H3 (fresh_back (xx.trans x2) hp) ((xx.trans x2).trans x3) ⟨_, _, hb, hc, by omega, by omega⟩
end
end K01
namespace K01
open PySem L2 PyProof.Rows Tc Evl
abbrev sWithin : Stmt := topS 13
abbrev sPair : Stmt := topS 18
abbrev sPairs : Stmt := topS 19
abbrev sLTable : Stmt := topS 20
theorem scWithin : FnScope ["thing", "least", "most"] ["thing", "least", "most"] (defScope sWithin) := ⟨rfl, rfl, rfl, by decide +kernel, rfl, by decide +kernel, by decide +kernel⟩
theorem scPair : FnScope ["thing"] ["thing"] (defScope sPair) := ⟨rfl, rfl, rfl, by decide +kernel, rfl, by decide +kernel, by decide +kernel⟩
theorem scPairs : FnScope ["thing", "keys", "pair"] ["thing"] (defScope sPairs) := ⟨rfl, rfl, rfl, by decide +kernel, rfl, by decide +kernel, by decide +kernel⟩
theorem scLTable : FnScope ["thing"] ["thing"] (defScope sLTable) := ⟨rfl, rfl, rfl, by decide +kernel, rfl, by decide +kernel, by decide +kernel⟩
def within (lo hi : Int) : PyData → Bool
  | .int i => decide (lo ≤ i) && decide (i ≤ hi) | _ => false
theorem within_eq (lo hi : Int) (d : PyData) : (isInt d && (!isBool d && within lo hi d)) = within lo hi d := by
  cases d <;> first | rfl | (simp [isInt, isBool, within])
theorem within_key (d : PyData) : within 0 999 d = isKey d := by
  cases d with
  | int i =>
    show (decide (0 ≤ i) && decide (i ≤ 999)) = (decide (0 ≤ i) && decide (i < 1000))
    rw [show decide (i ≤ 999) = decide (i < 1000) from decide_eq_decide.mpr (by omega)]
  | _ => rfl
section
variable {P : Program} {w : World} {K : PySem.W.Frag} {mg : Str → Option Value} {base : Heap}
def spWithin (K : PySem.W.Frag) : Sp := fun vs H Q _ => ∃ (v : V) (d : PyData) (lo hi : Int), vs = [v, .int lo, .int hi] ∧ Dp K H v d ∧ ∀ H', Ex H H' → Q (.bl (within lo hi d)) H'
theorem ok_within {f : Addr} {fd : FuncData} {k : Nat} (F : Fun K "_law_within" "_law_within" sWithin f fd) (N : Names mg) : FnOk P w K mg base CX0 (k + 1) f fd ["thing", "least", "most"] (spWithin K) := by
  refine F.ok scWithin (fun vs H Q E h => ?_) (fun cdv A outer s H vs Q E hr h => ?_)
  · obtain ⟨v, d, lo, hi, rfl, _⟩ := h
    rfl
  · obtain ⟨v, d, lo, hi, rfl, hd, q⟩ := h
    refine ⟨_, pss_one (ps_ret (pe_and (pe_callB call_isi (by rfl) N.isinstance boot_isinstance (pa_cons (pv 0) (pa_cons (pe_bltn (v := .ty "int") (by rfl) N.int boot_int rfl) pa_nil)))
      (pe_and (pe_not (pe_callB call_isi (by rfl) N.isinstance boot_isinstance (pa_cons (pv 0) (pa_cons (pe_bltn (v := .ty "bool") (by rfl) N.bool boot_bool rfl) pa_nil))))
      (pe_one (pe_chain op_le op_le (pv 1) (pv 0) (pv 2)))))), ?_⟩
    refine s_ret (ev_is (ev_andV (ev_int (ev_var rfl) hd) fun e => ev_andV (b := within lo hi d) (ev_notV (ev_bool (ev_var rfl) hd)) fun e2 => ?_) (congrArg V.bl (within_eq lo hi d))) q
    cases hd with
    | int i => exact ev_chain (p := fun i j => decide (i ≤ j)) (p' := fun i j => decide (i ≤ j)) (ev_var rfl) (ev_var rfl) (ev_var rfl)
    | bl b => cases e2
    | _ => cases e
theorem ev_within {σ : L2.St} {H : Hp} {ta tb tc : TE} {E : XK} {v : V} {d : PyData} {lo hi : Int} (ha : Ev ta σ H v) (hb : Ev tb σ H (.int lo)) (hc : Ev tc σ H (.int hi)) (h : Dp K H v d) : Ev (tCall (spWithin K) [] E (tCons ta (tCons tb (tCons tc tNil)))) σ H (.bl (within lo hi d)) :=
  ev_call (ea_cons ha (ea_cons hb (ea_cons hc ea_nil))) fun H1 e Q q E => ⟨v, d, lo, hi, rfl, dp_same e _ _ h, fun H' e' => q H' e'⟩
theorem ok_pair {f : Addr} {fd : FuncData} {k : Nat} (F : Fun K "_law_is_pair" "_law_is_pair" sPair f fd) (N : Names mg) (dW : Own P w K mg base "_law_within" ["thing", "least", "most"] k (spWithin K)) : FnOk P w K mg base CX0 (k + 1) f fd ["thing"] (spTold K isRow) := by
  refine F.ok scPair (fun vs H Q E h => ?_) (fun cdv A outer s H vs Q E hr h => ?_)
  · obtain ⟨v, d, rfl, _⟩ := h
    rfl
  · obtain ⟨v, d, rfl, hd, q⟩ := h
    refine ⟨_, pss_cons (ps_if (PW.pt (pw_or (pt_not (pt_val (pe_callB call_isi (by rfl) N.isinstance boot_isinstance (pa_cons (pv 0) (pa_cons (pe_bltn (v := .ty "tuple") (by rfl) N.tuple boot_tuple rfl) pa_nil)))))
        (pw_or1 (pt_cmpR op_ne (pe_callB call_len_seq (by rfl) N.len PySem.boot_len (pa_cons (pv 0) pa_nil)) pe_int (nomark _))))) (pss_one (ps_ret pe_bl)) pss_nil)
      (pss_one (ps_ret (pe_and (pe_own dW hr (Nat.le_refl _) (by rfl) (pa_cons (pe_ix ix_tup (pv 0) pe_int (fun _ _ => rfl)) (pa_cons pe_int (pa_cons pe_int pa_nil))))
        (pe_one (pe_own dW hr (Nat.le_refl _) (by rfl) (pa_cons (pe_ix ix_tup (pv 0) pe_int (fun _ _ => rfl)) (pa_cons pe_int (pa_cons pe_int pa_nil)))))))), ?_⟩
    cases hT : isTup d with
    | false =>
      have e0 : isRow d = false := by
        rw [← row_eq, hT]
        rfl
      rw [e0] at q
      refine s_seq (s_if (et_or (et_not (et_B (ev_tuple (ev_var rfl) hd))) (b := false) fun e => ?_) (fun _ H1 x1 => s_ret ev_c fun H2 x2 => q H2 (x1.trans x2)) (fun e => ?_))
      · rw [hT] at e
        cases e
      · rw [hT] at e
        cases e
    | true =>
      obtain ⟨a, xs, ds, rfl, rfl, hS, hA⟩ := tup_dp hd hT
      have hl := dps_len hA
      refine s_seq (s_if (et_or (et_not (et_B (ev_tuple (ev_var rfl) hd))) fun e => et_test (ev_op (ev_lenT (ev_var rfl) hS) ev_c (rv_ne rfl))) (fun e H1 x1 => s_ret ev_c fun H2 x2 => ?_) (fun e H1 x1 => s_next ?_))
      · have e1 : (!decide (V.int (xs.length : Int) = V.int 2)) = true := e
        have e2 : ¬ ((ds.length : Int) = 2) := fun z => by
          rw [hl, z] at e1
          cases e1
        have e3 : isRow (.tuple ds) = false := by
          rw [← row_eq]
          show (true && (decide ((ds.length : Int) = 2) && _)) = false
          rw [decide_eq_false e2]
          rfl
        rw [e3] at q
        exact q H2 (x1.trans x2)
      · have e1 : (!decide (V.int (xs.length : Int) = V.int 2)) = false := e
        have e2 : ds.length = 2 := by
          have : decide (V.int (xs.length : Int) = V.int 2) = true := by
            cases h : decide (V.int (xs.length : Int) = V.int 2) with
            | true => rfl
            | false =>
              rw [h] at e1
              cases e1
          have := V.int.inj (of_decide_eq_true this)
          omega
        obtain ⟨d0, d1, rfl⟩ := two_of e2
        cases hA with
        | cons h0 r =>
          cases r with
          | cons h1 r2 =>
            cases r2
            refine s_ret (ev_is (ev_andV (ev_within (ev_ix0 (ev_var rfl) (ex_t x1 hS)) ev_c ev_c (dp_same x1 _ _ h0)) fun _ => ev_within (ev_ix1 (ev_var rfl) (ex_t x1 hS)) ev_c ev_c (dp_same x1 _ _ h1)) (congrArg V.bl ?_)) fun H2 x2 => q H2 (x1.trans x2)
            show (within 0 999 d0 && within 0 999 d1) = (isKey d0 && isKey d1)
            rw [within_key, within_key]
end
end K01
namespace K01
open PySem L2 PyProof.Rows Tc Evl
/-! ### the mathematics of rising keys -/
theorem rising_pw : ∀ (ds : List PyData) (l : Int), (∀ d ∈ ds, isRow d = true) → (rising l ds = true ↔ (∀ k ∈ ds.map keyOf, l ≤ k) ∧ (ds.map keyOf).Pairwise (· < ·))
  | [], l, _ => ⟨fun _ => ⟨fun k h => by simp at h, List.Pairwise.nil⟩, fun _ => rfl⟩
  | d :: ds, l, h => by
    have hd := h d List.mem_cons_self
    have ih := rising_pw ds (keyOf d + 1) fun e m => h e (List.mem_cons_of_mem _ m)
    rw [rising, hd, Bool.true_and, Bool.and_eq_true, decide_eq_true_eq, ih, List.map_cons, List.pairwise_cons]
    constructor
    · rintro ⟨h1, h2, h3⟩
      refine ⟨fun k m => ?_, fun k m => by have := h2 k m; omega, h3⟩
      rcases List.mem_cons.mp m with e | m
      · omega
      · have := h2 k m
        omega
    · rintro ⟨h1, h2, h3⟩
      exact ⟨h1 _ List.mem_cons_self, fun k m => by have := h2 k m; omega, h3⟩
theorem rising_rows : ∀ (ds : List PyData) (l : Int), rising l ds = true → ∀ d ∈ ds, isRow d = true
  | [], _, _, d, m => by simp at m
  | e :: ds, l, h, d, m => by
    rw [rising, Bool.and_eq_true, Bool.and_eq_true] at h
    rcases List.mem_cons.mp m with z | m
    · rw [z]
      exact h.1.1
    · exact rising_rows ds _ h.2 d m
theorem keyOf_bd {d : PyData} (h : isRow d = true) : 0 ≤ keyOf d ∧ keyOf d < 1000 := by
  cases d with
  | tuple ds =>
    obtain ⟨d0, d1, rfl, k0, k1⟩ := row_two h
    cases d0 with
    | int i =>
      have p : (decide (0 ≤ i) && decide (i < 1000)) = true := k0
      rw [Bool.and_eq_true, decide_eq_true_eq, decide_eq_true_eq] at p
      exact p
    | _ => cases k0
  | _ => cases h
def once (ks : List Int) : List Int := ((List.range 1000).map Int.ofNat).filter (fun k => decide (k ∈ ks))
theorem once_pw (ks : List Int) : (once ks).Pairwise (· < ·) := by
  unfold once
  refine List.Pairwise.filter _ (List.pairwise_map.mpr ?_)
  exact List.pairwise_lt_range.imp fun h => Int.ofNat_lt.mpr h
theorem once_mem (ks : List Int) (hb : ∀ k ∈ ks, 0 ≤ k ∧ k < 1000) (k : Int) : k ∈ once ks ↔ k ∈ ks := by
  unfold once
  rw [List.mem_filter, decide_eq_true_eq]
  refine ⟨fun h => h.2, fun h => ⟨?_, h⟩⟩
  have := hb k h
  exact List.mem_map.mpr ⟨k.toNat, List.mem_range.mpr (by omega), by
    show ((k.toNat : Nat) : Int) = k
    omega⟩
theorem once_eq (ks : List Int) (hb : ∀ k ∈ ks, 0 ≤ k ∧ k < 1000) : decide (ks = once ks) = true ↔ ks.Pairwise (· < ·) := by
  rw [decide_eq_true_eq]
  constructor
  · intro h
    rw [h]
    exact once_pw ks
  · intro h
    exact rising_one _ _ h (once_pw ks) fun k => (once_mem ks hb k).symm
theorem pairs_eq (ds : List PyData) (h : ∀ d ∈ ds, isRow d = true) : decide (ds.map keyOf = once (ds.map keyOf)) = rising 0 ds := by
  have hb : ∀ k ∈ ds.map keyOf, 0 ≤ k ∧ k < 1000 := fun k m => by
    obtain ⟨d, m2, rfl⟩ := List.mem_map.mp m
    exact keyOf_bd (h d m2)
  have h1 := once_eq _ hb
  have h2 := rising_pw ds 0 h
  rw [Bool.eq_iff_iff, h1, h2]
  exact ⟨fun p => ⟨fun k m => (hb k m).1, p⟩, fun p => p.2⟩
def arePairs : PyData → Bool
  | .tuple ds => rising 0 ds | _ => false
theorem table_eq (d : PyData) (b : Bool) (h : ∀ ds, d = .tuple ds → b = decide (ds.length ≤ 100)) : (arePairs d && b) = isTable d := by
  cases d with
  | tuple ds =>
    rw [h ds rfl]
    exact Bool.and_comm _ _
  | _ => rfl
def Short (d : PyData) : Prop := ∀ ds, d = .tuple ds → ds.length ≤ 2000
/-- the same, of data whose tuple is not too long -/
def spToldS (K : PySem.W.Frag) (f : PyData → Bool) : Sp := fun vs H Q _ => ∃ (v : V) (d : PyData), vs = [v] ∧ Dp K H v d ∧ Short d ∧ ∀ H', Ex H H' → Q (.bl (f d)) H'
section
variable {P : Program} {w : World} {K : PySem.W.Frag} {mg : Str → Option Value} {base : Heap}
theorem ev_toldS {σ : L2.St} {H : Hp} {ta : TE} {v : V} {d : PyData} {f : PyData → Bool} {E : XK} (ha : Ev ta σ H v) (h : Dp K H v d) (hz : Short d) : Ev (tCall (spToldS K f) [] E (tCons ta tNil)) σ H (.bl (f d)) :=
  ev_call (ea_cons ha ea_nil) fun H1 e Q q E => ⟨v, d, rfl, dp_same e _ _ h, hz, fun H' e' => q H' e'⟩
theorem ok_pairs {f : Addr} {fd : FuncData} {k : Nat} (F : Fun K "_law_are_pairs" "_law_are_pairs" sPairs f fd) (N : Names mg) (dP : Own P w K mg base "_law_is_pair" ["thing"] k (spTold K isRow)) :
    FnOk P w K mg base CX0 (k + 1) f fd ["thing"] (spToldS K arePairs) := by
  refine F.ok scPairs (fun vs H Q E h => ?_) (fun cdv A outer s H vs Q E hr h => ?_)
  · obtain ⟨v, d, rfl, _⟩ := h
    rfl
  · obtain ⟨v, d, rfl, hd, hz, q⟩ := h
    refine ⟨_, pss_cons (ps_if (PW.pt (pw_or (pt_not (pt_val (pe_callB call_isi (by rfl) N.isinstance boot_isinstance (pa_cons (pv 0) (pa_cons (pe_bltn (v := .ty "tuple") (by rfl) N.tuple boot_tuple rfl) pa_nil)))))
        (pw_or1 (pt_cmpR (op_neE hr.units) (pe_lc (own := [("pair", 2)]) (g := gName 2) rfl scPairs.nd (pi_tup (pv 0)) (blkOk_by (N := ["thing", "keys", "pair"]) (sc := defScope sPairs) (by decide +kernel)) (fun _ _ _ _ _ => pg_name (i := 2) scPairs.nd rfl (Or.inl rfl))
          (fun _ _ _ _ _ => pts_one (pt_not (pt_val (pe_own dP hr (Nat.le_refl _) (by rfl) (pa_cons (pv 2) pa_nil))))) (fun _ _ _ _ _ => pv 2)) (pe_lst pa_nil) (nomark _))))) (pss_one (ps_ret pe_bl)) pss_nil)
      (pss_cons (ps_setLc (i := 1) (own := [("pair", 2)]) (g := gName 2) (te := tOp (rIxT K) (tVar 2) (tC (.int 0))) rfl scPairs.nd rfl rfl (sw_true rfl rfl rfl (by decide +kernel)) (pi_tup (pv 0)) (blkOk_by (N := ["thing", "keys", "pair"]) (sc := defScope sPairs) (by decide +kernel)) (fun _ _ _ _ _ => pg_name (i := 2) scPairs.nd rfl (Or.inl rfl))
          (fun _ _ _ _ _ => pts_nil) (fun _ _ _ _ _ => pe_ix ix_tup (pv 2) pe_int (fun _ _ => rfl)))
      (pss_one (ps_ret (pe_cmpR (op_eqD hr.units) (pv 1) (pe_callB (cr_sortedSetA rfl) (by rfl) N.sorted boot_sorted (pa_cons (pe_callTy (cr_setL rfl) (by rfl) N.set boot_set (pa_cons (pv 1) pa_nil)) pa_nil)) (nomark _))))), ?_⟩
    cases hT : isTup d with
    | false =>
      have e0 : arePairs d = false := by
        cases d <;> first | rfl | cases hT
      rw [e0] at q
      refine s_seq (s_if (et_or (et_not (et_B (ev_tuple (ev_var rfl) hd))) (b := false) fun e => ?_) (fun _ H1 x1 => s_ret ev_c fun H2 x2 => q H2 (x1.trans x2)) (fun e => ?_))
      · rw [hT] at e
        cases e
      · rw [hT] at e
        cases e
    | true =>
      obtain ⟨a, xs, ds, rfl, rfl, hS, hA⟩ := tup_dp hd hT
      have hl := dps_len hA
      have hl2 := hz ds rfl
      have hat : ∀ {i : Nat} {x : V}, xs[i]? = some x → Dp K H x (ds.getD i .none) := fun {i x} e => by
        obtain ⟨dx, h1, h2⟩ := dps_at hA e
        rw [List.getD_eq_getElem?_getD, h1]
        exact h2
      refine s_seq (s_if (et_or (et_not (et_B (ev_tuple (ev_var rfl) hd))) fun e => et_test (ev_opLL (z := .bl (!(given xs.length (fun i => !isRow (ds.getD i .none)) (fun i => xs.getD i .non)).isEmpty)) (el_lcT (K := K) (fun i => !isRow (ds.getD i .none)) (fun i => xs.getD i .non) (ev_var rfl) hS (by omega) (fun x => rfl)
        (fun i x H1 e1 hx => et_not (et_B (ev_told (ev_var rfl) (dp_same e1 _ _ (hat hx))))) (fun i x H1 e1 hx _ => ev_is (ev_var rfl) (by rw [List.getD_eq_getElem?_getD, hx]; rfl))) (el_lst ea_nil (by decide)) fun p r H1 hp hr x1 H2 x2 Q q => ⟨p, r, _, rfl, rfl, sq_of (x2 p _ hp), sq_of (x2 r _ hr), q H2 (Ex.refl H2)⟩)) (fun e H1 x1 => s_ret ev_c fun H2 x2 => ?_) (fun e H1 x1 => s_next ?_))
      · have e1 : (!(given xs.length (fun i => !isRow (ds.getD i .none)) (fun i => xs.getD i .non)).isEmpty) = true := e
        have e2 : arePairs (.tuple ds) = false := by
          show rising 0 ds = false
          cases hr : rising 0 ds with
          | false => rfl
          | true =>
            have h1 := rising_rows ds 0 hr
            have h2 : (given xs.length (fun i => !isRow (ds.getD i .none)) (fun i => xs.getD i .non)).isEmpty = true := (given_empty _ _ _).mpr fun i hi => by
              have hi2 : i < ds.length := by omega
              rw [List.getD_eq_getElem?_getD, List.getElem?_eq_getElem hi2]
              show (!isRow ds[i]) = false
              rw [h1 _ (List.getElem_mem hi2)]
              rfl
            rw [h2] at e1
            cases e1
        rw [e2] at q
        exact q H2 (x1.trans x2)
      · have e1 : (!(given xs.length (fun i => !isRow (ds.getD i .none)) (fun i => xs.getD i .non)).isEmpty) = false := e
        have e2 : (given xs.length (fun i => !isRow (ds.getD i .none)) (fun i => xs.getD i .non)).isEmpty = true := by
          cases h : (given xs.length (fun i => !isRow (ds.getD i .none)) (fun i => xs.getD i .non)).isEmpty with
          | true => rfl
          | false =>
            rw [h] at e1
            cases e1
        have hrow : ∀ i, i < ds.length → isRow (ds.getD i .none) = true := fun i hi => by
          have h := (given_empty _ _ _).mp e2 i (by omega)
          cases h2 : isRow (ds.getD i .none) with
          | true => rfl
          | false =>
            rw [h2] at h
            cases h
        have hall : ∀ d ∈ ds, isRow d = true := fun d m => by
          obtain ⟨i, hi, rfl⟩ := List.mem_iff_getElem.mp m
          have h := hrow i hi
          rw [List.getD_eq_getElem?_getD, List.getElem?_eq_getElem hi] at h
          exact h
        have q' : ∀ H', Ex H H' → Q (.bl (decide (ds.map keyOf = once (ds.map keyOf)))) H' := by
          rw [pairs_eq ds hall]
          exact q
        have hb : ∀ k ∈ ds.map keyOf, 0 ≤ k ∧ k < 1000 := fun k m => by
          obtain ⟨d, m2, rfl⟩ := List.mem_map.mp m
          exact keyOf_bd (hall d m2)
        have hks : (given xs.length (fun _ => true) (fun i => V.int (keyOf (ds.getD i .none)))) = (ds.map keyOf).map V.int := by
          rw [given_all, hl]
          apply List.ext_getElem
          · simp
          · intro i h1 h2
            simp only [List.length_map] at h2
            simp [List.getD_eq_getElem?_getD, List.getElem?_eq_getElem h2]
        refine s_seq (s_asgL (el_lcT (K := K) (fun _ => true) (fun i => V.int (keyOf (ds.getD i .none))) (ev_var rfl) (ex_t x1 hS) (by omega) (fun x => rfl) (fun i x H2 e2 hx => et_yes) fun i x H2 e2 hx _ => ?_) fun p H2 hp x2 h2 => ?_)
        · have hi : i < ds.length := by
            have := (List.getElem?_eq_some_iff.mp hx).1
            omega
          obtain ⟨b, kk, z, rfl, e4, hb2, _⟩ := row_dp (dp_same (x1.trans e2) _ _ (hat hx)) (hrow i hi)
          rw [e4]
          exact ev_ix0 (ev_var rfl) hb2
        · rw [hks] at h2
          have h2' : SqL K H2 p ((ds.map keyOf).map V.int) := sq_of h2
          refine s_ret (ev_opL (z := .bl (decide (ds.map keyOf = once (ds.map keyOf)))) (ev_var rfl) (el_sortsetV (ev_var rfl) h2' (by simp; omega) fun l h3 h4 => rising_one l _ h3 (once_pw _) fun k => (h4 k).trans (once_mem _ hb k).symm) fun r H3 hr x3 H4 x4 Q q => ?_) fun H3 x3 => q' H3 ((x1.trans x2).trans x3)
          refine ⟨.list ((ds.map keyOf).map PyData.int), .list ((once (ds.map keyOf)).map PyData.int), .lst (ex_l (x3.trans x4) h2') dps_ints, .lst (sq_of (x4 r _ hr)) dps_ints, shaped_ints _, shaped_ints _, ?_⟩
          have e5 : PyData.eqv (.list ((ds.map keyOf).map PyData.int)) (.list ((once (ds.map keyOf)).map PyData.int)) = decide (ds.map keyOf = once (ds.map keyOf)) := by
            rw [PyData.eqv]
            exact eqv_ints _ _
          rw [e5]
          exact q H4 (Ex.refl H4)
theorem ok_ltable {f : Addr} {fd : FuncData} {k : Nat} (F : Fun K "_law_is_table" "_law_is_table" sLTable f fd) (N : Names mg) (dP : Own P w K mg base "_law_are_pairs" ["thing"] k (spToldS K arePairs)) :
    FnOk P w K mg base CX0 (k + 1) f fd ["thing"] (spToldS K isTable) := by
  refine F.ok scLTable (fun vs H Q E h => ?_) (fun cdv A outer s H vs Q E hr h => ?_)
  · obtain ⟨v, d, rfl, _⟩ := h
    rfl
  · obtain ⟨v, d, rfl, hd, hz, q⟩ := h
    refine ⟨_, pss_one (ps_ret (pe_and (pe_own dP hr (Nat.le_refl _) (by rfl) (pa_cons (pv 0) pa_nil)) (pe_one (pe_cmpR op_le (pe_callB call_len_seq (by rfl) N.len PySem.boot_len (pa_cons (pv 0) pa_nil)) pe_int (nomark _))))), ?_⟩
    cases hT : isTup d with
    | false =>
      have e0 : arePairs d = false := by
        cases d <;> first | rfl | cases hT
      refine s_ret (ev_is (ev_andV (b := false) (ev_toldS (ev_var rfl) hd hz) fun e => ?_) (congrArg V.bl (table_eq d false fun ds e => ?_))) q
      · rw [e0] at e
        cases e
      · rw [e] at hT
        cases hT
    | true =>
      obtain ⟨a, xs, ds, rfl, rfl, hS, hA⟩ := tup_dp hd hT
      have hl := dps_len hA
      refine s_ret (ev_is (ev_andV (ev_toldS (ev_var rfl) hd hz) fun e => ev_op (ev_lenT (ev_var rfl) hS) ev_c rv_I0) (congrArg V.bl (table_eq _ _ fun ds' e => ?_))) q
      cases e
      exact decide_eq_decide.mpr (by omega)
end
end K01
namespace K01
open PySem L2 PyProof.Rows Tc Evl
abbrev sOdd : Stmt := topS 14
theorem scOdd : FnScope ["bag", "some"] ["bag"] (defScope sOdd) := ⟨rfl, rfl, rfl, by decide +kernel, rfl, by decide +kernel, by decide +kernel⟩
/-- what the law's odd things are -/
def odd1 : List PyData := [.none, .bool true, .bool false, .int 0, .int 1, .int (-1), .int 5, .int 999, .int 1000, .int 1001, .int (10 ^ (30 : Int).toNat), .str "", .str "a", .str "put", .str "drop", .str "low", .str "high", .str "group"]
def odd2 : List PyData := [.tuple [], .list [], .tuple [.int 1, .int 2], .tuple [.tuple [.int 1, .int 2]], .tuple [.tuple [.int 2, .int 1], .tuple [.int 1, .int 2]], .list [.tuple [.int 1, .int 2]], .tuple [.str "put", .int 1, .int 2], .tuple [.str "drop", .int 1], .tuple [.none]]
def odd3 : List PyData := [.tuple [.str "low", .int 1, .int 0], .tuple [.str "group", .tuple [.tuple [.str "put", .int 1, .int 2]]], .tuple [.tuple [.str "put", .int 1, .int 2]], .tuple [.bool true, .int 2], .tuple [.int 1, .int (-1)]]
theorem odd_gd : ∀ d ∈ odd1 ++ odd2 ++ odd3, gd 0 3 d = true := by
  have h : (odd1 ++ odd2 ++ odd3).all (gd 0 3) = true := by decide +kernel
  exact fun d m => List.all_eq_true.mp h d m
section
variable {P : Program} {w : World} {K : PySem.W.Frag} {mg : Str → Option Value} {base : Heap}
theorem ok_odd {f : Addr} {fd : FuncData} {k : Nat} (F : Fun K "_law_odd" "_law_odd" sOdd f fd) (N : Names mg) (dT : Own P w K mg base "_law_take" ["bag", "many"] k spTake) : FnOk P w K mg base CX0 (k + 1) f fd ["bag"] (spNew K (gd 0 3)) := by
  refine F.ok scOdd (fun vs H Q E h => ?_) (fun cdv A outer s H vs Q E hr h => ?_)
  · obtain ⟨b, S, rfl, _⟩ := h
    rfl
  · obtain ⟨b, S, rfl, hB, hS, q⟩ := h
    refine ⟨_, pss_cons (ps_set (i := 1) scOdd.nd rfl (.inl rfl) (pe_lst (pa_cons pe_non (pa_cons pe_bl (pa_cons pe_bl (pa_cons pe_int (pa_cons pe_int (pa_cons (pe_un un_neg pe_int) (pa_cons pe_int (pa_cons pe_int (pa_cons pe_int (pa_cons pe_int (pa_cons (pe_op op_pow pe_int pe_int)
        (pa_cons pe_str (pa_cons pe_str (pa_cons pe_str (pa_cons pe_str (pa_cons pe_str (pa_cons pe_str (pa_cons pe_str pa_nil))))))))))))))))))))
      (pss_cons (ps_set (i := 1) scOdd.nd rfl (.inl rfl) (pe_op op_cat (pv 1) (pe_lst (pa_cons (pe_tup pa_nil) (pa_cons (pe_lst pa_nil) (pa_cons (pe_tup (pa_cons pe_int (pa_cons pe_int pa_nil))) (pa_cons (pe_tup (pa_cons (pe_tup (pa_cons pe_int (pa_cons pe_int pa_nil))) pa_nil))
        (pa_cons (pe_tup (pa_cons (pe_tup (pa_cons pe_int (pa_cons pe_int pa_nil))) (pa_cons (pe_tup (pa_cons pe_int (pa_cons pe_int pa_nil))) pa_nil))) (pa_cons (pe_lst (pa_cons (pe_tup (pa_cons pe_int (pa_cons pe_int pa_nil))) pa_nil))
        (pa_cons (pe_tup (pa_cons pe_str (pa_cons pe_int (pa_cons pe_int pa_nil)))) (pa_cons (pe_tup (pa_cons pe_str (pa_cons pe_int pa_nil))) (pa_cons (pe_tup (pa_cons pe_non pa_nil)) pa_nil))))))))))))
      (pss_cons (ps_set (i := 1) scOdd.nd rfl (.inl rfl) (pe_op op_cat (pv 1) (pe_lst (pa_cons (pe_tup (pa_cons pe_str (pa_cons pe_int (pa_cons pe_int pa_nil)))) (pa_cons (pe_tup (pa_cons pe_str (pa_cons (pe_tup (pa_cons (pe_tup (pa_cons pe_str (pa_cons pe_int (pa_cons pe_int pa_nil)))) pa_nil)) pa_nil)))
        (pa_cons (pe_tup (pa_cons (pe_tup (pa_cons pe_str (pa_cons pe_int (pa_cons pe_int pa_nil)))) pa_nil)) (pa_cons (pe_tup (pa_cons pe_bl (pa_cons pe_int pa_nil))) (pa_cons (pe_tup (pa_cons pe_int (pa_cons (pe_un un_neg pe_int) pa_nil))) pa_nil))))))))
      (pss_one (ps_ret (pe_ix ix_list (pv 1) (pe_own dT hr (Nat.le_refl _) (by rfl) (pa_cons (pv 0) (pa_cons (pe_callB call_len_seq (by rfl) N.len PySem.boot_len (pa_cons (pv 1) pa_nil)) pa_nil))) (fun _ _ => rfl)))))), ?_⟩
    have cI : ∀ (i : Int) (H : Hp), Dp K H (.int i) (.int i) := fun i H => .int i
    have cS : ∀ (i : Str) (H : Hp), Dp K H (.str i) (.str i) := fun i H => .str i
    have cB : ∀ (i : Bool) (H : Hp), Dp K H (.bl i) (.bool i) := fun i H => .bl i
    have cN : ∀ (H : Hp), Dp K H .non .none := fun H => .non
    have t2 : ∀ (i j : Int) (σ : L2.St) (H : Hp), Sok S b H → CD S b K (tTup (tCons (tC (.int i)) (tCons (tC (.int j)) tNil))) σ H (.tuple [.int i, .int j]) := fun i j σ H hs => cd_tup hs (cda_cons hS.mem (cd_c (cI i)) (cda_cons hS.mem (cd_c (cI j)) cda_nil)) (by simp)
    have t3 : ∀ (z : Str) (i j : Int) (σ : L2.St) (H : Hp), Sok S b H → CD S b K (tTup (tCons (tC (.str z)) (tCons (tC (.int i)) (tCons (tC (.int j)) tNil)))) σ H (.tuple [.str z, .int i, .int j]) := fun z i j σ H hs => cd_tup hs (cda_cons hS.mem (cd_c (cS z)) (cda_cons hS.mem (cd_c (cI i)) (cda_cons hS.mem (cd_c (cI j)) cda_nil))) (by simp)
    have o1 : ∀ σ H, Sok S b H → CDL S b K (tLst _) σ H odd1 := fun σ H hs => cdl_lst hS.mem (ds := odd1) (cda_cons hS.mem (cd_c cN) (cda_cons hS.mem (cd_c (cB true)) (cda_cons hS.mem (cd_c (cB false)) (cda_cons hS.mem (cd_c (cI 0)) (cda_cons hS.mem (cd_c (cI 1)) (cda_cons hS.mem cd_neg (cda_cons hS.mem (cd_c (cI 5)) (cda_cons hS.mem (cd_c (cI 999)) (cda_cons hS.mem (cd_c (cI 1000)) (cda_cons hS.mem (cd_c (cI 1001))
      (cda_cons hS.mem (cd_pow ⟨by decide, by decide, by decide⟩) (cda_cons hS.mem (cd_c (cS "")) (cda_cons hS.mem (cd_c (cS "a")) (cda_cons hS.mem (cd_c (cS "put")) (cda_cons hS.mem (cd_c (cS "drop")) (cda_cons hS.mem (cd_c (cS "low")) (cda_cons hS.mem (cd_c (cS "high")) (cda_cons hS.mem (cd_c (cS "group")) cda_nil)))))))))))))))))) (by decide)
    have o2 : ∀ σ H, Sok S b H → CDL S b K (tLst _) σ H odd2 := fun σ H hs => cdl_lst hS.mem (ds := odd2) (cda_cons hS.mem (cd_tup hs cda_nil (by decide)) (cda_cons hS.mem (cd_lst hs cda_nil (by decide)) (cda_cons hS.mem (t2 1 2 σ H hs) (cda_cons hS.mem (cd_tup hs (cda_cons hS.mem (t2 1 2 σ H hs) cda_nil) (by decide)) (cda_cons hS.mem (cd_tup hs (cda_cons hS.mem (t2 2 1 σ H hs) (cda_cons hS.mem (t2 1 2 σ H hs) cda_nil)) (by decide))
      (cda_cons hS.mem (cd_lst hs (cda_cons hS.mem (t2 1 2 σ H hs) cda_nil) (by decide)) (cda_cons hS.mem (t3 "put" 1 2 σ H hs) (cda_cons hS.mem (cd_tup hs (cda_cons hS.mem (cd_c (cS "drop")) (cda_cons hS.mem (cd_c (cI 1)) cda_nil)) (by decide)) (cda_cons hS.mem (cd_tup hs (cda_cons hS.mem (cd_c cN) cda_nil) (by decide)) cda_nil))))))))) (by decide)
    have o3 : ∀ σ H, Sok S b H → CDL S b K (tLst _) σ H odd3 := fun σ H hs => cdl_lst hS.mem (ds := odd3) (cda_cons hS.mem (t3 "low" 1 0 σ H hs) (cda_cons hS.mem (cd_tup hs (cda_cons hS.mem (cd_c (cS "group")) (cda_cons hS.mem (cd_tup hs (cda_cons hS.mem (t3 "put" 1 2 σ H hs) cda_nil) (by decide)) cda_nil)) (by decide)) (cda_cons hS.mem (cd_tup hs (cda_cons hS.mem (t3 "put" 1 2 σ H hs) cda_nil) (by decide))
      (cda_cons hS.mem (cd_tup hs (cda_cons hS.mem (cd_c (cB true)) (cda_cons hS.mem (cd_c (cI 2)) cda_nil)) (by decide)) (cda_cons hS.mem (cd_tup hs (cda_cons hS.mem (cd_c (cI 1)) (cda_cons hS.mem cd_neg cda_nil)) (by decide)) cda_nil))))) (by decide)
    refine s_seq (o1 _ H hS H (Fr.refl hB) _ fun p1 v1 H1 f1 n1 b1 h1 d1 => s_seq ?_)
    refine cdl_cat hS.mem (i := 1) rfl h1 b1 d1 (o2 _ H1 (hS.fr f1)) (by decide) H1 (Fr.refl f1.bag) _ fun p2 v2 H2 f2 n2 b2 h2 d2 => s_seq ?_
    refine cdl_cat hS.mem (i := 1) rfl h2 b2 d2 (o3 _ H2 ((hS.fr f1).fr f2)) (by decide) H2 (Fr.refl f2.bag) _ fun p3 v3 H3 f3 n3 b3 h3 d3 => ?_
    exact cdraw_item hS.mem (i := 1) (j := 0) f3.bag rfl rfl h3 b3 d3 (by decide) (by decide) fun v d H' fr m hd => q v d H' (((f1.trans f2).trans f3).trans fr) hd (odd_gd d m)
end
end K01
namespace K01
open PySem L2 PyProof.Rows Tc Evl
abbrev sKeys : Stmt := topS 16
theorem scKeys : FnScope ["bag", "step", "first", "at"] ["bag"] (defScope sKeys) := ⟨rfl, rfl, rfl, by decide +kernel, rfl, by decide +kernel, by decide +kernel⟩
theorem once_len (ks : List Int) : (once ks).length ≤ 1000 := by
  unfold once
  refine Nat.le_trans (List.length_filter_le _ _) ?_
  rw [List.length_map, List.length_range]
  exact Nat.le_refl _
section
variable {P : Program} {w : World} {K : PySem.W.Frag} {mg : Str → Option Value} {base : Heap}
theorem ok_keys {f : Addr} {fd : FuncData} {k : Nat} (F : Fun K "_law_keys" "_law_keys" sKeys f fd) (N : Names mg) (dT : Own P w K mg base "_law_take" ["bag", "many"] k spTake) : FnOk P w K mg base CX0 (k + 1) f fd ["bag"] spKeys := by
  refine F.ok scKeys (fun vs H Q E h => ?_) (fun cdv A outer s H vs Q E hr h => ?_)
  · obtain ⟨b, rfl, _⟩ := h
    rfl
  · obtain ⟨b, rfl, hB, q⟩ := h
    refine ⟨_, pss_cons (ps_set (i := 1) scKeys.nd rfl (.inr rfl) (pe_ix ix_list (pe_lst (pa_cons pe_int (pa_cons pe_int (pa_cons pe_int (pa_cons pe_int pa_nil))))) (pe_own dT hr (Nat.le_refl _) (by rfl) (pa_cons (pv 0) (pa_cons pe_int pa_nil))) (fun _ _ => rfl)))
      (pss_cons (ps_set (i := 2) scKeys.nd rfl (.inr rfl) (pe_own dT hr (Nat.le_refl _) (by rfl) (pa_cons (pv 0) (pa_cons (pe_op op_sub pe_int (pe_op op_mul pe_int (pv 1))) pa_nil))))
      (pss_one (ps_ret (pe_callB (cr_sortedSetA rfl) (by rfl) N.sorted boot_sorted (pa_cons (pe_callTy (cr_setL rfl) (by rfl) N.set boot_set (pa_cons (pe_op op_cat (pe_lc (own := [("at", 3)]) (g := gName 3) (tt := tYes) (te := tOp (rI0 fun i j => .int (i + j)) (tVar 2) (tOp (rI CMul fun i j => .int (i * j)) (tVar 1) (tVar 3))) rfl scKeys.nd
          (pi_range1 rfl N.range (pa_cons pe_int pa_nil)) (blkOk_by (N := ["bag", "step", "first", "at"]) (sc := defScope sKeys) (by decide +kernel)) (fun _ _ _ _ _ => pg_name (i := 3) scKeys.nd rfl (Or.inl rfl)) (fun _ _ _ _ _ => pts_nil) (fun _ _ _ _ _ => pe_op op_add (pv 2) (pe_op op_mul (pv 1) (pv 3))))
        (pe_lst (pa_cons pe_int (pa_cons pe_int pa_nil)))) pa_nil)) pa_nil))))), ?_⟩
    refine s_seq (item_new (b := b) (xs := [.int 1, .int 2, .int 7, .int 90]) (el_lst (ea_cons ev_c (ea_cons ev_c (ea_cons ev_c (ea_cons ev_c ea_nil)))) (by simp)) hB (fun H1 f1 Q q => take_of (m := 4) f1.bag (ea_cons (ev_var rfl) (ea_cons ev_c ea_nil)) (by decide) (by decide) q) fun v H1 f1 hv => ?_)
    obtain ⟨st, rfl, hst⟩ : ∃ st : Int, v = .int st ∧ (st = 1 ∨ st = 2 ∨ st = 7 ∨ st = 90) := by
      simp only [List.mem_cons, List.not_mem_nil, or_false] at hv
      rcases hv with h | h | h | h <;> exact ⟨_, h, by simp⟩
    refine s_seq (take_of (b := b) (m := 1000 - 9 * st) f1.bag (ea_cons (ev_var rfl) (ea_cons (ev_op ev_c (ev_op ev_c (ev_var rfl) (rv_mul (.inl ⟨by decide, by decide⟩))) rv_sub) ea_nil)) (by omega) (by omega) fun r H2 f2 h0 h1 => ?_)
    have hks : ((List.range 10).map fun (i : Nat) => V.int (r + st * (i : Int))) ++ [V.int 0, V.int 999] = (((List.range 10).map fun (i : Nat) => r + st * (i : Int)) ++ [0, 999]).map V.int := by
      rw [List.map_append, List.map_map]
      rfl
    have hb : ∀ k ∈ ((List.range 10).map fun (i : Nat) => r + st * (i : Int)) ++ [0, 999], 0 ≤ k ∧ k < 1000 := fun k m => by
      rcases List.mem_append.mp m with m | m
      · obtain ⟨i, hi, rfl⟩ := List.mem_map.mp m
        have := List.mem_range.mp hi
        rcases hst with h | h | h | h <;> subst h <;> omega
      · simp only [List.mem_cons, List.not_mem_nil, or_false] at m
        omega
    refine s_retL (el_sortset (ns := ((List.range 10).map fun (i : Nat) => r + st * (i : Int)) ++ [0, 999]) (ms := once (((List.range 10).map fun (i : Nat) => r + st * (i : Int)) ++ [0, 999])) (el_is (el_cat (xs := (List.range 10).map fun (i : Nat) => V.int (r + st * (i : Int))) (el_is (el_lcR1 (n := 10) (fun _ => true) (fun i => V.int (r + st * (i : Int))) (ea_cons ev_c ea_nil) (by decide) (fun x => rfl) (fun i H1 e hi => et_yes)
      (fun i H1 e hi _ => ev_op (ev_var rfl) (ev_op (ev_var rfl) (ev_var rfl) (rv_mul (.inl ?_))) rv_add)) (given_all _ _)) (el_lst (ea_cons ev_c (ea_cons ev_c ea_nil)) (by simp)) (by simp)) hks) (by simp) fun l h3 h4 => rising_one l _ h3 (once_pw _) fun k => (h4 k).trans (once_mem _ hb k).symm) fun p H3 hp x3 h3 => ?_
    · rcases hst with h | h | h | h <;> subst h <;> decide
    · exact q p _ H3 ((f1.trans f2).trans (Fr.ex f2.bag x3)) (fr_back' (f1.trans f2) hp) (f2.bag.ne hp) h3 (fun k m => hb k ((once_mem _ hb k).mp m)) (once_len _)
end
end K01
namespace K01
open PySem L2 PyProof.Rows Tc Evl
abbrev sTab : Stmt := topS 17
theorem scTab : FnScope ["bag", "keys", "key"] ["bag", "keys"] (defScope sTab) := ⟨rfl, rfl, rfl, by decide +kernel, rfl, by decide +kernel, by decide +kernel⟩
section
variable {P : Program} {w : World} {K : PySem.W.Frag} {mg : Str → Option Value} {base : Heap}
theorem ok_tab {f : Addr} {fd : FuncData} {k : Nat} (F : Fun K "_law_table" "_law_table" sTab f fd) (N : Names mg) (dT : Own P w K mg base "_law_take" ["bag", "many"] k spTake) : FnOk P w K mg base CX0 (k + 1) f fd ["bag", "keys"] (spTab K) := by
  refine F.ok scTab (fun vs H Q E h => ?_) (fun cdv A outer s H vs Q E hr h => ?_)
  · obtain ⟨b, l, ks, rfl, _⟩ := h
    rfl
  · obtain ⟨b, l, ks, rfl, hB, hlb, hl, hk, hn, q⟩ := h
    refine ⟨_, pss_one (ps_ret (pe_callTy call_tuple_of (by rfl) N.tuple boot_tuple (pa_cons (pe_lc (own := [("key", 2)]) (g := gName 2) (tt := tTest (tOp (rI0 fun i j => .bl (decide (j < i))) (tCall spTake [] E0 (tCons (tVar 0) (tCons (tC (.int 3)) tNil))) (tC (.int 0))))
        (te := tTup (tCons (tVar 2) (tCons (tCall spTake [] E0 (tCons (tVar 0) (tCons (tC (.int 1000)) tNil))) tNil))) rfl scTab.nd (pi_list (pv 1)) (blkOk_by (N := ["bag", "keys", "key"]) (sc := defScope sTab) (by decide +kernel)) (fun _ _ _ _ _ => pg_name (i := 2) scTab.nd rfl (Or.inl rfl))
        (fun _ _ _ _ _ => pts_one (pt_cmpR op_gt (pe_own dT hr (Nat.le_refl _) (by rfl) (pa_cons (pv 0) (pa_cons pe_int pa_nil))) pe_int (nomark _)))
        (fun _ _ _ _ _ => pe_tup (pa_cons (pv 2) (pa_cons (pe_own dT hr (Nat.le_refl _) (by rfl) (pa_cons (pv 0) (pa_cons pe_int pa_nil))) pa_nil)))) pa_nil))), ?_⟩
    refine Col.tup (b := b) (K := K) (g := gd 0 1) (i := ks.length) (fun Q' q' => ?_) (by omega) fun v d H' fr hd hx => q v d H' fr hd ?_
    · refine ⟨.ref l, rfl, l, rfl, ⟨_, sq_of hl⟩, fun D hD => ?_⟩
      refine lc_list (K := K) (xs := ks.map V.int) (Col b K (gd 0 1) H D) (Col.start hB hD) (fun i H' _ c => sq_of (c.fr.at hl hlb)) (fun i x H' hx c => ⟨rfl, ?_⟩) (fun H' c => q' D H' (by rw [List.length_map] at c; exact c))
      rw [List.getElem?_map] at hx
      obtain ⟨kk, hkk, rfl⟩ := Option.map_eq_some_iff.mp hx
      have hi : i < ks.length := (List.getElem?_eq_some_iff.mp hkk).1
      have hb := hk kk (List.mem_of_getElem? hkk)
      refine take_of (b := b) (m := 3) c.fr.bag (ea_cons (ev_var rfl) (ea_cons ev_c ea_nil)) (by decide) (by decide) fun r H1 f1 r0 r1 => ⟨r, 0, rfl, rfl, _, rfl, ite2 (fun e => ?_) (fun e => c.skip f1)⟩
      refine ⟨.int kk, rfl, take_of (b := b) (m := 1000) f1.bag (ea_cons (ev_var rfl) (ea_cons ev_c ea_nil)) (by decide) (by decide) fun r2 H2 f2 r3 r4 => ⟨sz_of (by simp), fun p hp => ?_⟩⟩
      exact c.push ((f1.trans f2).trans (Fr.new f2.bag hp)) (dp_pair f2.bag (c.skip (f1.trans f2)).at hp) (gd_pair hb.1 (by omega) r3 (by omega)) (by omega)
    · obtain ⟨ds, rfl, h1, h2⟩ := hx
      exact gd_tup.mpr ⟨by omega, h2⟩
end
end K01
namespace K01
open PySem L2 PyProof.Rows Tc Evl
abbrev sSp : Stmt := topS 15
theorem scSp : FnScope ["bag", "thing", "way", "rows", "at", "other"] ["bag", "thing"] (defScope sSp) := ⟨rfl, rfl, rfl, by decide +kernel, rfl, by decide +kernel, by decide +kernel⟩
section
variable {P : Program} {w : World} {K : PySem.W.Frag} {mg : Str → Option Value} {base : Heap}
theorem odd_of {H : Hp} {σ : L2.St} {b : Addr} {S : Addr → Prop} {n c : Nat} {Q : VK} {E : XK} (h0 : σ[0]? = some (some (.ref b))) (hB : Bag H b) (hS : Sok S b H) (q : ∀ v' d' H', Fr b H H' → Dp K (cut S H') v' d' → gd (c + 1) (n + 3) d' = true → Q v' H') : tCall (spNew K (gd 0 3)) [] E (tCons (tVar 0) tNil) σ H Q :=
  ⟨.ref b, h0, b, S, rfl, hB, hS, fun v d H' fr hd hg => q v d H' fr hd (gd_le (gd_lc hg (Nat.zero_le _)) (by omega))⟩
/-- a body of the spoiling def, its data of one kind -/
def Body (P : Program) (w : World) (K : PySem.W.Frag) (mg : Str → Option Value) (base : Heap) (k n : Nat) (d : PyData) : Prop := ∀ (f : Addr) (cdv : Value) (A : Around) (outer : List Env) (s : Shared) (H : Hp) (b : Addr) (v : V) (S : Addr → Prop) (c : Nat) (Q : VK) (E : XK),
  Room k (A.deeper (envOfC "_law_spoilt" (defScope sSp) s.heap.objs.size f cdv)) → Bag H b → Sok S b H → Dp K (cut S H) v d → gd c n d = true → c ≤ 8 → (∀ v' d' H', Fr b H H' → Dp K (cut S H') v' d' → gd (c + 1) (n + 3) d' = true → Q v' H') →
  ∃ t, PSs (cxOf CX0 P w K mg base ["bag", "thing", "way", "rows", "at", "other"] "_law_spoilt" (defScope sSp) f cdv A outer s H E).nox (defBody sSp) t ∧ t { nx := fun _ H' => Q .non H', rt := Q } (start ["bag", "thing", "way", "rows", "at", "other"] [.ref b, v]) H
theorem body_none {kT kO k n : Nat} (N : Names mg) (dT : Own P w K mg base "_law_take" ["bag", "many"] kT spTake) (hT : kT ≤ k) (dO : Own P w K mg base "_law_odd" ["bag"] kO (spNew K (gd 0 3))) (hO : kO ≤ k) : Body P w K mg base k n .none := by
  intro f cdv A outer s H b v S c Q E hr hB hS hd hg hc q
  refine ⟨_, pss_cons (ps_set (i := 2) scSp.nd rfl (.inl rfl) (pe_own dT hr hT (by rfl) (pa_cons (pv 0) (pa_cons pe_int pa_nil))))
      (pss_cons (ps_if (PW.pt (pw_and (pt_val (pe_callB call_isiT (by rfl) N.isinstance boot_isinstance (pa_cons (pv 1) (pa_cons (pe_tup (pa_cons (pe_bltn (v := .ty "tuple") (by rfl) N.tuple boot_tuple rfl) (pa_cons (pe_bltn (v := .ty "list") (by rfl) N.list boot_list rfl) pa_nil))) pa_nil)))) (pw_and (pt_cmpR op_gt (pe_callB call_len_seq (by rfl) N.len PySem.boot_len (pa_cons (pv 1) pa_nil)) pe_int (nomark _)) (pw_and1 (pt_cmpR op_gt (pv 2) pe_int (nomark _)))))) pss_never pss_nil)
      (pss_cons (ps_if (PW.pt (pw_and (pt_val (pe_callB call_isi (by rfl) N.isinstance boot_isinstance (pa_cons (pv 1) (pa_cons (pe_bltn (v := .ty "str") (by rfl) N.str boot_str rfl) pa_nil)))) (pw_and1 (pt_cmpR op_gt (pv 2) pe_int (nomark _))))) pss_never pss_nil)
      (pss_cons (ps_if (PW.pt (pw_and (pt_val (pe_callB call_isi (by rfl) N.isinstance boot_isinstance (pa_cons (pv 1) (pa_cons (pe_bltn (v := .ty "int") (by rfl) N.int boot_int rfl) pa_nil)))) (pw_and1 (pt_cmpR op_gt (pv 2) pe_int (nomark _))))) pss_never pss_nil)
      (pss_one (ps_ret (pe_own dO hr hO (by rfl) (pa_cons (pv 0) pa_nil))))))), ?_⟩
  refine s_seq (take_of (b := b) (m := 9) hB (ea_cons (ev_var rfl) (ea_cons ev_c ea_nil)) (by decide) (by decide) fun r H1 f1 r0 r1 => ?_)
  have hd1 := dp_same (cut_sm hS.mem f1) _ _ hd
  have hd2 := dp_same (cut_same S H1) _ _ hd1
  refine s_seq (s_if (b := false) (et_and (a := false) (b := false) (et_B (ev_isiT (ev_var rfl) hd2)) fun e => by cases e) (fun e => by cases e) fun _ H2 x2 => s_next ?_)
  refine s_seq (s_if (b := false) (et_and (a := false) (b := false) (et_B (ev_str (ev_var rfl) (dp_same x2 _ _ hd2))) fun e => by cases e) (fun e => by cases e) fun _ H3 x3 => s_next ?_)
  refine s_seq (s_if (b := false) (et_and (a := false) (b := false) (et_B (ev_int (ev_var rfl) (dp_same (x2.trans x3) _ _ hd2))) fun e => by cases e) (fun e => by cases e) fun _ H4 x4 => s_next ?_)
  have f4 := f1.trans (Fr.ex f1.bag ((x2.trans x3).trans x4))
  exact odd_of rfl f4.bag (hS.fr f4) fun v' d' H' fr h1 h2 => q v' d' H' (f4.trans fr) h1 h2
theorem body_str {kT kO k n : Nat} (N : Names mg) (dT : Own P w K mg base "_law_take" ["bag", "many"] kT spTake) (hT : kT ≤ k) (dO : Own P w K mg base "_law_odd" ["bag"] kO (spNew K (gd 0 3))) (hO : kO ≤ k) (z : Str) : Body P w K mg base k n (.str z) := by
  intro f cdv A outer s H b v S c Q E hr hB hS hd hg hc q
  refine ⟨_, pss_cons (ps_set (i := 2) scSp.nd rfl (.inl rfl) (pe_own dT hr hT (by rfl) (pa_cons (pv 0) (pa_cons pe_int pa_nil))))
      (pss_cons (ps_if (PW.pt (pw_and (pt_val (pe_callB call_isiT (by rfl) N.isinstance boot_isinstance (pa_cons (pv 1) (pa_cons (pe_tup (pa_cons (pe_bltn (v := .ty "tuple") (by rfl) N.tuple boot_tuple rfl) (pa_cons (pe_bltn (v := .ty "list") (by rfl) N.list boot_list rfl) pa_nil))) pa_nil)))) (pw_and (pt_cmpR op_gt (pe_callB call_len_seq (by rfl) N.len PySem.boot_len (pa_cons (pv 1) pa_nil)) pe_int (nomark _)) (pw_and1 (pt_cmpR op_gt (pv 2) pe_int (nomark _)))))) pss_never pss_nil)
      (pss_cons (ps_if (PW.pt (pw_and (pt_val (pe_callB call_isi (by rfl) N.isinstance boot_isinstance (pa_cons (pv 1) (pa_cons (pe_bltn (v := .ty "str") (by rfl) N.str boot_str rfl) pa_nil)))) (pw_and1 (pt_cmpR op_gt (pv 2) pe_int (nomark _))))) (pss_one (ps_ret (pe_ix ix_list (pe_lst (pa_cons (pe_op op_add_str (pv 1) pe_str) (pa_cons (pe_slice sl_str (pv 1) po_none (po_some (pe_un un_neg pe_int))) (pa_cons (pe_op op_add_str (pv 1) pe_str) (pa_cons (pe_upper (pv 1)) (pa_cons (pe_op op_add_str (pv 1) (pv 1)) (pa_cons (pe_op op_add_str pe_str (pv 1)) (pa_cons pe_str pa_nil)))))))) (pe_op op_sub (pv 2) pe_int) (fun _ _ => rfl)))) pss_nil)
      (pss_cons (ps_if (PW.pt (pw_and (pt_val (pe_callB call_isi (by rfl) N.isinstance boot_isinstance (pa_cons (pv 1) (pa_cons (pe_bltn (v := .ty "int") (by rfl) N.int boot_int rfl) pa_nil)))) (pw_and1 (pt_cmpR op_gt (pv 2) pe_int (nomark _))))) pss_never pss_nil)
      (pss_one (ps_ret (pe_own dO hr hO (by rfl) (pa_cons (pv 0) pa_nil))))))), ?_⟩
  refine s_seq (take_of (b := b) (m := 9) hB (ea_cons (ev_var rfl) (ea_cons ev_c ea_nil)) (by decide) (by decide) fun r H1 f1 r0 r1 => ?_)
  have hd1 := dp_same (cut_sm hS.mem f1) _ _ hd
  have hd2 := dp_same (cut_same S H1) _ _ hd1
  have hz := gd_str.mp hg
  have hp := pow_bd (c := c) (by omega)
  have hp1 := pow_bd (c := c + 1) (by omega)
  have hp2 : 100 * 3 ^ (c + 1) = 3 * (100 * 3 ^ c) := by rw [Nat.pow_succ]; omega
  cases hd with
  | str =>
  refine s_seq (s_if (b := false) (et_and (a := false) (b := false) (et_B (ev_isiT (ev_var rfl) hd2)) fun e => by cases e) (fun e => by cases e) fun _ H2 x2 => s_next ?_)
  have f2 := f1.trans (Fr.ex f1.bag x2)
  refine s_seq (s_if (et_and (a := true) (et_B (ev_str (ev_var rfl) (dp_same x2 _ _ hd2))) fun _ => et_test (ev_op (ev_var rfl) ev_c rv_I0)) (fun e H3 x3 => ?_) fun e H3 x3 => s_next ?_)
  · have e1 : (1 : Int) < r := of_decide_eq_true e
    obtain ⟨j, hj⟩ : ∃ j : Nat, r = (j : Int) + 2 := ⟨(r - 2).toNat, by omega⟩
    have hj7 : j < 7 := by omega
    have ka : (Str.ofString "a").length = 1 := by decide
    have kb : (Str.ofString " ").length = 1 := by decide
    have kz : (Str.ofString "z").length = 1 := by decide
    have f3 := f2.trans (Fr.ex f2.bag x3)
    have hl : ∀ d ∈ [PyData.str (z ++ "a"), .str (cutS z none (some (-1))), .str (z ++ " "), .str (Txt.upper z), .str (z ++ z), .str ("z" ++ z), .str ""], gd (c + 1) (n + 3) d = true := by
      have a1 : (Str.ofString "a").length = 1 := by decide
      have a2 : (Str.ofString " ").length = 1 := by decide
      have a3 : (Str.ofString "z").length = 1 := by decide
      have a4 : (Str.ofString "").length = 0 := by decide
      have u := len_upper z
      have s1 := cutS_length z none (some (-1))
      intro d m
      simp only [List.mem_cons, List.not_mem_nil, or_false] at m
      rcases m with rfl | rfl | rfl | rfl | rfl | rfl | rfl <;> refine gd_str.mpr ?_ <;> (try rw [strLen_append]) <;> omega
    obtain ⟨d', hd'⟩ : ∃ d', [PyData.str (z ++ "a"), .str (cutS z none (some (-1))), .str (z ++ " "), .str (Txt.upper z), .str (z ++ z), .str ("z" ++ z), .str ""][j]? = some d' := ⟨_, List.getElem?_eq_getElem (by simpa using hj7)⟩
    refine cd_item (S := S) (b := b) hS.mem (cdl_lst hS.mem (cda_cons hS.mem (cd_ev (fun H => ev_op (ev_var rfl) ev_c (rv_addS (by simp only [ka, kb, kz]; omega))) fun H => .str _) (cda_cons hS.mem (cd_ev (fun H => ev_slS (ev_var rfl) eo_none (eo_some (ev_un ev_c ru_neg)) (by omega)) fun H => .str _)
      (cda_cons hS.mem (cd_ev (fun H => ev_op (ev_var rfl) ev_c (rv_addS (by simp only [ka, kb, kz]; omega))) fun H => .str _) (cda_cons hS.mem (cd_ev (fun H => ev_upper (ev_var rfl) (by omega)) fun H => .str _) (cda_cons hS.mem (cd_ev (fun H => ev_op (ev_var rfl) (ev_var rfl) (rv_addS (by omega))) fun H => .str _)
      (cda_cons hS.mem (cd_ev (fun H => ev_op ev_c (ev_var rfl) (rv_addS (by simp only [ka, kb, kz]; omega))) fun H => .str _) (cda_cons hS.mem (cd_ev (fun H => ev_c) fun H => .str _) cda_nil))))))) (by simp)) (fun H => ev_is (ev_op (ev_var rfl) ev_c rv_sub) (by rw [hj]; congr 1; omega)) hd' H3 (Fr.refl f3.bag) _ fun v' H4 f4 hv => ?_
    exact q v' d' H4 (f3.trans f4) hv (hl d' (List.mem_of_getElem? hd'))
  · refine s_seq (s_if (b := false) (et_and (a := false) (b := false) (et_B (ev_int (ev_var rfl) (dp_same (x2.trans x3) _ _ hd2))) fun e => by cases e) (fun e => by cases e) fun _ H4 x4 => s_next ?_)
    have f4 := f2.trans (Fr.ex f2.bag (x3.trans x4))
    exact odd_of rfl f4.bag (hS.fr f4) fun v' d' H' fr h1 h2 => q v' d' H' (f4.trans fr) h1 h2
theorem body_int {kT kO k n : Nat} (N : Names mg) (dT : Own P w K mg base "_law_take" ["bag", "many"] kT spTake) (hT : kT ≤ k) (dO : Own P w K mg base "_law_odd" ["bag"] kO (spNew K (gd 0 3))) (hO : kO ≤ k) (i : Int) : Body P w K mg base k n (.int i) := by
  intro f cdv A outer s H b v S c Q E hr hB hS hd hg hc q
  refine ⟨_, pss_cons (ps_set (i := 2) scSp.nd rfl (.inl rfl) (pe_own dT hr hT (by rfl) (pa_cons (pv 0) (pa_cons pe_int pa_nil))))
      (pss_cons (ps_if (PW.pt (pw_and (pt_val (pe_callB call_isiT (by rfl) N.isinstance boot_isinstance (pa_cons (pv 1) (pa_cons (pe_tup (pa_cons (pe_bltn (v := .ty "tuple") (by rfl) N.tuple boot_tuple rfl) (pa_cons (pe_bltn (v := .ty "list") (by rfl) N.list boot_list rfl) pa_nil))) pa_nil)))) (pw_and (pt_cmpR op_gt (pe_callB call_len_seq (by rfl) N.len PySem.boot_len (pa_cons (pv 1) pa_nil)) pe_int (nomark _)) (pw_and1 (pt_cmpR op_gt (pv 2) pe_int (nomark _)))))) pss_never pss_nil)
      (pss_cons (ps_if (PW.pt (pw_and (pt_val (pe_callB call_isi (by rfl) N.isinstance boot_isinstance (pa_cons (pv 1) (pa_cons (pe_bltn (v := .ty "str") (by rfl) N.str boot_str rfl) pa_nil)))) (pw_and1 (pt_cmpR op_gt (pv 2) pe_int (nomark _))))) pss_never pss_nil)
      (pss_cons (ps_if (PW.pt (pw_and (pt_val (pe_callB call_isi (by rfl) N.isinstance boot_isinstance (pa_cons (pv 1) (pa_cons (pe_bltn (v := .ty "int") (by rfl) N.int boot_int rfl) pa_nil)))) (pw_and1 (pt_cmpR op_gt (pv 2) pe_int (nomark _))))) (pss_one (ps_ret (pe_ix ix_list (pe_lst (pa_cons (pe_op op_add (pv 1) pe_int) (pa_cons (pe_op op_sub (pv 1) pe_int) (pa_cons (pe_un un_neg (pv 1)) (pa_cons (pe_op op_add (pv 1) pe_int) (pa_cons (pe_callTy call_str_int (by rfl) N.str boot_str (pa_cons (pv 1) pa_nil)) (pa_cons (pe_op op_add (pv 1) pe_int) (pa_cons (pe_tup (pa_cons (pv 1) pa_nil)) pa_nil)))))))) (pe_op op_sub (pv 2) pe_int) (fun _ _ => rfl)))) pss_nil)
      (pss_one (ps_ret (pe_own dO hr hO (by rfl) (pa_cons (pv 0) pa_nil))))))), ?_⟩
  refine s_seq (take_of (b := b) (m := 9) hB (ea_cons (ev_var rfl) (ea_cons ev_c ea_nil)) (by decide) (by decide) fun r H1 f1 r0 r1 => ?_)
  have hd1 := dp_same (cut_sm hS.mem f1) _ _ hd
  have hd2 := dp_same (cut_same S H1) _ _ hd1
  have hp1 := pow_bd (c := c + 1) (by omega)
  have big : (1000000 : Nat) ≤ 10 ^ 31 := by decide
  cases hd with
  | int =>
  refine s_seq (s_if (b := false) (et_and (a := false) (b := false) (et_B (ev_isiT (ev_var rfl) hd2)) fun e => by cases e) (fun e => by cases e) fun _ H2 x2 => s_next ?_)
  refine s_seq (s_if (b := false) (et_and (a := false) (b := false) (et_B (ev_str (ev_var rfl) (dp_same x2 _ _ hd2))) fun e => by cases e) (fun e => by cases e) fun _ H3 x3 => s_next ?_)
  have f3 := f1.trans (Fr.ex f1.bag (x2.trans x3))
  refine s_seq (s_if (et_and (a := true) (et_B (ev_int (ev_var rfl) (dp_same (x2.trans x3) _ _ hd2))) fun _ => et_test (ev_op (ev_var rfl) ev_c rv_I0)) (fun e H4 x4 => ?_) fun e H4 x4 => s_next ?_)
  · have e1 : (1 : Int) < r := of_decide_eq_true e
    obtain ⟨j, hj⟩ : ∃ j : Nat, r = (j : Int) + 2 := ⟨(r - 2).toNat, by omega⟩
    have hj7 : j < 7 := by omega
    have f4 := f3.trans (Fr.ex f3.bag x4)
    have hl : ∀ d ∈ [PyData.int (i + 1), .int (i - 1), .int (-i), .int (i + 1000), .str (toString i), .int (i + 50), .tuple [.int i]], gd (c + 1) (n + 3) d = true := by
      have hi := gd_int.mp hg
      have ht := text_len (i := i) (c := c) (by omega) hi
      intro d m
      simp only [List.mem_cons, List.not_mem_nil, or_false] at m
      rcases m with rfl | rfl | rfl | rfl | rfl | rfl | rfl
      · exact gd_int.mpr (by omega)
      · exact gd_int.mpr (by omega)
      · exact gd_int.mpr (by omega)
      · exact gd_int.mpr (by omega)
      · exact gd_str.mpr (by omega)
      · exact gd_int.mpr (by omega)
      · refine gd_tup.mpr ⟨by simp only [List.length_cons, List.length_nil]; omega, fun d m => ?_⟩
        rw [List.mem_singleton.mp m]
        exact gd_int.mpr (by omega)
    obtain ⟨d', hd'⟩ : ∃ d', [PyData.int (i + 1), .int (i - 1), .int (-i), .int (i + 1000), .str (toString i), .int (i + 50), .tuple [.int i]][j]? = some d' := ⟨_, List.getElem?_eq_getElem (by simpa using hj7)⟩
    refine cd_item (S := S) (b := b) hS.mem (cdl_lst hS.mem (cda_cons hS.mem (cd_ev (fun H => ev_op (ev_var rfl) ev_c rv_add) fun H => .int _) (cda_cons hS.mem (cd_ev (fun H => ev_op (ev_var rfl) ev_c rv_sub) fun H => .int _) (cda_cons hS.mem (cd_ev (fun H => ev_un (ev_var rfl) ru_neg) fun H => .int _) (cda_cons hS.mem (cd_ev (fun H => ev_op (ev_var rfl) ev_c rv_add) fun H => .int _) (cda_cons hS.mem (cd_ev (fun H => ev_strI (ev_var rfl) (log_small (by omega) (gd_int.mp hg))) fun H => .str _) (cda_cons hS.mem (cd_ev (fun H => ev_op (ev_var rfl) ev_c rv_add) fun H => .int _) (cda_cons hS.mem (cd_tup (hS.fr f4) (cda_cons hS.mem (cd_ev (fun H => ev_var rfl) fun H => .int _) cda_nil) (by simp)) cda_nil))))))) (by simp)) (fun H => ev_is (ev_op (ev_var rfl) ev_c rv_sub) (by rw [hj]; congr 1; omega)) hd' H4 (Fr.refl f4.bag) _ fun v' H5 f5 hv => ?_
    exact q v' d' H5 (f4.trans f5) hv (hl d' (List.mem_of_getElem? hd'))
  · have f4 := f3.trans (Fr.ex f3.bag x4)
    exact odd_of rfl f4.bag (hS.fr f4) fun v' d' H' fr h1 h2 => q v' d' H' (f4.trans fr) h1 h2
theorem body_bool {kT kO k n : Nat} (N : Names mg) (dT : Own P w K mg base "_law_take" ["bag", "many"] kT spTake) (hT : kT ≤ k) (dO : Own P w K mg base "_law_odd" ["bag"] kO (spNew K (gd 0 3))) (hO : kO ≤ k) (i : Bool) : Body P w K mg base k n (.bool i) := by
  intro f cdv A outer s H b v S c Q E hr hB hS hd hg hc q
  refine ⟨_, pss_cons (ps_set (i := 2) scSp.nd rfl (.inl rfl) (pe_own dT hr hT (by rfl) (pa_cons (pv 0) (pa_cons pe_int pa_nil))))
      (pss_cons (ps_if (PW.pt (pw_and (pt_val (pe_callB call_isiT (by rfl) N.isinstance boot_isinstance (pa_cons (pv 1) (pa_cons (pe_tup (pa_cons (pe_bltn (v := .ty "tuple") (by rfl) N.tuple boot_tuple rfl) (pa_cons (pe_bltn (v := .ty "list") (by rfl) N.list boot_list rfl) pa_nil))) pa_nil)))) (pw_and (pt_cmpR op_gt (pe_callB call_len_seq (by rfl) N.len PySem.boot_len (pa_cons (pv 1) pa_nil)) pe_int (nomark _)) (pw_and1 (pt_cmpR op_gt (pv 2) pe_int (nomark _)))))) pss_never pss_nil)
      (pss_cons (ps_if (PW.pt (pw_and (pt_val (pe_callB call_isi (by rfl) N.isinstance boot_isinstance (pa_cons (pv 1) (pa_cons (pe_bltn (v := .ty "str") (by rfl) N.str boot_str rfl) pa_nil)))) (pw_and1 (pt_cmpR op_gt (pv 2) pe_int (nomark _))))) pss_never pss_nil)
      (pss_cons (ps_if (PW.pt (pw_and (pt_val (pe_callB call_isi (by rfl) N.isinstance boot_isinstance (pa_cons (pv 1) (pa_cons (pe_bltn (v := .ty "int") (by rfl) N.int boot_int rfl) pa_nil)))) (pw_and1 (pt_cmpR op_gt (pv 2) pe_int (nomark _))))) (pss_one (ps_ret (pe_ix ix_list (pe_lst (pa_cons (pe_op op_add_bi (pv 1) pe_int) (pa_cons (pe_op op_sub_bi (pv 1) pe_int) (pa_cons (pe_un un_neg_b (pv 1)) (pa_cons (pe_op op_add_bi (pv 1) pe_int) (pa_cons (pe_callTy call_str_b (by rfl) N.str boot_str (pa_cons (pv 1) pa_nil)) (pa_cons (pe_op op_add_bi (pv 1) pe_int) (pa_cons (pe_tup (pa_cons (pv 1) pa_nil)) pa_nil)))))))) (pe_op op_sub (pv 2) pe_int) (fun _ _ => rfl)))) pss_nil)
      (pss_one (ps_ret (pe_own dO hr hO (by rfl) (pa_cons (pv 0) pa_nil))))))), ?_⟩
  refine s_seq (take_of (b := b) (m := 9) hB (ea_cons (ev_var rfl) (ea_cons ev_c ea_nil)) (by decide) (by decide) fun r H1 f1 r0 r1 => ?_)
  have hd1 := dp_same (cut_sm hS.mem f1) _ _ hd
  have hd2 := dp_same (cut_same S H1) _ _ hd1
  have hp1 := pow_bd (c := c + 1) (by omega)
  have big : (1000000 : Nat) ≤ 10 ^ 31 := by decide
  cases hd with
  | bl =>
  refine s_seq (s_if (b := false) (et_and (a := false) (b := false) (et_B (ev_isiT (ev_var rfl) hd2)) fun e => by cases e) (fun e => by cases e) fun _ H2 x2 => s_next ?_)
  refine s_seq (s_if (b := false) (et_and (a := false) (b := false) (et_B (ev_str (ev_var rfl) (dp_same x2 _ _ hd2))) fun e => by cases e) (fun e => by cases e) fun _ H3 x3 => s_next ?_)
  have f3 := f1.trans (Fr.ex f1.bag (x2.trans x3))
  refine s_seq (s_if (et_and (a := true) (et_B (ev_int (ev_var rfl) (dp_same (x2.trans x3) _ _ hd2))) fun _ => et_test (ev_op (ev_var rfl) ev_c rv_I0)) (fun e H4 x4 => ?_) fun e H4 x4 => s_next ?_)
  · have e1 : (1 : Int) < r := of_decide_eq_true e
    obtain ⟨j, hj⟩ : ∃ j : Nat, r = (j : Int) + 2 := ⟨(r - 2).toNat, by omega⟩
    have hj7 : j < 7 := by omega
    have f4 := f3.trans (Fr.ex f3.bag x4)
    have hl : ∀ d ∈ [PyData.int ((if i = true then (1 : Int) else 0) + 1), .int ((if i = true then (1 : Int) else 0) - 1), .int (-(if i = true then (1 : Int) else 0)), .int ((if i = true then (1 : Int) else 0) + 1000), .str (if i = true then "True" else "False"), .int ((if i = true then (1 : Int) else 0) + 50), .tuple [.bool i]], gd (c + 1) (n + 3) d = true := by
      have t1 : (Str.ofString "True").length = 4 := by decide
      have t2 : (Str.ofString "False").length = 5 := by decide
      intro d m
      simp only [List.mem_cons, List.not_mem_nil, or_false] at m
      rcases m with rfl | rfl | rfl | rfl | rfl | rfl | rfl
      · exact gd_int.mpr (by cases i <;> simp <;> omega)
      · exact gd_int.mpr (by cases i <;> simp <;> omega)
      · exact gd_int.mpr (by cases i <;> simp <;> omega)
      · exact gd_int.mpr (by cases i <;> simp <;> omega)
      · exact gd_str.mpr (by cases i <;> simp only [if_true, Bool.false_eq_true, if_false] <;> omega)
      · exact gd_int.mpr (by cases i <;> simp <;> omega)
      · refine gd_tup.mpr ⟨by simp only [List.length_cons, List.length_nil]; omega, fun d m => ?_⟩
        rw [List.mem_singleton.mp m]
        rfl
    obtain ⟨d', hd'⟩ : ∃ d', [PyData.int ((if i = true then (1 : Int) else 0) + 1), .int ((if i = true then (1 : Int) else 0) - 1), .int (-(if i = true then (1 : Int) else 0)), .int ((if i = true then (1 : Int) else 0) + 1000), .str (if i = true then "True" else "False"), .int ((if i = true then (1 : Int) else 0) + 50), .tuple [.bool i]][j]? = some d' := ⟨_, List.getElem?_eq_getElem (by simpa using hj7)⟩
    refine cd_item (S := S) (b := b) hS.mem (cdl_lst hS.mem (cda_cons hS.mem (cd_ev (fun H => ev_op (ev_var rfl) ev_c rv_addB) fun H => .int _) (cda_cons hS.mem (cd_ev (fun H => ev_op (ev_var rfl) ev_c rv_subB) fun H => .int _) (cda_cons hS.mem (cd_ev (fun H => ev_un (ev_var rfl) ru_negB) fun H => .int _) (cda_cons hS.mem (cd_ev (fun H => ev_op (ev_var rfl) ev_c rv_addB) fun H => .int _) (cda_cons hS.mem (cd_ev (fun H => ev_strB (ev_var rfl)) fun H => .str _) (cda_cons hS.mem (cd_ev (fun H => ev_op (ev_var rfl) ev_c rv_addB) fun H => .int _) (cda_cons hS.mem (cd_tup (hS.fr f4) (cda_cons hS.mem (cd_ev (fun H => ev_var rfl) fun H => .bl _) cda_nil) (by simp)) cda_nil))))))) (by simp)) (fun H => ev_is (ev_op (ev_var rfl) ev_c rv_sub) (by rw [hj]; congr 1; omega)) hd' H4 (Fr.refl f4.bag) _ fun v' H5 f5 hv => ?_
    exact q v' d' H5 (f4.trans f5) hv (hl d' (List.mem_of_getElem? hd'))
  · have f4 := f3.trans (Fr.ex f3.bag x4)
    exact odd_of rfl f4.bag (hS.fr f4) fun v' d' H' fr h1 h2 => q v' d' H' (f4.trans fr) h1 h2
end
end K01
namespace K01
open PySem L2 PyProof.Rows Tc Evl
section
variable {P : Program} {w : World} {K : PySem.W.Frag} {mg : Str → Option Value} {base : Heap}
theorem cont_dp {H : Hp} {v : V} {d : PyData} {ds : List PyData} (hk : d = .tuple ds ∨ d = .list ds) (h : Dp K H v d) : ∃ a xs, v = .ref a ∧ SQ K H a xs ∧ DpAll K H xs ds := by
  rcases hk with rfl | rfl
  · cases h with
    | tup h r => exact ⟨_, _, rfl, .inr h, r⟩
  · cases h with
    | lst h r => exact ⟨_, _, rfl, .inl h, r⟩
theorem g_name {i : Nat} {v : V} {σ : L2.St} {H : Hp} {Q : L2.St → Hp → Prop} (h : Q (σ.set i (some v)) H) : gName i v σ H Q := h
theorem t_asg {te : TE} {g : TG} {D : Ends} {σ : L2.St} {H : Hp} (h : te σ H fun x H1 => g x σ H1 D.nx) : tAsg te g D σ H := h
/-- the lists under work behind the ways -/
def Mid (b a : Addr) (K : PySem.W.Frag) (S : Addr → Prop) (H : Hp) (r at' : Int) (c m : Nat) (d : PyData) (σ' : L2.St) (H' : Hp) : Prop := ∃ (l : Addr) (y5 : Option V) (ws : List V) (es : List PyData), σ' = [some (.ref b), some (.ref a), some (.int r), some (.ref l), some (.int at'), y5] ∧ Fr b H H' ∧ l ≠ b ∧ H' l = some (.lst ws) ∧ ¬ S l ∧
  DpAll K (cut (also S l) H') ws es ∧ (∀ e ∈ es, gd (c + 1) (m + 3) e = true) ∧ es.length ≤ 1101 + c ∧ Dp K H' (.ref a) d
set_option maxHeartbeats 1000000 in
theorem body_cont {kT kO kS k m : Nat} (N : Names mg) (dT : Own P w K mg base "_law_take" ["bag", "many"] kT spTake) (hT : kT ≤ k) (dO : Own P w K mg base "_law_odd" ["bag"] kO (spNew K (gd 0 3))) (hO : kO ≤ k) (dS : Own P w K mg base "_law_spoilt" ["bag", "thing"] kS (spSp K m)) (hkS : kS ≤ k) (d : PyData) (ds : List PyData) (hk : d = .tuple ds ∨ d = .list ds) : Body P w K mg base k (m + 1) d := by
  intro f cdv A outer s H b v S c Q E hr hB hS hd hg hc q
  obtain ⟨a, xs, rfl, hsq, hA⟩ := cont_dp hk hd
  have hgl : ds.length ≤ 1100 + c ∧ ∀ e ∈ ds, gd c m e = true := by
    rcases hk with rfl | rfl
    · exact gd_tup.mp hg
    · exact gd_lst.mp hg
  have hin : isTup d || isLst d = true := by rcases hk with rfl | rfl <;> rfl
  have hno : isStr d = false ∧ isInt d = false := by rcases hk with rfl | rfl <;> exact ⟨rfl, rfl⟩
  have hl := dps_len hA
  refine ⟨_, pss_cons (ps_set (i := 2) scSp.nd rfl (.inl rfl) (pe_own dT hr hT (by rfl) (pa_cons (pv 0) (pa_cons pe_int pa_nil))))
      (pss_cons (ps_if (PW.pt (pw_and (pt_val (pe_callB call_isiT (by rfl) N.isinstance boot_isinstance (pa_cons (pv 1) (pa_cons (pe_tup (pa_cons (pe_bltn (v := .ty "tuple") (by rfl) N.tuple boot_tuple rfl) (pa_cons (pe_bltn (v := .ty "list") (by rfl) N.list boot_list rfl) pa_nil))) pa_nil)))) (pw_and (pt_cmpR op_gt (pe_callB call_len_seq (by rfl) N.len PySem.boot_len (pa_cons (pv 1) pa_nil)) pe_int (nomark _)) (pw_and1 (pt_cmpR op_gt (pv 2) pe_int (nomark _)))))) (pss_cons (ps_set (i := 3) scSp.nd rfl (.inl rfl) (pe_callTy call_list_of (by rfl) N.list boot_list (pa_cons (pv 1) pa_nil))) (pss_cons (ps_set (i := 4) scSp.nd rfl (.inl rfl) (pe_own dT hr hT (by rfl) (pa_cons (pv 0) (pa_cons (pe_callB call_len_seq (by rfl) N.len PySem.boot_len (pa_cons (pv 3) pa_nil)) pa_nil)))) (Evl.pss_cut (ps_if (pt_cmpR op_eq (pv 2) pe_int (nomark _)) (pss_one (ps_set (i := 3) scSp.nd rfl (.inl rfl) (pe_op op_cat (pe_slice sl_list (pv 3) po_none (po_some (pv 4))) (pe_slice sl_list (pv 3) (po_some (pe_op op_add (pv 4) pe_int)) po_none)))) (pss_one (ps_if (pt_cmpR op_eq (pv 2) pe_int (nomark _)) (pss_one (ps_set (i := 3) scSp.nd rfl (.inl rfl) (pe_op op_cat (pe_slice sl_list (pv 3) po_none (po_some (pe_op op_add (pv 4) pe_int))) (pe_slice sl_list (pv 3) (po_some (pv 4)) po_none)))) (pss_one (ps_if (pt_cmpR op_eq (pv 2) pe_int (nomark _)) (pss_cons (ps_set (i := 5) scSp.nd rfl (.inl rfl) (pe_own dT hr hT (by rfl) (pa_cons (pv 0) (pa_cons (pe_callB call_len_seq (by rfl) N.len PySem.boot_len (pa_cons (pv 3) pa_nil)) pa_nil)))) (pss_one (ps_asg (pe_tup (pa_cons (pe_ix ix_list (pv 3) (pv 5) (fun _ _ => rfl)) (pa_cons (pe_ix ix_list (pv 3) (pv 4) (fun _ _ => rfl)) pa_nil))) (pg_tup rfl (pgs_cons (pg_sub (pv 3) (pv 4) set_list) (pgs_cons (pg_sub (pv 3) (pv 5) set_list) pgs_nil)))))) (pss_one (ps_if (pt_cmpR op_eq (pv 2) pe_int (nomark _)) (pss_one (ps_ret (pe_ifExp (pt_val (pe_callB call_isi (by rfl) N.isinstance boot_isinstance (pa_cons (pv 1) (pa_cons (pe_bltn (v := .ty "tuple") (by rfl) N.tuple boot_tuple rfl) pa_nil)))) (pv 3) (pe_callTy call_tuple_of (by rfl) N.tuple boot_tuple (pa_cons (pv 3) pa_nil))))) (pss_one (ps_asg (pe_own dS hr hkS (by rfl) (pa_cons (pv 0) (pa_cons (pe_ix ix_list (pv 3) (pv 4) (fun _ _ => rfl)) pa_nil))) (pg_sub (pv 3) (pv 4) set_list)))))))))) (pss_one (ps_ret (pe_ifExp (pt_val (pe_callB call_isi (by rfl) N.isinstance boot_isinstance (pa_cons (pv 1) (pa_cons (pe_bltn (v := .ty "tuple") (by rfl) N.tuple boot_tuple rfl) pa_nil)))) (pe_callTy call_tuple_of (by rfl) N.tuple boot_tuple (pa_cons (pv 3) pa_nil)) (pv 3))))))) pss_nil)
      (pss_cons (ps_if (PW.pt (pw_and (pt_val (pe_callB call_isi (by rfl) N.isinstance boot_isinstance (pa_cons (pv 1) (pa_cons (pe_bltn (v := .ty "str") (by rfl) N.str boot_str rfl) pa_nil)))) (pw_and1 (pt_cmpR op_gt (pv 2) pe_int (nomark _))))) pss_never pss_nil)
      (pss_cons (ps_if (PW.pt (pw_and (pt_val (pe_callB call_isi (by rfl) N.isinstance boot_isinstance (pa_cons (pv 1) (pa_cons (pe_bltn (v := .ty "int") (by rfl) N.int boot_int rfl) pa_nil)))) (pw_and1 (pt_cmpR op_gt (pv 2) pe_int (nomark _))))) pss_never pss_nil)
      (pss_one (ps_ret (pe_own dO hr hO (by rfl) (pa_cons (pv 0) pa_nil))))))), ?_⟩
  refine s_seq (take_of (b := b) (m := 9) hB (ea_cons (ev_var rfl) (ea_cons ev_c ea_nil)) (by decide) (by decide) fun r H1 f1 r0 r1 => ?_)
  have hd1 := dp_same (cut_sm hS.mem f1) _ _ hd
  have hd2 := dp_same (cut_same S H1) _ _ hd1
  have hs1 := (hsq.same (cut_sm hS.mem f1)).same (cut_same S H1)
  refine s_seq (s_if (et_and (et_B (ev_isiT (ev_var rfl) hd2)) fun _ => et_and (et_test (ev_op (ev_lenQ (ev_var rfl) hs1) ev_c rv_I0)) fun _ => et_test (ev_op (ev_var rfl) ev_c rv_I0)) (fun e H2 x2 => ?_) fun e H2 x2 => s_next ?_)
  · simp only [Bool.and_eq_true, decide_eq_true_eq] at e
    obtain ⟨_, hn, hr0⟩ := e
    have f2 := f1.trans (Fr.ex f1.bag x2)
    refine s_seq ⟨.ref a, rfl, a, xs, rfl, hs1.same x2, fun l hl2 => ?_⟩
    have hlb : l ≠ b := f2.bag.ne hl2
    have f3 := f2.trans (Fr.new (o := .lst xs) f2.bag hl2)
    have hlH : H l = none := fr_back' f2 hl2
    have hSl : ¬ S l := hS.new hlH
    refine s_seq (take_of (b := b) (m := (xs.length : Int)) f3.bag (ea_cons (ev_var rfl) (ea_cons (ev_lenQ (K := K) (xs := xs) (ev_var rfl) (.inl (sq_of upd_same))) ea_nil)) hn (by omega) fun at' H4 f4 a0 a1 => ?_)
    have f04 := f3.trans f4
    have h4l : H4 l = some (.lst xs) := f4.at upd_same hlb
    obtain ⟨j, rfl⟩ : ∃ j : Nat, at' = (j : Int) := ⟨at'.toNat, by omega⟩
    have hj : j < xs.length := by omega
    have hxj : xs[j]? = some xs[j] := List.getElem?_eq_getElem hj
    obtain ⟨dj, hdj, hdj2⟩ := dps_at hA hxj
    have hA4 : DpAll K (cut (also S l) H4) xs ds := dps_same (also_new hS.mem f04 hlH) _ _ hA
    have hd4 : Dp K H4 (.ref a) d := dp_same (cut_same S H4) _ _ (dp_same (cut_sm hS.mem f04) _ _ hd)
    have up : ∀ e ∈ ds, gd (c + 1) (m + 3) e = true := fun e m1 => gd_le (gd_lc (hgl.2 e m1) (by omega)) (by omega)
    refine ⟨Mid b a K S H r j c m d, ?_, fun σ' H' hM => ?_⟩
    · refine s_if (et_test (ev_op (ev_var rfl) ev_c (rv_eq rfl))) (fun e1 H5 x5 => ?_) (fun e1 H5 x5 => ?_)
      · refine s_asgL (el_cat (el_sl (K := K) (lo := none) (hi := some (j : Int)) (ev_var rfl) eo_none (eo_some (ev_var rfl)) (sq_of (x5 l _ h4l))) (el_sl (K := K) (lo := some ((j + 1 : Nat) : Int)) (hi := none) (ev_var rfl) (eo_some (ev_is (ev_op (ev_var rfl) ev_c rv_add) (congrArg V.int (by omega)))) eo_none (sq_of (x5 l _ h4l))) ?_) fun p H6 hp x6 h6 => ?_
        · have := cut_len1 xs j
          have := cut_len2 xs (j + 1)
          omega
        · have f5 := f04.trans (Fr.ex f04.bag x5)
          have f6 := f5.trans (Fr.ex f5.bag x6)
          have hpH : H p = none := fr_back' f5 hp
          obtain ⟨e1, q1, q2⟩ := dps_cut none (some (j : Int)) hA
          obtain ⟨e2, q3, q4⟩ := dps_cut (some ((j + 1 : Nat) : Int)) none hA
          refine ⟨p, _, _, e1 ++ e2, rfl, f6, f5.bag.ne hp, h6, hS.new hpH, dps_same (also_new hS.mem f6 hpH) _ _ (dps_app q1 q3), fun e me => ?_, ?_, dp_same (x5.trans x6) _ _ hd4⟩
          · rcases List.mem_append.mp me with me | me
            · exact up e (q2 e me)
            · exact up e (q4 e me)
          · have := cut_len1 xs j
            have := cut_len2 xs (j + 1)
            have := dps_len q1
            have := dps_len q3
            rw [List.length_append]
            omega
      · refine s_if (et_test (ev_op (ev_var rfl) ev_c (rv_eq rfl))) (fun e2 H6 x6' => ?_) (fun e2 H6 x6' => ?_)
        · have x6 := x5.trans x6'
          refine s_asgL (el_cat (el_sl (K := K) (lo := none) (hi := some ((j + 1 : Nat) : Int)) (ev_var rfl) eo_none (eo_some (ev_is (ev_op (ev_var rfl) ev_c rv_add) (congrArg V.int (by omega)))) (sq_of (x6 l _ h4l))) (el_sl (K := K) (lo := some (j : Int)) (hi := none) (ev_var rfl) (eo_some (ev_var rfl)) eo_none (sq_of (x6 l _ h4l))) ?_) fun p H7 hp x7 h7 => ?_
          · have := cut_len1 xs (j + 1)
            have := cut_len2 xs j
            omega
          · have f5 := f04.trans (Fr.ex f04.bag x6)
            have f6 := f5.trans (Fr.ex f5.bag x7)
            have hpH : H p = none := fr_back' f5 hp
            obtain ⟨e1, q1, q2⟩ := dps_cut none (some ((j + 1 : Nat) : Int)) hA
            obtain ⟨e2, q3, q4⟩ := dps_cut (some (j : Int)) none hA
            refine ⟨p, _, _, e1 ++ e2, rfl, f6, f5.bag.ne hp, h7, hS.new hpH, dps_same (also_new hS.mem f6 hpH) _ _ (dps_app q1 q3), fun e me => ?_, ?_, dp_same (x6.trans x7) _ _ hd4⟩
            · rcases List.mem_append.mp me with me | me
              · exact up e (q2 e me)
              · exact up e (q4 e me)
            · have := cut_len1 xs (j + 1)
              have := cut_len2 xs j
              have := dps_len q1
              have := dps_len q3
              rw [List.length_append]
              omega
        · refine s_if (et_test (ev_op (ev_var rfl) ev_c (rv_eq rfl))) (fun e3 H7 x7' => ?_) (fun e3 H7 x7' => ?_)
          · have x7 := (x5.trans x6').trans x7'
            have f7 := f04.trans (Fr.ex f04.bag x7)
            refine s_seq (take_of (b := b) (m := (xs.length : Int)) f7.bag (ea_cons (ev_var rfl) (ea_cons (ev_lenQ (K := K) (xs := xs) (ev_var rfl) (.inl (sq_of (x7 l _ h4l)))) ea_nil)) hn (by omega) fun o H8 f8 o0 o1 => ?_)
            obtain ⟨i, rfl⟩ : ∃ i : Nat, o = (i : Int) := ⟨o.toNat, by omega⟩
            have hi : i < xs.length := by omega
            have hxi : xs[i]? = some xs[i] := List.getElem?_eq_getElem hi
            obtain ⟨di, hdi, hdi2⟩ := dps_at hA hxi
            have h8l : H8 l = some (.lst xs) := f8.at (x7 l _ h4l) hlb
            have hU : EvU (tTup (tCons (tOp (rIxL K) (tVar 3) (tVar 5)) (tCons (tOp (rIxL K) (tVar 3) (tVar 4)) tNil))) [some (.ref b), some (.ref a), some (.int r), some (.ref l), some (.int (j : Int)), some (.int (i : Int))] H8 [xs[i], xs[j]] :=
              eu_tup (ea_cons (ev_lx (K := K) (j := i) (ev_var rfl) (ev_var rfl) (sq_of h8l) hxi) (ea_cons (ev_lx (K := K) (j := j) (ev_var rfl) (ev_var rfl) (sq_of h8l) hxj) ea_nil)) (by simp)
            refine g_name (t_asg (hU H8 (Ex.refl H8) _ fun T H9 hT x9 h9 => ?_))
            refine ⟨T, _, rfl, st_of h9, rfl, _, _, rfl, .ref l, rfl, .int (j : Int), rfl, l, xs, j, j, rfl, rfl, x9 l _ h8l, ixN_nat hj, _, _, rfl, .ref l, rfl, .int (i : Int), rfl, l, xs.set j xs[i], i, i, rfl, rfl, upd_same, ixN_nat (by rw [List.length_set]; exact hi), rfl, ?_⟩
            have f9 := (f7.trans f8).trans (Fr.ex f8.bag x9)
            refine ⟨l, _, _, (ds.set j di).set i dj, rfl, Fr.mut (Fr.mut f9 hlH hlb) hlH hlb, hlb, upd_same, hSl, ?_, fun e me => ?_, ?_, ?_⟩
            · rw [cut_upd (.inr rfl), cut_upd (.inr rfl)]
              have hA9 : DpAll K (cut (also S l) H9) xs ds := dps_same (also_new hS.mem f9 hlH) _ _ hA
              exact dps_set i (dps_set j hA9 (dp_same (also_new hS.mem f9 hlH) _ _ hdi2)) (dp_same (also_new hS.mem f9 hlH) _ _ hdj2)
            · rcases mem_set me with me | me
              · rcases mem_set me with me | me
                · exact up e me
                · rw [me]
                  exact up _ (List.mem_of_getElem? hdi)
              · rw [me]
                exact up _ (List.mem_of_getElem? hdj)
            · rw [List.length_set, List.length_set]
              omega
            · have g9 := Fr.mut (o := .lst ((xs.set j xs[i]).set i xs[j])) (Fr.mut (o := .lst (xs.set j xs[i])) f9 hlH hlb) hlH hlb
              exact dp_same (cut_same S _) _ _ (dp_same (cut_sm hS.mem g9) _ _ hd)
          · refine s_if (et_test (ev_op (ev_var rfl) ev_c (rv_eq rfl))) (fun e4 H8 x8' => ?_) (fun e4 H8 x8' => ?_)
            · have x8 := ((x5.trans x6').trans x7').trans x8'
              refine et_B (ev_tuple (ev_var rfl) (dp_same x8 _ _ hd4)) H8 (Ex.refl H8) _ fun H9 x9 => ?_
              have f9 := f04.trans (Fr.ex f04.bag (x8.trans x9))
              have h9l : H9 l = some (.lst xs) := x9 l _ (x8 l _ h4l)
              have hA9 : DpAll K (cut (also S l) H9) xs ds := dps_same (also_new hS.mem f9 hlH) _ _ hA
              refine ite2 (fun _ => ⟨.ref l, rfl, q (.ref l) (.list ds) H9 f9 (.lst (sq_of (cut_at h9l hSl)) (dps_same also_same _ _ hA9)) ?_⟩) (fun _ => ⟨.ref l, rfl, l, xs, rfl, .inl ⟨sq_of h9l, fun p hp => q (.ref p) (.tuple ds) _ (f9.trans (Fr.new f9.bag hp)) (cdt_new (hS.fr f9) f9.bag hp (dps_same also_same _ _ hA9)) ?_⟩⟩)
              · exact gd_lst.mpr ⟨by omega, up⟩
              · exact gd_tup.mpr ⟨by omega, up⟩
            · have x8 := ((x5.trans x6').trans x7').trans x8'
              have f8 := f04.trans (Fr.ex f04.bag x8)
              have h8l : H8 l = some (.lst xs) := x8 l _ h4l
              refine ⟨.ref b, rfl, .ref l, rfl, .int (j : Int), rfl, l, xs, j, xs[j], rfl, rfl, sq_of h8l, atI_nat hxj, b, xs[j], dj, also S l, c, rfl, f8.bag, (hS.fr f8).also (by rw [h8l]; exact fun z => nomatch z), dp_same (also_new hS.mem f8 hlH) _ _ hdj2, hgl.2 _ (List.mem_of_getElem? hdj), hc, fun v' d' H9 f9 hv hg9 => ?_⟩
              have f09 := f8.trans f9
              refine ⟨.ref l, rfl, .int (j : Int), rfl, l, xs, j, j, rfl, rfl, f9.at h8l hlb, ixN_nat hj, ?_⟩
              refine ⟨l, _, _, ds.set j d', rfl, Fr.mut f09 hlH hlb, hlb, upd_same, hSl, ?_, fun e me => ?_, ?_, ?_⟩
              · rw [cut_upd (.inr rfl)]
                exact dps_set j (dps_same (also_new hS.mem f09 hlH) _ _ hA) hv
              · rcases mem_set me with me | me
                · exact up e me
                · rw [me]
                  exact hg9
              · rw [List.length_set]
                omega
              · exact dp_same (cut_same S _) _ _ (dp_same (cut_sm hS.mem (Fr.mut (o := .lst (xs.set j v')) f09 hlH hlb)) _ _ hd)
    · obtain ⟨l', y5, ws, es, rfl, fM, hlb', hM, hSl', hAM, hgM, hlM, hdM⟩ := hM
      refine et_B (ev_tuple (ev_var rfl) hdM) H' (Ex.refl H') _ fun H9 x9 => ?_
      have f9 := fM.trans (Fr.ex fM.bag x9)
      have h9l : H9 l' = some (.lst ws) := x9 l' _ hM
      have hA9 : DpAll K (cut S H9) ws es := dps_same (cut_sm hS.mem (Fr.ex fM.bag x9)) _ _ (dps_same also_same _ _ hAM)
      refine ite2 (fun _ => ⟨.ref l', rfl, l', ws, rfl, .inl ⟨sq_of h9l, fun p hp => q (.ref p) (.tuple es) _ (f9.trans (Fr.new f9.bag hp)) (cdt_new (hS.fr f9) f9.bag hp hA9) ?_⟩⟩) (fun _ => ⟨.ref l', rfl, q (.ref l') (.list es) H9 f9 (.lst (sq_of (cut_at h9l hSl')) hA9) ?_⟩)
      · exact gd_tup.mpr ⟨by omega, hgM⟩
      · exact gd_lst.mpr ⟨by omega, hgM⟩
  · refine s_seq (s_if (b := false) (et_and (a := false) (b := false) (et_B (ev_is (ev_str (ev_var rfl) (dp_same x2 _ _ hd2)) (by rw [hno.1]))) fun e => by cases e) (fun e => by cases e) fun _ H3 x3 => s_next ?_)
    refine s_seq (s_if (b := false) (et_and (a := false) (b := false) (et_B (ev_is (ev_int (ev_var rfl) (dp_same (x2.trans x3) _ _ hd2)) (by rw [hno.2]))) fun e => by cases e) (fun e => by cases e) fun _ H4 x4 => s_next ?_)
    have f4 := f1.trans (Fr.ex f1.bag ((x2.trans x3).trans x4))
    exact odd_of rfl f4.bag (hS.fr f4) fun v' d' H' fr h1 h2 => q v' d' H' (f4.trans fr) h1 h2
end
end K01
namespace K01
open PySem L2 PyProof.Rows Tc Evl
section
variable {P : Program} {w : World} {K : PySem.W.Frag} {mg : Str → Option Value} {base : Heap}
theorem ok_sp {f : Addr} {fd : FuncData} {kT kO k : Nat} (F : Fun K "_law_spoilt" "_law_spoilt" sSp f fd) (gS : mg "_law_spoilt" = some (.ref f)) (bS : Binds K fd ["bag", "thing"] []) (N : Names mg) (dT : Own P w K mg base "_law_take" ["bag", "many"] kT spTake) (hT : kT ≤ k)
    (dO : Own P w K mg base "_law_odd" ["bag"] kO (spNew K (gd 0 3))) (hO : kO ≤ k) : ∀ n : Nat, FnOk P w K mg base CX0 (k + n + 1) f fd ["bag", "thing"] (spSp K n)
  | 0 => by
    refine F.ok scSp (fun vs H Q E h => ?_) (fun cdv A outer s H vs Q E hr h => ?_)
    · obtain ⟨b, v, d, S, c, rfl, _⟩ := h
      rfl
    · obtain ⟨b, v, d, S, c, rfl, hB, hS, hd, hg, hc, q⟩ := h
      cases d with
      | none => exact body_none N dT (by omega) dO (by omega) f cdv A outer s H b v S c Q E hr hB hS hd hg hc q
      | bool i => exact body_bool N dT (by omega) dO (by omega) i f cdv A outer s H b v S c Q E hr hB hS hd hg hc q
      | int i => exact body_int N dT (by omega) dO (by omega) i f cdv A outer s H b v S c Q E hr hB hS hd hg hc q
      | str i => exact body_str N dT (by omega) dO (by omega) i f cdv A outer s H b v S c Q E hr hB hS hd hg hc q
      | _ => cases hg
  | n + 1 => by
    have dS : Own P w K mg base "_law_spoilt" ["bag", "thing"] (k + n + 1) (spSp K n) := ⟨f, fd, ok_sp F gS bS N dT hT dO hO n, gS, F.kp, bS⟩
    refine F.ok scSp (fun vs H Q E h => ?_) (fun cdv A outer s H vs Q E hr h => ?_)
    · obtain ⟨b, v, d, S, c, rfl, _⟩ := h
      rfl
    · obtain ⟨b, v, d, S, c, rfl, hB, hS, hd, hg, hc, q⟩ := h
      cases d with
      | none => exact body_none N dT (by omega) dO (by omega) f cdv A outer s H b v S c Q E hr hB hS hd hg hc q
      | bool i => exact body_bool N dT (by omega) dO (by omega) i f cdv A outer s H b v S c Q E hr hB hS hd hg hc q
      | int i => exact body_int N dT (by omega) dO (by omega) i f cdv A outer s H b v S c Q E hr hB hS hd hg hc q
      | str i => exact body_str N dT (by omega) dO (by omega) i f cdv A outer s H b v S c Q E hr hB hS hd hg hc q
      | tuple ds => exact body_cont N dT (by omega) dO (by omega) dS (by omega) _ ds (.inl rfl) f cdv A outer s H b v S c Q E hr hB hS hd hg hc q
      | list ds => exact body_cont N dT (by omega) dO (by omega) dS (by omega) _ ds (.inr rfl) f cdv A outer s H b v S c Q E hr hB hS hd hg hc q
      | dict _ => cases hg
/-- the same at any depth up to twenty -/
def spSpU (K : PySem.W.Frag) : Sp := fun vs H Q E => ∃ n, n ≤ 20 ∧ spSp K n vs H Q E
theorem ok_spU {f : Addr} {fd : FuncData} {k : Nat} (h : ∀ n : Nat, n ≤ 20 → FnOk P w K mg base CX0 k f fd ["bag", "thing"] (spSp K n)) : FnOk P w K mg base CX0 k f fd ["bag", "thing"] (spSpU K) :=
  ⟨fun vs H Q E ⟨n, hn, p⟩ => (h n hn).len vs H Q E p, fun A outer s H args us vs Q E hr he hb hv ⟨n, hn, p⟩ => (h n hn).run A outer s H args us vs Q E hr he hb hv p⟩
end
end K01
namespace K01
open PySem L2 PyProof.Rows Tc Evl
abbrev sLaw : Stmt := topS 21
theorem scLaw : FnScope ["script", "k", "bag", "thing", "great", "one", "turn", "found", "at"] ["script"] (defScope sLaw) := ⟨rfl, rfl, rfl, by decide +kernel, rfl, by decide +kernel, by decide +kernel⟩
section
variable {P : Program} {w : World} {K : PySem.W.Frag} {mg : Str → Option Value} {base : Heap}
def spLaw (K : PySem.W.Frag) : Sp := fun vs H Q _ => ∃ (a : Addr) (ns : List Int), vs = [.ref a] ∧ SqL K H a (ns.map V.int) ∧ ns.length ≤ 63 ∧ ∀ H', Q (.bl true) H'
theorem Col.from {b D : Addr} {g : PyData → Bool} {H H1 H' : Hp} {i j : Nat} (f : Tc.Fr b H H1) (c : Col b K g H1 D i H') (h : i ≤ j) : Col b K g H D j H' := by
  obtain ⟨vs, ds, h1, h2, h3, h4⟩ := c.ex
  exact ⟨f.trans c.fr, fr_back' f c.new, c.ne, vs, ds, h1, h2, by omega, h4⟩
theorem gd_short {c n : Nat} {d : PyData} (h : gd c n d = true) (hc : c ≤ 100) : Short d := fun ds e => by
  subst e
  cases n with
  | zero => cases h
  | succ n =>
    have := (gd_tup.mp h).1
    omega
theorem ev_min2 {σ : L2.St} {H : Hp} {ta tb : TE} {i j : Int} (ha : Ev ta σ H (.int i)) (hb : Ev tb σ H (.int j)) : Ev (tCB (fun xs H Q => ∃ i j, xs = [.int i, .int j] ∧ Q (.int (if j < i then j else i)) H) (tCons ta (tCons tb tNil))) σ H (.int (if j < i then j else i)) :=
  ev_cb (ea_cons ha (ea_cons hb ea_nil)) fun H1 _ _ q => ⟨i, j, rfl, q H1 (Ex.refl H1)⟩
theorem sok_one {b : Addr} {H : Hp} (h : Bag H b) : Sok (fun a => a = b) b H := ⟨rfl, fun a m => by
  obtain ⟨x, y, hb, _⟩ := h
  rw [m, hb]
  exact fun z => nomatch z⟩
theorem dp_cut {b : Addr} {H : Hp} {v : V} {d : PyData} (h : Dp K (hid b H) v d) : Dp K (cut (fun a => a = b) H) v d := by
  rw [cut_hid]
  exact h
theorem dp_hid {b : Addr} {H : Hp} {v : V} {d : PyData} (h : Dp K (cut (fun a => a = b) H) v d) : Dp K (hid b H) v d := by
  rw [cut_hid] at h
  exact h
set_option maxHeartbeats 2000000 in
theorem ok_law {f : Addr} {fd : FuncData} {kT kO kI kL kS kB kTab kKeys k : Nat} (F : Fun K "law" "law" sLaw f fd) (N : Names mg) (dT : Own P w K mg base "_law_take" ["bag", "many"] kT spTake) (hT : kT ≤ k) (dO : Own P w K mg base "_law_odd" ["bag"] kO (spNew K (gd 0 3))) (hO : kO ≤ k)
    (dI : Own P w K mg base "is_table" ["thing"] kI (spTold K isTable)) (hI : kI ≤ k) (dL : Own P w K mg base "_law_is_table" ["thing"] kL (spToldS K isTable)) (hL : kL ≤ k) (dS : Own P w K mg base "_law_spoilt" ["bag", "thing"] kS (spSpU K)) (hS : kS ≤ k)
    (dB : Own P w K mg base "_law_bag" ["script", "k"] kB (spBag K)) (hB : kB ≤ k) (dTab : Own P w K mg base "_law_table" ["bag", "keys"] kTab (spTab K)) (hTab : kTab ≤ k) (dKeys : Own P w K mg base "_law_keys" ["bag"] kKeys spKeys) (hKeys : kKeys ≤ k) :
    FnOk P w K mg base CX0 (k + 1) f fd ["script"] (spLaw K) := by
  refine F.ok scLaw (fun vs H Q E h => ?_) (fun cdv A outer s H vs Q E hr h => ?_)
  · obtain ⟨a, ns, rfl, _⟩ := h
    rfl
  · obtain ⟨a, ns, rfl, hA, hn, q⟩ := h
    refine ⟨_, pss_cons (ps_for PassesOwn.never rfl (pi_range1 rfl N.range (pa_cons (pe_op op_add pe_int (pe_callB (call_min2 rfl) (by rfl) N.min boot_min (pa_cons (pe_callB call_len_seq (by rfl) N.len PySem.boot_len (pa_cons (pv 0) pa_nil)) (pa_cons pe_int pa_nil)))) pa_nil)) (pg_name (i := 1) scLaw.nd rfl (.inl rfl))
        (pss_cons (ps_set (i := 2) scLaw.nd rfl (.inr rfl) (pe_own dB hr hB (by rfl) (pa_cons (pv 0) (pa_cons (pv 1) pa_nil))))
        (pss_cons (ps_set (i := 3) scLaw.nd rfl (.inl rfl) (pe_own dTab hr hTab (by rfl) (pa_cons (pv 2) (pa_cons (pe_own dKeys hr hKeys (by rfl) (pa_cons (pv 2) pa_nil)) pa_nil))))
        (pss_cons (ps_set (i := 4) scLaw.nd rfl (.inl rfl) (pe_callTy call_tuple_of (by rfl) N.tuple boot_tuple (pa_cons (pe_lc (own := [("at", 8)]) (g := gName 8) (tt := tYes) (te := tTup (tCons (tOp (rI0 fun i j => .int (i + j)) (tOp (rI CMul fun i j => .int (i * j)) (tC (.int 3)) (tVar 8)) (tC (.int 1))) (tCons (tCall spTake [] E0 (tCons (tVar 2) (tCons (tC (.int 1000)) tNil))) tNil))) rfl scLaw.nd (pi_range1 rfl N.range (pa_cons (pe_op op_add pe_int (pe_own dT hr hT (by rfl) (pa_cons (pv 2) (pa_cons pe_int pa_nil)))) pa_nil)) (blkOk_by (N := ["script", "k", "bag", "thing", "great", "one", "turn", "found", "at"]) (sc := defScope sLaw) (by decide +kernel)) (fun _ _ _ _ _ => pg_name (i := 8) scLaw.nd rfl (Or.inl rfl)) (fun _ _ _ _ _ => pts_nil)
        (fun _ _ _ _ _ => pe_tup (pa_cons (pe_op op_add (pe_op op_mul pe_int (pv 8)) pe_int) (pa_cons (pe_own dT hr hT (by rfl) (pa_cons (pv 2) (pa_cons pe_int pa_nil))) pa_nil)))) pa_nil)))
        (pss_cons (ps_for PassesOwn.never rfl (pi_list (pe_lst (pa_cons (pv 4) (pa_cons (pv 3) (pa_cons (pe_own dO hr hO (by rfl) (pa_cons (pv 2) pa_nil)) (pa_cons (pe_tup pa_nil) pa_nil)))))) (pg_name (i := 5) scLaw.nd rfl (.inl rfl))
          (pss_one (ps_if (pt_cmpR op_ne (pe_own dI hr hI (by rfl) (pa_cons (pv 5) pa_nil)) (pe_own dL hr hL (by rfl) (pa_cons (pv 5) pa_nil)) (nomark _)) (pss_one (ps_ret pe_bl)) pss_nil)))
        (pss_one (ps_for PassesOwn.never rfl (pi_range1 rfl N.range (pa_cons pe_int pa_nil)) (pg_name (i := 6) scLaw.nd rfl (.inl rfl))
          (pss_cons (ps_set (i := 7) scLaw.nd rfl (.inl rfl) (pe_own dI hr hI (by rfl) (pa_cons (pv 3) pa_nil)))
          (pss_cons (ps_if (PW.pt (pw_or (pt_not (pt_val (pe_callB call_isi (by rfl) N.isinstance boot_isinstance (pa_cons (pv 7) (pa_cons (pe_bltn (v := .ty "bool") (by rfl) N.bool boot_bool rfl) pa_nil))))) (pw_or1 (pt_cmpR op_ne (pv 7) (pe_own dL hr hL (by rfl) (pa_cons (pv 3) pa_nil)) (nomark _))))) (pss_one (ps_ret pe_bl)) pss_nil)
          (pss_one (ps_set (i := 3) scLaw.nd rfl (.inl rfl) (pe_own dS hr hS (by rfl) (pa_cons (pv 2) (pa_cons (pv 3) pa_nil))))))))))))))
      (pss_one (ps_ret pe_bl)), ?_⟩
    have hmn : 0 ≤ 1 + (if (30 : Int) < ((ns.map V.int).length : Int) then (30 : Int) else ((ns.map V.int).length : Int)) ∧ 1 + (if (30 : Int) < ((ns.map V.int).length : Int) then (30 : Int) else ((ns.map V.int).length : Int)) ≤ 100 := by
      split <;> omega
    refine s_seq (s_forR1 (n := 1 + (if (30 : Int) < ((ns.map V.int).length : Int) then (30 : Int) else ((ns.map V.int).length : Int))) (ea_cons (ev_op ev_c (ev_min2 (ev_len (ev_var rfl) hA) ev_c) rv_add) ea_nil) ⟨hmn.1, by omega⟩
      (fun i σ' H' => ∃ y1 y2 y3 y4 y5 y6 y7 y8, σ' = [some (.ref a), y1, y2, y3, y4, y5, y6, y7, y8] ∧ SqL K H' a (ns.map V.int)) (fun H1 x1 => ⟨none, none, none, none, none, none, none, none, rfl, ex_l x1 hA⟩) (fun i σ' H' hi p => ?_) (fun σ' H' p => ?_))
    · obtain ⟨y1, y2, y3, y4, y5, y6, y7, y8, rfl, hA'⟩ := p
      have hi2 : i ≤ 1000 := by omega
      refine s_seq ⟨.ref a, rfl, .int (i : Int), rfl, a, ns, i, rfl, hA', hi2, fun b H1 hb x1 hB1 => ?_⟩
      have sH : Same H' (hid b H1) := fun x o e => hid_at (x1 x o e) fun z => by
        rw [z, hb] at e
        cases e
      have hA1 : SqL K (hid b H1) a (ns.map V.int) := ex_l sH hA'
      refine g_name (s_seq ⟨.ref b, rfl, .ref b, rfl, b, rfl, hB1, fun l ks H2 f2 hl hlb h2 hk hkn => ⟨b, l, ks, rfl, f2.bag, hlb, h2, hk, hkn, fun v d H3 f3 hd hg => g_name ?_⟩⟩)
      dsimp only
      refine s_seq ?_
      have f13 := f2.trans f3
      refine t_asg (Col.tup (b := b) (K := K) (g := gd 0 1) (i := 101) (fun Q' q' => ?_) (by omega) fun vg dg H4 f4 hdg hxg => g_name ?_)
      · refine take_of (b := b) (m := 3) f13.bag (ea_cons (ev_var rfl) (ea_cons ev_c ea_nil)) (by decide) (by decide) fun r H5 f5 r0 r1 => ⟨99, r, rfl, rfl, 99 + r, rfl, by omega, by omega, fun D hD => ?_⟩
        refine lc_range (lo := 0) (n := (99 + r).toNat) (Col b K (gd 0 1) H5 D) (Col.start f5.bag hD) (fun j H' hj c => ⟨rfl, iteT (B := Col b K (gd 0 1) H5 D (j + 1) H') ?_⟩) (fun H' c => q' D H' (Col.from f5 c (by omega)))
        refine ⟨.int (0 + (j : Int)), rfl, 3, 0 + (j : Int), rfl, rfl, .inl ⟨by decide, by decide⟩, 3 * (0 + (j : Int)), 1, rfl, rfl, take_of (b := b) (m := 1000) c.fr.bag (ea_cons (ev_var rfl) (ea_cons ev_c ea_nil)) (by decide) (by decide) fun r2 H6 f6 r3 r4 => ⟨sz_of (by simp), fun p hp => ?_⟩⟩
        exact c.push (f6.trans (Fr.new f6.bag hp)) (dp_pair f6.bag (c.skip f6).at hp) (gd_pair (by omega) (by omega) r3 (by omega)) (by omega)
      · obtain ⟨dsg, rfl, hgl, hgg⟩ := hxg
        have hgg2 : gd 0 2 (.tuple dsg) = true := gd_tup.mpr ⟨by omega, hgg⟩
        have f14 := f13.trans f4
        dsimp only
        refine s_seq ?_
        refine ⟨vg, rfl, v, rfl, .ref b, rfl, b, (fun x => x = b), rfl, f14.bag, sok_one f14.bag, fun vo do5 H5 f5 hdo hgo => ⟨sz_of (by simp), fun p hp => ⟨sz_of (by simp), fun L hL => ⟨L, rfl, ⟨_, sq_of upd_same⟩, ?_⟩⟩⟩⟩
        have f6 : Tc.Fr b H5 (upd (upd H5 p (.tup [])) L (.lst [vg, v, vo, .ref p])) := (Fr.new f5.bag hp).trans (Fr.new (Fr.new f5.bag hp).bag hL)
        have hp6 : (upd (upd H5 p (.tup [])) L (.lst [vg, v, vo, .ref p])) p = some (.tup []) := by
          rw [upd_ne (ne_of_none upd_same hL)]
          exact upd_same
        have hL6 : (upd (upd H5 p (.tup [])) L (.lst [vg, v, vo, .ref p])) L = some (.lst [vg, v, vo, .ref p]) := upd_same
        generalize hH6 : upd (upd H5 p (.tup [])) L (.lst [vg, v, vo, .ref p]) = H6 at f6 hp6 hL6
        have all : ∀ x ∈ [vg, v, vo, V.ref p], ∃ dx, Dp K H6 x dx ∧ Short dx := fun x m => by
          simp only [List.mem_cons, List.not_mem_nil, or_false] at m
          rcases m with rfl | rfl | rfl | rfl
          · exact ⟨_, dp_same (hid_same b H6) _ _ (dp_same (f5.trans f6).sm _ _ hdg), gd_short hgg2 (by omega)⟩
          · exact ⟨_, dp_same (hid_same b H6) _ _ (dp_same (f4.trans (f5.trans f6)).sm _ _ hd), gd_short hg (by omega)⟩
          · exact ⟨_, dp_same (hid_same b H6) _ _ (dp_same f6.sm _ _ (dp_hid hdo)), gd_short hgo (by omega)⟩
          · exact ⟨.tuple [], .tup (st_of hp6) .nil, fun ds e => by cases e; simp⟩
        refine for_list (K := K) (xs := [vg, v, vo, .ref p]) (fun j σ' H' => ∃ z5, σ' = [some (.ref a), some (.int (i : Int)), some (.ref b), some v, some vg, z5, y6, y7, y8] ∧ Ex H6 H') ⟨_, rfl, Ex.refl H6⟩ (fun j σ' H' _ pp => ?_) (fun j x σ' H' hx pp => ?_) (fun σ' H' pp => ?_)
        · obtain ⟨_, _, xx⟩ := pp
          exact sq_of (xx L _ hL6)
        · obtain ⟨z5, rfl, xx⟩ := pp
          obtain ⟨dx, hdx, hsx⟩ := all x (List.mem_of_getElem? hx)
          have hdx' := dp_same xx _ _ hdx
          exact g_name (s_if (b := false) (et_is (et_test (ev_op (ev_told (ev_var rfl) hdx') (ev_toldS (ev_var rfl) hdx' hsx) (rv_ne rfl))) (by rw [decide_eq_true rfl]; rfl)) (fun e => by cases e) (fun _ H7 x7 => s_next ⟨_, rfl, xx.trans x7⟩))
        · obtain ⟨z5, rfl, xx⟩ := pp
          have f1x := (f14.trans (f5.trans f6)).trans (Fr.ex f6.bag xx)
          refine s_forR1 (n := 7) (ea_cons ev_c ea_nil) ⟨by decide, by decide⟩ (fun t σ' H' => ∃ v' d' u5 u6 u7, σ' = [some (.ref a), some (.int (i : Int)), some (.ref b), some v', some vg, u5, u6, u7, y8] ∧ Tc.Fr b H1 H' ∧ Dp K (hid b H') v' d' ∧ gd t (2 + 3 * t) d' = true)
            (fun H7 x7 => ⟨v, d, _, _, _, rfl, f1x.trans (Fr.ex f1x.bag x7), dp_same (f4.trans (((f5.trans f6).trans (Fr.ex f6.bag xx)).trans (Fr.ex f1x.bag x7))).sm _ _ hd, hg⟩) (fun t σ' H' ht pp => ?_) (fun σ' H' pp => ?_)
          · obtain ⟨v', d', u5, u6, u7, rfl, ft, hdt, hgt⟩ := pp
            have ht7 : t < 7 := by omega
            have hdF := dp_same (hid_same b H') _ _ hdt
            have hsh : Short d' := gd_short hgt (by omega)
            refine s_seq (s_asg (ev_told (ev_var rfl) hdF) fun H8 x8 => s_seq ?_)
            have hdF8 := dp_same x8 _ _ hdF
            refine s_if (b := false) (et_is (et_or (a := false) (et_is (et_not (et_B (ev_bool (K := K) (ev_var rfl) (.bl (isTable d'))))) rfl) fun _ => et_test (ev_op (ev_var rfl) (ev_toldS (ev_var rfl) hdF8 hsh) (rv_ne rfl))) (by rw [decide_eq_true rfl]; rfl)) (fun e => by cases e) (fun _ H9 x9 => s_next ?_)
            have f9 := ft.trans (Fr.ex ft.bag (x8.trans x9))
            have hd9 := dp_same (Fr.ex ft.bag (x8.trans x9)).sm _ _ hdt
            refine ⟨.ref b, rfl, v', rfl, 2 + 3 * t, by omega, b, v', d', (fun x => x = b), t, rfl, f9.bag, sok_one f9.bag, dp_cut hd9, hgt, by omega, fun v2 d2 H10 f10 hd2 hg2 => g_name ⟨v2, d2, _, _, _, rfl, f9.trans f10, dp_hid hd2, ?_⟩⟩
            have e23 : 2 + 3 * (t + 1) = 2 + 3 * t + 3 := by omega
            rw [e23]
            exact hg2
          · obtain ⟨v', d', u5, u6, u7, rfl, ft, hdt, hgt⟩ := pp
            exact ⟨_, _, _, _, _, _, _, _, rfl, ex_l (hid_same b H') (ex_l ft.sm hA1)⟩
    · dsimp only
      exact s_ret ev_c fun H2 x2 => q H2
end
end K01
namespace K01
open PySem L2 PyProof.Rows Tc Evl
set_option maxHeartbeats 1000000 in
theorem all_mk {l : PySem.W.OpenLaw} {w : World} {K : PySem.W.Frag} {h : Heap} {mg : Str → Option Value} {fa : Addr} (X : K.In h) (G : h.Ns mainGlobals mg) (hfa : mg "law" = some (.ref fa))
    {f1 : Addr} {od1 an1 : Option Addr} {sl1 : Array (Option Value)} {oc1 kV1 dc1 pm1 cd1 ct1 : Value}
    {f2 : Addr} {od2 an2 : Option Addr} {sl2 : Array (Option Value)} {oc2 kV2 dc2 pm2 cd2 ct2 : Value}
    {f3 : Addr} {od3 an3 : Option Addr} {sl3 : Array (Option Value)} {oc3 kV3 dc3 pm3 cd3 ct3 : Value}
    {f4 : Addr} {od4 an4 : Option Addr} {sl4 : Array (Option Value)} {oc4 kV4 dc4 pm4 cd4 ct4 : Value}
    {f5 : Addr} {od5 an5 : Option Addr} {sl5 : Array (Option Value)} {oc5 kV5 dc5 pm5 cd5 ct5 : Value}
    {f6 : Addr} {od6 an6 : Option Addr} {sl6 : Array (Option Value)} {oc6 kV6 dc6 pm6 cd6 ct6 : Value}
    {f7 : Addr} {od7 an7 : Option Addr} {sl7 : Array (Option Value)} {oc7 kV7 dc7 pm7 cd7 ct7 : Value}
    {f8 : Addr} {od8 an8 : Option Addr} {sl8 : Array (Option Value)} {oc8 kV8 dc8 pm8 cd8 ct8 : Value}
    {f9 : Addr} {od9 an9 : Option Addr} {sl9 : Array (Option Value)} {oc9 kV9 dc9 pm9 cd9 ct9 : Value}
    {f10 : Addr} {od10 an10 : Option Addr} {sl10 : Array (Option Value)} {oc10 kV10 dc10 pm10 cd10 ct10 : Value}
    {f11 : Addr} {od11 an11 : Option Addr} {sl11 : Array (Option Value)} {oc11 kV11 dc11 pm11 cd11 ct11 : Value}
    {f12 : Addr} {od12 an12 : Option Addr} {sl12 : Array (Option Value)} {oc12 kV12 dc12 pm12 cd12 ct12 : Value}
    {f13 : Addr} {od13 an13 : Option Addr} {sl13 : Array (Option Value)} {oc13 kV13 dc13 pm13 cd13 ct13 : Value}
    {f14 : Addr} {od14 an14 : Option Addr} {sl14 : Array (Option Value)} {oc14 kV14 dc14 pm14 cd14 ct14 : Value}
    {f15 : Addr} {od15 an15 : Option Addr} {sl15 : Array (Option Value)} {oc15 kV15 dc15 pm15 cd15 ct15 : Value}
    {f16 : Addr} {od16 an16 : Option Addr} {sl16 : Array (Option Value)} {oc16 kV16 dc16 pm16 cd16 ct16 : Value}
    {f17 : Addr} {od17 an17 : Option Addr} {sl17 : Array (Option Value)} {oc17 kV17 dc17 pm17 cd17 ct17 : Value}
    {t1 : Tok}
    {t2 : Tok}
    {t3 : Tok}
    (a1 : PySem.W.nsIn K mainGlobals "is_number" = some (some (.ref f1))) (l1 : K.lookup f1 = some ⟨oc1, od1, .func (PySem.W.fnOf "is_number" "is_number" (defArgs sNum) (defBody sNum) (defScope sNum) .none kV1 dc1 pm1 an1 cd1 ct1), sl1⟩) (c1 : PySem.W.codeIn K cd1 "is_number" = true) (k1 : PySem.W.keepIn K (.ref f1) = true)
    (a2 : PySem.W.nsIn K mainGlobals "is_key" = some (some (.ref f2))) (l2 : K.lookup f2 = some ⟨oc2, od2, .func (PySem.W.fnOf "is_key" "is_key" (defArgs sKey) (defBody sKey) (defScope sKey) .none kV2 dc2 pm2 an2 cd2 ct2), sl2⟩) (c2 : PySem.W.codeIn K cd2 "is_key" = true) (k2 : PySem.W.keepIn K (.ref f2) = true)
    (a3 : PySem.W.nsIn K mainGlobals "is_worth" = some (some (.ref f3))) (l3 : K.lookup f3 = some ⟨oc3, od3, .func (PySem.W.fnOf "is_worth" "is_worth" (defArgs sWorth) (defBody sWorth) (defScope sWorth) .none kV3 dc3 pm3 an3 cd3 ct3), sl3⟩) (c3 : PySem.W.codeIn K cd3 "is_worth" = true) (k3 : PySem.W.keepIn K (.ref f3) = true)
    (a4 : PySem.W.nsIn K mainGlobals "is_row" = some (some (.ref f4))) (l4 : K.lookup f4 = some ⟨oc4, od4, .func (PySem.W.fnOf "is_row" "is_row" (defArgs sRow) (defBody sRow) (defScope sRow) .none kV4 dc4 pm4 an4 cd4 ct4), sl4⟩) (c4 : PySem.W.codeIn K cd4 "is_row" = true) (k4 : PySem.W.keepIn K (.ref f4) = true)
    (a5 : PySem.W.nsIn K mainGlobals "is_rows" = some (some (.ref f5))) (l5 : K.lookup f5 = some ⟨oc5, od5, .func (PySem.W.fnOf "is_rows" "is_rows" (defArgs sRows) (defBody sRows) (defScope sRows) .none kV5 dc5 pm5 an5 cd5 ct5), sl5⟩) (c5 : PySem.W.codeIn K cd5 "is_rows" = true) (k5 : PySem.W.keepIn K (.ref f5) = true)
    (a6 : PySem.W.nsIn K mainGlobals "is_table" = some (some (.ref f6))) (l6 : K.lookup f6 = some ⟨oc6, od6, .func (PySem.W.fnOf "is_table" "is_table" (defArgs sTable) (defBody sTable) (defScope sTable) .none kV6 dc6 pm6 an6 cd6 ct6), sl6⟩) (c6 : PySem.W.codeIn K cd6 "is_table" = true) (k6 : PySem.W.keepIn K (.ref f6) = true)
    (a7 : PySem.W.nsIn K mainGlobals "_law_bag" = some (some (.ref f7))) (l7 : K.lookup f7 = some ⟨oc7, od7, .func (PySem.W.fnOf "_law_bag" "_law_bag" (defArgs sBag) (defBody sBag) (defScope sBag) .none kV7 dc7 pm7 an7 cd7 ct7), sl7⟩) (c7 : PySem.W.codeIn K cd7 "_law_bag" = true) (k7 : PySem.W.keepIn K (.ref f7) = true)
    (a8 : PySem.W.nsIn K mainGlobals "_law_take" = some (some (.ref f8))) (l8 : K.lookup f8 = some ⟨oc8, od8, .func (PySem.W.fnOf "_law_take" "_law_take" (defArgs sTake) (defBody sTake) (defScope sTake) .none kV8 dc8 pm8 an8 cd8 ct8), sl8⟩) (c8 : PySem.W.codeIn K cd8 "_law_take" = true) (k8 : PySem.W.keepIn K (.ref f8) = true)
    (a9 : PySem.W.nsIn K mainGlobals "_law_within" = some (some (.ref f9))) (l9 : K.lookup f9 = some ⟨oc9, od9, .func (PySem.W.fnOf "_law_within" "_law_within" (defArgs sWithin) (defBody sWithin) (defScope sWithin) .none kV9 dc9 pm9 an9 cd9 ct9), sl9⟩) (c9 : PySem.W.codeIn K cd9 "_law_within" = true) (k9 : PySem.W.keepIn K (.ref f9) = true)
    (a10 : PySem.W.nsIn K mainGlobals "_law_odd" = some (some (.ref f10))) (l10 : K.lookup f10 = some ⟨oc10, od10, .func (PySem.W.fnOf "_law_odd" "_law_odd" (defArgs sOdd) (defBody sOdd) (defScope sOdd) .none kV10 dc10 pm10 an10 cd10 ct10), sl10⟩) (c10 : PySem.W.codeIn K cd10 "_law_odd" = true) (k10 : PySem.W.keepIn K (.ref f10) = true)
    (a11 : PySem.W.nsIn K mainGlobals "_law_spoilt" = some (some (.ref f11))) (l11 : K.lookup f11 = some ⟨oc11, od11, .func (PySem.W.fnOf "_law_spoilt" "_law_spoilt" (defArgs sSp) (defBody sSp) (defScope sSp) .none kV11 dc11 pm11 an11 cd11 ct11), sl11⟩) (c11 : PySem.W.codeIn K cd11 "_law_spoilt" = true) (k11 : PySem.W.keepIn K (.ref f11) = true)
    (a12 : PySem.W.nsIn K mainGlobals "_law_keys" = some (some (.ref f12))) (l12 : K.lookup f12 = some ⟨oc12, od12, .func (PySem.W.fnOf "_law_keys" "_law_keys" (defArgs sKeys) (defBody sKeys) (defScope sKeys) .none kV12 dc12 pm12 an12 cd12 ct12), sl12⟩) (c12 : PySem.W.codeIn K cd12 "_law_keys" = true) (k12 : PySem.W.keepIn K (.ref f12) = true)
    (a13 : PySem.W.nsIn K mainGlobals "_law_table" = some (some (.ref f13))) (l13 : K.lookup f13 = some ⟨oc13, od13, .func (PySem.W.fnOf "_law_table" "_law_table" (defArgs sTab) (defBody sTab) (defScope sTab) .none kV13 dc13 pm13 an13 cd13 ct13), sl13⟩) (c13 : PySem.W.codeIn K cd13 "_law_table" = true) (k13 : PySem.W.keepIn K (.ref f13) = true)
    (a14 : PySem.W.nsIn K mainGlobals "_law_is_pair" = some (some (.ref f14))) (l14 : K.lookup f14 = some ⟨oc14, od14, .func (PySem.W.fnOf "_law_is_pair" "_law_is_pair" (defArgs sPair) (defBody sPair) (defScope sPair) .none kV14 dc14 pm14 an14 cd14 ct14), sl14⟩) (c14 : PySem.W.codeIn K cd14 "_law_is_pair" = true) (k14 : PySem.W.keepIn K (.ref f14) = true)
    (a15 : PySem.W.nsIn K mainGlobals "_law_are_pairs" = some (some (.ref f15))) (l15 : K.lookup f15 = some ⟨oc15, od15, .func (PySem.W.fnOf "_law_are_pairs" "_law_are_pairs" (defArgs sPairs) (defBody sPairs) (defScope sPairs) .none kV15 dc15 pm15 an15 cd15 ct15), sl15⟩) (c15 : PySem.W.codeIn K cd15 "_law_are_pairs" = true) (k15 : PySem.W.keepIn K (.ref f15) = true)
    (a16 : PySem.W.nsIn K mainGlobals "_law_is_table" = some (some (.ref f16))) (l16 : K.lookup f16 = some ⟨oc16, od16, .func (PySem.W.fnOf "_law_is_table" "_law_is_table" (defArgs sLTable) (defBody sLTable) (defScope sLTable) .none kV16 dc16 pm16 an16 cd16 ct16), sl16⟩) (c16 : PySem.W.codeIn K cd16 "_law_is_table" = true) (k16 : PySem.W.keepIn K (.ref f16) = true)
    (a17 : PySem.W.nsIn K mainGlobals "law" = some (some (.ref f17))) (l17 : K.lookup f17 = some ⟨oc17, od17, .func (PySem.W.fnOf "law" "law" (defArgs sLaw) (defBody sLaw) (defScope sLaw) .none kV17 dc17 pm17 an17 cd17 ct17), sl17⟩) (c17 : PySem.W.codeIn K cd17 "law" = true) (k17 : PySem.W.keepIn K (.ref f17) = true)
    (g1 : PySem.W.nsIn K mainGlobals "KEYS" = some (some (.int 1000 t1)))
    (g2 : PySem.W.nsIn K mainGlobals "WORTHS" = some (some (.int 1000 t2)))
    (g3 : PySem.W.nsIn K mainGlobals "MOST_ROWS" = some (some (.int 100 t3)))
    (z1 : PySem.W.nsIn K mainGlobals "isinstance" = some none)
    (z2 : PySem.W.nsIn K mainGlobals "int" = some none)
    (z3 : PySem.W.nsIn K mainGlobals "bool" = some none)
    (z4 : PySem.W.nsIn K mainGlobals "tuple" = some none)
    (z5 : PySem.W.nsIn K mainGlobals "list" = some none)
    (z6 : PySem.W.nsIn K mainGlobals "str" = some none)
    (z7 : PySem.W.nsIn K mainGlobals "len" = some none)
    (z8 : PySem.W.nsIn K mainGlobals "set" = some none)
    (z9 : PySem.W.nsIn K mainGlobals "sorted" = some none)
    (z10 : PySem.W.nsIn K mainGlobals "range" = some none)
    (z11 : PySem.W.nsIn K mainGlobals "abs" = some none)
    (z12 : PySem.W.nsIn K mainGlobals "min" = some none) :
    ∃ fd : FuncData, (∀ (s : Shared) (v : Value), BindsTo s fd ⟨[v], []⟩ [("script", v)]) ∧ ∀ base : Heap, K.In base → base.Ns mainGlobals mg → FnOk l.prog w K mg base CX0 24 fa fd ["script"] (spLaw K) := by
  have e := hfa.symm.trans (PySem.W.mg_of X G a17)
  cases e
  have F1 := fun_mk (st := sNum) l1 c1 k1
  have b1 := F1.binds (ps := ["thing"]) fun _ _ _ _ _ _ us hl => match us, hl with | [_], _ => rfl
  have F2 := fun_mk (st := sKey) l2 c2 k2
  have b2 := F2.binds (ps := ["thing"]) fun _ _ _ _ _ _ us hl => match us, hl with | [_], _ => rfl
  have F3 := fun_mk (st := sWorth) l3 c3 k3
  have b3 := F3.binds (ps := ["thing"]) fun _ _ _ _ _ _ us hl => match us, hl with | [_], _ => rfl
  have F4 := fun_mk (st := sRow) l4 c4 k4
  have b4 := F4.binds (ps := ["thing"]) fun _ _ _ _ _ _ us hl => match us, hl with | [_], _ => rfl
  have F5 := fun_mk (st := sRows) l5 c5 k5
  have b5 := F5.binds (ps := ["thing", "first", "last"]) fun _ _ _ _ _ _ us hl => match us, hl with | [_, _, _], _ => rfl
  have F6 := fun_mk (st := sTable) l6 c6 k6
  have b6 := F6.binds (ps := ["thing"]) fun _ _ _ _ _ _ us hl => match us, hl with | [_], _ => rfl
  have F7 := fun_mk (st := sBag) l7 c7 k7
  have b7 := F7.binds (ps := ["script", "k"]) fun _ _ _ _ _ _ us hl => match us, hl with | [_, _], _ => rfl
  have F8 := fun_mk (st := sTake) l8 c8 k8
  have b8 := F8.binds (ps := ["bag", "many"]) fun _ _ _ _ _ _ us hl => match us, hl with | [_, _], _ => rfl
  have F9 := fun_mk (st := sWithin) l9 c9 k9
  have b9 := F9.binds (ps := ["thing", "least", "most"]) fun _ _ _ _ _ _ us hl => match us, hl with | [_, _, _], _ => rfl
  have F10 := fun_mk (st := sOdd) l10 c10 k10
  have b10 := F10.binds (ps := ["bag"]) fun _ _ _ _ _ _ us hl => match us, hl with | [_], _ => rfl
  have F11 := fun_mk (st := sSp) l11 c11 k11
  have b11 := F11.binds (ps := ["bag", "thing"]) fun _ _ _ _ _ _ us hl => match us, hl with | [_, _], _ => rfl
  have F12 := fun_mk (st := sKeys) l12 c12 k12
  have b12 := F12.binds (ps := ["bag"]) fun _ _ _ _ _ _ us hl => match us, hl with | [_], _ => rfl
  have F13 := fun_mk (st := sTab) l13 c13 k13
  have b13 := F13.binds (ps := ["bag", "keys"]) fun _ _ _ _ _ _ us hl => match us, hl with | [_, _], _ => rfl
  have F14 := fun_mk (st := sPair) l14 c14 k14
  have b14 := F14.binds (ps := ["thing"]) fun _ _ _ _ _ _ us hl => match us, hl with | [_], _ => rfl
  have F15 := fun_mk (st := sPairs) l15 c15 k15
  have b15 := F15.binds (ps := ["thing"]) fun _ _ _ _ _ _ us hl => match us, hl with | [_], _ => rfl
  have F16 := fun_mk (st := sLTable) l16 c16 k16
  have b16 := F16.binds (ps := ["thing"]) fun _ _ _ _ _ _ us hl => match us, hl with | [_], _ => rfl
  have F17 := fun_mk (st := sLaw) l17 c17 k17
  have N : Names mg := ⟨PySem.W.mg_none_of X G z1, PySem.W.mg_none_of X G z2, PySem.W.mg_none_of X G z3, PySem.W.mg_none_of X G z4, PySem.W.mg_none_of X G z5, PySem.W.mg_none_of X G z6, PySem.W.mg_none_of X G z7, PySem.W.mg_none_of X G z8, PySem.W.mg_none_of X G z9, PySem.W.mg_none_of X G z10, PySem.W.mg_none_of X G z11, PySem.W.mg_none_of X G z12, ⟨_, PySem.W.mg_of X G g1⟩, ⟨_, PySem.W.mg_of X G g2⟩, ⟨_, PySem.W.mg_of X G g3⟩⟩
  refine ⟨PySem.W.fnOf "law" "law" (defArgs sLaw) (defBody sLaw) (defScope sLaw) .none kV17 dc17 pm17 an17 cd17 ct17, fun s v => .of_eq rfl, fun base _ _ => ?_⟩
  have dNum : Own l.prog w K mg base "is_number" ["thing"] 1 (spTold K isNum) := ⟨_, _, ok_num (k := 0) F1 N, PySem.W.mg_of X G a1, F1.kp, b1⟩
  have dKey : Own l.prog w K mg base "is_key" ["thing"] 2 (spTold K isKey) := ⟨_, _, ok_key F2 N dNum, PySem.W.mg_of X G a2, F2.kp, b2⟩
  have dWor : Own l.prog w K mg base "is_worth" ["thing"] 2 (spTold K isKey) := ⟨_, _, ok_worth F3 N dNum, PySem.W.mg_of X G a3, F3.kp, b3⟩
  have dRow : Own l.prog w K mg base "is_row" ["thing"] 3 (spTold K isRow) := ⟨_, _, ok_row F4 N dKey dWor, PySem.W.mg_of X G a4, F4.kp, b4⟩
  have dRows : Own l.prog w K mg base "is_rows" ["thing", "first", "last"] 4 (spRowsT K) := ⟨_, _, ok_rows F5 N dRow, PySem.W.mg_of X G a5, F5.kp, b5⟩
  have dI : Own l.prog w K mg base "is_table" ["thing"] 5 (spTold K isTable) := ⟨_, _, ok_table F6 N dRows, PySem.W.mg_of X G a6, F6.kp, b6⟩
  have dT : Own l.prog w K mg base "_law_take" ["bag", "many"] 1 spTake := ⟨_, _, ok_take (k := 0) F8, PySem.W.mg_of X G a8, F8.kp, b8⟩
  have dB : Own l.prog w K mg base "_law_bag" ["script", "k"] 1 (spBag K) := ⟨_, _, ok_bag (k := 0) F7 N, PySem.W.mg_of X G a7, F7.kp, b7⟩
  have dW : Own l.prog w K mg base "_law_within" ["thing", "least", "most"] 1 (spWithin K) := ⟨_, _, ok_within (k := 0) F9 N, PySem.W.mg_of X G a9, F9.kp, b9⟩
  have dP : Own l.prog w K mg base "_law_is_pair" ["thing"] 2 (spTold K isRow) := ⟨_, _, ok_pair F14 N dW, PySem.W.mg_of X G a14, F14.kp, b14⟩
  have dPs : Own l.prog w K mg base "_law_are_pairs" ["thing"] 3 (spToldS K arePairs) := ⟨_, _, ok_pairs F15 N dP, PySem.W.mg_of X G a15, F15.kp, b15⟩
  have dL : Own l.prog w K mg base "_law_is_table" ["thing"] 4 (spToldS K isTable) := ⟨_, _, ok_ltable F16 N dPs, PySem.W.mg_of X G a16, F16.kp, b16⟩
  have dO : Own l.prog w K mg base "_law_odd" ["bag"] 2 (spNew K (gd 0 3)) := ⟨_, _, ok_odd F10 N dT, PySem.W.mg_of X G a10, F10.kp, b10⟩
  have dK : Own l.prog w K mg base "_law_keys" ["bag"] 2 spKeys := ⟨_, _, ok_keys F12 N dT, PySem.W.mg_of X G a12, F12.kp, b12⟩
  have dTab : Own l.prog w K mg base "_law_table" ["bag", "keys"] 2 (spTab K) := ⟨_, _, ok_tab F13 N dT, PySem.W.mg_of X G a13, F13.kp, b13⟩
  have dS : Own l.prog w K mg base "_law_spoilt" ["bag", "thing"] 23 (spSpU K) := ⟨_, _, ok_spU fun n hn => (ok_sp (k := 2) F11 (PySem.W.mg_of X G a11) b11 N dT (by decide) dO (by decide) n).mono (by omega), PySem.W.mg_of X G a11, F11.kp, b11⟩
  exact ok_law F17 N dT (by decide) dO (by decide) dI (by decide) dL (by decide) dS (by decide) dB (by decide) dTab (by decide) dK (by decide)
end K01
open PySem PySem.W PyProof.Rows
set_option maxHeartbeats 0 in
theorem PySem.Challenge.cw_tidecopy_k01_tables_told_holds : PySem.Challenge.rw_tidecopy_k01_tables_told.Holds := by
  w_on; o_law; k_head; (case hw => w_witness2)
  k_fill
  refine L2.walk_of (l := PySem.Challenge.rw_tidecopy_k01_tables_told) (n := 63) (k := 24) (x := "script") (CX := fun _ => L2.CX0) (sp := fun w => K01.spLaw _) rfl (by decide) rfl ⟨rfl, by decide, by decide⟩ (fun w h Y => PySem.W.kIn_of Y) ?F (fun _ _ a ns hl _ hS => ⟨a, ns, rfl, hS, hl, fun _ => rfl⟩) (fun _ _ _ _ _ h => h)
  case F =>
    intro w mg fa h KX G hmg
    refine' K01.all_mk KX G hmg ?a1 ?l1 ?c1 ?k1 ?a2 ?l2 ?c2 ?k2 ?a3 ?l3 ?c3 ?k3 ?a4 ?l4 ?c4 ?k4 ?a5 ?l5 ?c5 ?k5 ?a6 ?l6 ?c6 ?k6 ?a7 ?l7 ?c7 ?k7 ?a8 ?l8 ?c8 ?k8 ?a9 ?l9 ?c9 ?k9 ?a10 ?l10 ?c10 ?k10 ?a11 ?l11 ?c11 ?k11 ?a12 ?l12 ?c12 ?k12 ?a13 ?l13 ?c13 ?k13 ?a14 ?l14 ?c14 ?k14 ?a15 ?l15 ?c15 ?k15 ?a16 ?l16 ?c16 ?k16 ?a17 ?l17 ?c17 ?k17 ?g1 ?g2 ?g3 ?z1 ?z2 ?z3 ?z4 ?z5 ?z6 ?z7 ?z8 ?z9 ?z10 ?z11 ?z12
    (case a1 => k_is)
    (case l1 => k_is)
    (case c1 => k_is)
    (case k1 => k_is)
    (case a2 => k_is)
    (case l2 => k_is)
    (case c2 => k_is)
    (case k2 => k_is)
    (case a3 => k_is)
    (case l3 => k_is)
    (case c3 => k_is)
    (case k3 => k_is)
    (case a4 => k_is)
    (case l4 => k_is)
    (case c4 => k_is)
    (case k4 => k_is)
    (case a5 => k_is)
    (case l5 => k_is)
    (case c5 => k_is)
    (case k5 => k_is)
    (case a6 => k_is)
    (case l6 => k_is)
    (case c6 => k_is)
    (case k6 => k_is)
    (case a7 => k_is)
    (case l7 => k_is)
    (case c7 => k_is)
    (case k7 => k_is)
    (case a8 => k_is)
    (case l8 => k_is)
    (case c8 => k_is)
    (case k8 => k_is)
    (case a9 => k_is)
    (case l9 => k_is)
    (case c9 => k_is)
    (case k9 => k_is)
    (case a10 => k_is)
    (case l10 => k_is)
    (case c10 => k_is)
    (case k10 => k_is)
    (case a11 => k_is)
    (case l11 => k_is)
    (case c11 => k_is)
    (case k11 => k_is)
    (case a12 => k_is)
    (case l12 => k_is)
    (case c12 => k_is)
    (case k12 => k_is)
    (case a13 => k_is)
    (case l13 => k_is)
    (case c13 => k_is)
    (case k13 => k_is)
    (case a14 => k_is)
    (case l14 => k_is)
    (case c14 => k_is)
    (case k14 => k_is)
    (case a15 => k_is)
    (case l15 => k_is)
    (case c15 => k_is)
    (case k15 => k_is)
    (case a16 => k_is)
    (case l16 => k_is)
    (case c16 => k_is)
    (case k16 => k_is)
    (case a17 => k_is)
    (case l17 => k_is)
    (case c17 => k_is)
    (case k17 => k_is)
    (case g1 => k_is)
    (case g2 => k_is)
    (case g3 => k_is)
    (case z1 => k_is)
    (case z2 => k_is)
    (case z3 => k_is)
    (case z4 => k_is)
    (case z5 => k_is)
    (case z6 => k_is)
    (case z7 => k_is)
    (case z8 => k_is)
    (case z9 => k_is)
    (case z10 => k_is)
    (case z11 => k_is)
    (case z12 => k_is)
