import PyProof.Rows.All
import Wide.All
import OpenK.AllK
import Wide.FinOn
import HandS.ForSpec
import HandS.ExcInit
import KE.KExcIs
import HandS.IsInst
import HandS.ExcValue
import HandS.Dict
import HandS.SortKw
import KE.SortKeyHeap
import KE.SortCalls
import HandS.Comp
import HandS.Iter
import HandS.Nested
import HandS.Walk
import HandS.DictComp
import KE.GoesMore
import KE.GoesEnum
import HandS.More
import HandS.Conv
import KE.KDictCopyH
import KE.SortData
import KE.KDictSum
import HandS.Deep
import HandS.Text
import HandS.Style
import HandS.WordsDict
import PyProof.StrLaws
import HandS.Strs
import HandS.SetTxt0
import HandS.Steps
import HandS.TryMany
import HandS.ExcField
import HandS.ExcIs
import PyProof.Rows.RegReprOcc
import HandS.Replace
import PyProof.Rows.StrMul
import PyProof.Rows.StrJoinRep
import PyProof.P3Eq
import HandS.Flow
import PyProof.IsRules
import HandS.EndTab
import KE.KStateDown
import Lean
import HandS.Defaults
import HandS.Head0
import HandS.Head1
import HandS.Head2
import HandS.HeadEnd
import HandS.HeadHook4
import PySem.Challenge.RW_lettertrees_k29_cells_that_are_let
set_option Elab.async false
set_option linter.all false
set_option maxRecDepth 100000
set_option maxHeartbeats 0
/-! ### calls of an own exception class with keywords: the boot's __new__ takes any, the own __init__ gets them -/
namespace K0
open PySem PySem.W PySem.Calls PySem.HandSPX
section
variable {M : Model} {A : Around} {E : Value → Shared → Prop} {h : Heap} {g : Array GenState} {d : Drawn} {t : Nat} {os : OsState}
variable {nm q : Str} {C N : Addr} {bs bm bmB : List Value} {hdct : Bool} {sn : List Str} {sub : List Value} {ab : Bool} {col : Option Bool} {dd : Option Addr}
variable {k0 k1 k2 k3 k5 : Option Value} {B newId initId : String}

theorem kw_check_new (F : ExcBaseFacts B newId initId bmB) (hT : ∀ X : String, bm.contains (.type X) = bmB.contains (.type X)) {rest : List Value} {kw : List (Str × Value)} {Q : Unit → Shared → Prop}
    (hC : h.get? C = some (excClassObj nm q C N bs bm hdct sn sub ab col dd k0 k1 k2 k3 k5 newId)) (hq : Q () ⟨h, g, d, t, os⟩) :
    wpAny M A (checkBuiltinCall newId ⟨.ref C :: rest, kw⟩) Q E ⟨h, g, d, t, os⟩ := by
  have hB : (Value.ref C :: bm).contains (.type B) = true := by
    rw [List.contains_cons, hT, F.hasB, Bool.or_true]
  have hs := F.noStar
  simp only [checkBuiltinCall, F.newKind, F.newSplit, F.newRow]
  repeat
    first
    | refine wpAny_loadPart_at hC ?_
    | (refine wpAny_isSubtype_exc hC ?_
       rw [hB])
    | refine wpAny_staticBase_exc hC ?_
    | refine wpAny_madeBy_exc hC ?_
    | simp only [bne_self_eq_false, Bool.false_eq_true, if_false]
    | wp_step
  exact hq
end
section
variable {prog : Program} {w : World} {A : Around} {E : Value → Shared → Prop} {R : Result → Shared → Prop} {h : Heap} {g : Array GenState} {d : Drawn} {t : Nat} {os : OsState}
variable {nm q : Str} {C N : Addr} {bs bm bmB : List Value} {hdct : Bool} {sn : List Str} {sub : List Value} {ab : Bool} {col : Option Bool} {dd : Option Addr}
variable {k0 k1 k2 k3 k5 : Option Value} {B newId initId : String}

/-- the heap with a new exception of the class at C, its args behind it -/
abbrev twoMore (h : Heap) (C : Addr) (rest : List Value) : Heap := (h.push (W.kdv_tup rest)).push (excO C h.objs.size)

theorem kw_new (F : ExcBaseFacts B newId initId bmB) (hT : ∀ X : String, bm.contains (.type X) = bmB.contains (.type X)) {rest : List Value} {kw : List (Str × Value)}
    (hC : h.get? C = some (excClassObj nm q C N bs bm hdct sn sub ab col dd k0 k1 k2 k3 k5 newId))
    (hq : R (.ok (.ret (.ref (h.objs.size + 1)))) ⟨twoMore h C rest, g, d, t, os⟩) (hz : rest.length ≤ sizeLine) :
    codeAny (model prog w) A (.builtin newId ⟨.ref C :: rest, kw⟩) R ⟨h, g, d, t, os⟩ := by
  have e0 := F.ends
  have cB : (Value.ref C :: bm).contains (.type B) = true := by
    rw [List.contains_cons, hT, F.hasB, Bool.or_true]
  have cA : (Value.ref C :: bm).contains (.type "AttributeError") = false := by
    rw [List.contains_cons, hT, F.noAttr] <;> rfl
  have cN : (Value.ref C :: bm).contains (.type "NameError") = false := by
    rw [List.contains_cons, hT, F.noName] <;> rfl
  refine codeAny_builtinAt F.entry ?_
  unfold Builtin.«BaseException.__new__»
  refine wpAt_bind ?_
  show wpAt _ _ _ (stack >>= _) _ _ _
  refine wpAt_bind (wpAt_stack fun p below => wpAt_of_wpAny ?_)
  wp_walk
  refine wpAt_of_wpAny ?_
  rw [F.owner]
  repeat
    first
    | with_reducible refine wpAny_madeHere_exc F.canon hC ?_
    | with_reducible refine wpAny_loadPart_at hC ?_
    | (with_reducible refine wpAny_isSubtype_exc hC ?_
       first | rw [cB] | rw [cA] | rw [cN])
    | wp_step
  show R _ _
  rw [Heap.size_push]
  exact hq

theorem kw_typeCall (F : ExcBaseFacts B newId initId bmB) (hT : ∀ X : String, bm.contains (.type X) = bmB.contains (.type X)) {rest : List Value} {kw : List (Str × Value)} {fI : Addr} {Q : Fin → Shared → Prop}
    (hC : h.get? C = some (excClassObj nm q C N bs bm hdct sn sub ab col dd k0 k1 k2 k3 k5 newId))
    (hi : W.Looks (model prog w) h (typeLookup (.ref C) "__init__") (some (.ref fI))) (hb : ∀ self, W.Looks (model prog w) h (bindSpecial (.ref fI) self) (.ref fI, [self])) (hz : rest.length ≤ sizeLine)
    (hq : codeAny (model prog w) A (.call (.ref fI) ⟨.ref (h.objs.size + 1) :: rest, kw⟩)
      (fun r s' => match r with | .ok (.ret v) => v = .none ∧ Q (.done (.ret (.ref (h.objs.size + 1)))) s' | .ok _ => False | .error e => E e s') ⟨twoMore h C rest, g, d, t, os⟩) :
    wpAny (model prog w) A (Builtin.«type.__call__» ⟨.ref C :: rest, kw⟩) Q E ⟨h, g, d, t, os⟩ := by
  repeat
    first
    | with_reducible refine wpAny_loadPart_at hC ?_
    | with_reducible refine wpAny_madeBy_exc hC ?_
    | wp_step
  refine codeAny_call_builtin_code (Code.quiet_builtin _ F.quiet) (kw_check_new F hT hC ?_)
  refine kw_new F hT hC ?_ hz
  show wpAny _ _ _ _ _ _
  have k : ∀ b o, h.get? b = some o → (twoMore h C rest).get? b = some o := fun b o e => Heap.get?_push_of_some _ (Heap.get?_push_of_some _ e)
  have hC1 := k _ _ hC
  have hx : (twoMore h C rest).get? (h.objs.size + 1) = some (excO C h.objs.size) := by heap_get
  have cC : (Value.ref C :: bm).contains (.ref C) = true := by simp
  have i1 := hi.keeps k
  have b1 := (hb (.ref (h.objs.size + 1))).keeps k
  unfold isInstance
  repeat
    first
    | with_reducible refine wpAny_loadPart_at hx ?_
    | (with_reducible refine wpAny_isSubtype_exc hC1 ?_
       rw [cC])
    | wp_step
  show wpAny _ _ (typeLookup (.ref C) _) _ _ _
  refine i1.at ?_
  refine wpAny_holding (wpAny_bind (b1.at ?_))
  refine wpAny_bind (wpAny_call (codeAny_mono hq fun r s' z => ?_))
  cases r with
  | error e => exact z
  | ok f =>
    cases f with
    | ret v =>
      obtain ⟨rfl, z⟩ := z
      first
      | exact wpAny_pure (wpAny_pure z)
      | (wp_walk
         exact z)
    | next => exact z.elim
    | brk => exact z.elim
    | cont => exact z.elim

theorem kw_checkCall {M : Model} {rest : List Value} {kw : List (Str × Value)} {Q : Unit → Shared → Prop} (hC : h.get? C = some (excClassObj nm q C N bs bm hdct sn sub ab col dd k0 k1 k2 k3 k5 newId))
    (hq : Q () ⟨h, g, d, t, os⟩) : wpAny M A (checkBuiltinCall "type.__call__" ⟨.ref C :: rest, kw⟩) Q E ⟨h, g, d, t, os⟩ := by
  have e3 := tc_sub
  have ty : (⟨h, g, d, t, os⟩ : Shared).TypeIs (.ref C) "type" := ⟨_, hC, rfl⟩
  simp only [checkBuiltinCall, tc_kind, tc_split]
  repeat (any_goals (first
    | assumption
    | with_reducible refine wpAny_loadPart_at hC ?_
    | with_reducible refine wpAny_onRaise ?_
    | with_reducible refine wpAny_map ?_
    | wp_step))

theorem kw_call (F : ExcBaseFacts B newId initId bmB) (hT : ∀ X : String, bm.contains (.type X) = bmB.contains (.type X)) {rest : List Value} {kw : List (Str × Value)} {fI : Addr}
    (hC : h.get? C = some (excClassObj nm q C N bs bm hdct sn sub ab col dd k0 k1 k2 k3 k5 newId))
    (hi : W.Looks (model prog w) h (typeLookup (.ref C) "__init__") (some (.ref fI))) (hb : ∀ self, W.Looks (model prog w) h (bindSpecial (.ref fI) self) (.ref fI, [self])) (hz : rest.length ≤ sizeLine)
    (hq : codeAny (model prog w) (A.under (.builtin "type.__call__" ⟨.ref C :: rest, kw⟩)) (.call (.ref fI) ⟨.ref (h.objs.size + 1) :: rest, kw⟩) (W.InitBack (h.objs.size + 1) R) ⟨twoMore h C rest, g, d, t, os⟩) :
    codeAny (model prog w) A (.call (.ref C) ⟨rest, kw⟩) R ⟨h, g, d, t, os⟩ := by
  have f1 := tc_lookup
  have f2 := tc_bind (.ref C)
  have ty : (⟨h, g, d, t, os⟩ : Shared).TypeIs (.ref C) "type" := ⟨_, hC, rfl⟩
  refine codeAny_of_tree ?_
  show wpAny _ _ (callAny (.ref C) _) _ _ _
  repeat (any_goals (first
    | assumption
    | with_reducible refine wpAny_loadPart_at hC ?_
    | wp_step))
  refine ⟨rfl, ?_⟩
  refine codeAny_call_builtin_at (Code.quiet_builtin _ (by decide +kernel)) entry_typeCall (kw_checkCall hC (kw_typeCall F hT hC hi hb hz ?_))
  refine codeAny_mono hq fun r s' z => ?_
  cases r with
  | error e => exact z
  | ok f => cases f <;> exact z
end
end K0
namespace K0
open PySem PySem.Spec PyProof.Rows L2
abbrev St := L2.St
section
variable {X : Cx} {pins : List (Addr × Obj)} {σ : St} {H H' : Hp} {s : Shared}
/-- things told by what is true of their one object may be forgotten -/
theorem forget (I : Inv X pins σ H' s) (sub : ∀ b o, H b = some o → H' b = some o) (ext : ∀ b o, H' b = some o → H b = some o ∨ ∃ φ, o = HO.ext φ) : Inv X pins σ H s := by
  have fr : ∀ b, H' b = none → H b = none := fun b n => by
    cases q : H b with
    | none => rfl
    | some o =>
      rw [sub b o q] at n
      cases n
  have back : ∀ b o, H' b = some o → (∀ φ, o ≠ HO.ext φ) → H b = some o := fun b o q n => by
    rcases ext b o q with z | ⟨φ, z⟩
    · exact z
    · exact absurd z (n φ)
  refine ⟨I.ok, I.os, I.bare, ⟨I.base.keep, I.base.slot, fun b o e n hx => fr b (I.base.free b o e n hx), I.base.there, fun b xs q => ?_, fun b o u q => ?_, fun b ps q => ?_⟩, I.loc, I.cell, fr _ I.free, fun x c e => fr c (I.freeC x c e), fun p hp => ?_, fun b o q => ?_, I.len⟩
  · exact back b _ (I.base.tups b xs q) (fun φ z => nomatch z)
  · exact back b _ (I.base.frzs b o u q) (fun φ z => nomatch z)
  · obtain ⟨m, z⟩ := I.base.tbls b ps q
    exact ⟨m, back b _ z (fun φ z => nomatch z)⟩
  · obtain ⟨h1, h2, h3, h4, h5⟩ := I.pin p hp
    exact ⟨h1, fr _ h2, h3, h4, h5⟩
  · exact (I.hok b o (sub b o q)).stay (fun c v _ z => z) (fun c z => back c _ z (fun φ z => nomatch z)) fun c xs z => back c _ z (fun φ z => nomatch z)
end

/-! ### an exception of an own class with its own __init__ -/
structure XCl (K : PySem.W.Frag) (C : Addr) : Prop where
  T : OexC K C
  ga : PySem.W.findIn K (.ref C) "__getattribute__" = some (some (.builtin "BaseException.__getattribute__"))
  gg : PySem.W.findIn K (.ref C) "__getattr__" = some none
  hd : PySem.W.hasDictIn K C = true
  ha : PySem.W.findIn K (.ref C) "__class__" = some (some (.builtin "object.__class__"))
  hn : PySem.W.specialIn K (.builtin "object.__class__") "__get__" = some (some (.builtin "getset_descriptor.__get__"))
  ht : PySem.W.takesIn K (.builtin "object.__class__") = some true
  hm : PySem.W.mroIn K C (.type "object") = some true
/-- the heap with an exception of C at a, its dict of the fields fs at dx -/
abbrev withX (H : Hp) (C a dx : Addr) (fs : List (Str × V)) : Hp := upd (upd H dx (exd dx fs)) a (exo a C (some dx))
/-- what such an __init__ does: the fields fs get the arguments -/
def spX (C : Addr) (fs : List Str) : Sp := fun vs H Q _ => ∃ (a : Addr) (ys : List V), vs = .ref a :: ys ∧ ys.length = fs.length ∧ H a = some (exo a C none) ∧
  ∀ dx, H dx = none → dx ≠ a → Q .non (withX H C a dx (fs.zip ys).reverse)
theorem withX_sub {H : Hp} {C a dx : Addr} {fs : List (Str × V)} (ha : H a = none) (hd : H dx = none) : ∀ b o, H b = some o → withX H C a dx fs b = some o := fun b o e => by
  show upd (upd H dx _) a _ b = some o
  rw [upd_ne (ne_of_none e ha), upd_ne (ne_of_none e hd)]
  exact e
theorem withX_ext {H : Hp} {C a dx : Addr} {fs : List (Str × V)} : ∀ b o, withX H C a dx fs b = some o → H b = some o ∨ ∃ φ, o = HO.ext φ := fun b o e => by
  have e' : upd (upd H dx (exd dx fs)) a (exo a C (some dx)) b = some o := e
  by_cases hb : b = a
  · subst hb
    rw [upd_same] at e'
    exact .inr ⟨_, (Option.some.inj e').symm⟩
  · rw [upd_ne hb] at e'
    by_cases hd : b = dx
    · subst hd
      rw [upd_same] at e'
      exact .inr ⟨_, (Option.some.inj e').symm⟩
    · rw [upd_ne hd] at e'
      exact .inl e'
section
variable {X : Cx} {k : Nat} {f C : Addr} {fd : FuncData} {ps : List Str} {sp : Sp}
theorem run_mx {pins : List (Addr × Obj)} {σ : St} {H : Hp} {s : Shared} {Q : VK} {us args : List Value} {kw : List (Str × Value)} {vs : List V} (T : OexC X.K C) (iC : PySem.W.findIn X.K (.ref C) "__init__" = some (some (.ref f)))
    (tI : PySem.W.typeIn X.K (.ref f) = some (.type "function")) (F : FnOk X.prog X.w X.K X.mg X.base CX0 k f fd ps sp) (hr : Room (k + 1) X.A)
    (hb : ∀ (s : Shared) (self : Value), X.K.In s.heap → BindsTo s fd ⟨self :: us, kw⟩ (ps.zip (self :: args))) (I : Inv X pins σ H s) (hz : us.length ≤ sizeLine) (r : Vals vs args)
    (h : ∀ a, H a = none → sp (.ref a :: vs) (upd H a (exo a C none)) (fun v H2 => v = .non ∧ Q (.ref a) H2) E0) :
    wpAny (model X.prog X.w) X.A (call (.ref C) us kw) (EP X pins σ Q) X.xe s := by
  obtain ⟨nm, q, N, bs, bm, sn, sub, ab, col, dd, k0, k1, k2, k3, k5, hC, hbm⟩ := T.cls
  obtain ⟨hp, g, dr, tk, os⟩ := s
  have up : hp.objs.size ≤ hp.objs.size + 1 := Nat.le_succ _
  have hq := h (hp.objs.size + 1) (I.hok.fresh up)
  have keep : ∀ b o, hp.get? b = some o → (twoMore hp C us).get? b = some o := fun b o e => Heap.get?_push_of_some _ (Heap.get?_push_of_some _ e)
  have there : (twoMore hp C us).get? (hp.objs.size + 1) = some (PySem.HandSPX.excO C hp.objs.size) := by heap_get
  have I2 : Inv X pins σ (upd H (hp.objs.size + 1) (exo (hp.objs.size + 1) C none)) ⟨twoMore hp C us, g, dr, tk, os⟩ := I.laid (t' := tk) keep up (exo_ok there)
  have r2 : Vals (V.ref (hp.objs.size + 1) :: vs) (Value.ref (hp.objs.size + 1) :: args) := .cons rfl r
  refine wpAny_call (kw_call PySem.F.excBase_ValueError (fun Y => PySem.HandSPX.refsVE_contains Y bm hbm) (I.kIn _ _ hC) (PySem.W.looks_findIn I.kIn iC) (fun self => PySem.W.bind_fn I.kIn self tI) hz
    (codeAny_mono (F.run _ X.stack _ _ ⟨Value.ref (hp.objs.size + 1) :: us, kw⟩ _ _ _ E0 (hr.make C us kw) (I2.env0.make C us kw) (hb _ _ I2.kIn) r2 hq) fun r s' hq' => ?_))
  cases r with
  | error er => exact hq'.elim
  | ok fl =>
    cases fl with
    | ret u =>
      obtain ⟨v, H3, I3, rv, ev, q3⟩ := I2.after hq'
      subst ev
      exact ⟨rv, ⟨V.ref (hp.objs.size + 1), H3, I3, rfl, q3⟩⟩
    | next => exact False.elim hq'
    | brk => exact False.elim hq'
    | cont => exact False.elim hq'
/-- the class made, its fields kept: as a value -/
theorem run_mv {fs : List Str} {pins : List (Addr × Obj)} {σ : St} {H : Hp} {s : Shared} {Q : VK} {us args : List Value} {kw : List (Str × Value)} {vs : List V} (T : OexC X.K C) (iC : PySem.W.findIn X.K (.ref C) "__init__" = some (some (.ref f)))
    (tI : PySem.W.typeIn X.K (.ref f) = some (.type "function")) (F : FnOk X.prog X.w X.K X.mg X.base CX0 k f fd ps (spX C fs)) (hr : Room (k + 1) X.A)
    (hb : ∀ (s : Shared) (self : Value), X.K.In s.heap → BindsTo s fd ⟨self :: us, kw⟩ (ps.zip (self :: args))) (I : Inv X pins σ H s) (hz : us.length ≤ sizeLine) (r : Vals vs args) (hl : vs.length = fs.length)
    (h : ∀ a dx, H a = none → H dx = none → dx ≠ a → Q (.ref a) (withX H C a dx (fs.zip vs).reverse)) :
    wpAny (model X.prog X.w) X.A (call (.ref C) us kw) (EP X pins σ Q) X.xe s := by
  refine run_mx T iC tI F hr hb I hz r fun a na => ⟨a, vs, rfl, hl, upd_same, fun dx nd ne => ⟨rfl, ?_⟩⟩
  have nd' : H dx = none := by
    rw [upd_ne ne] at nd
    exact nd
  have e : withX (upd H a (exo a C none)) C a dx (fs.zip vs).reverse = withX H C a dx (fs.zip vs).reverse := by
    funext b
    show upd (upd (upd H a _) dx _) a _ b = upd (upd H dx _) a _ b
    by_cases hb : b = a
    · rw [hb, upd_same, upd_same]
    · rw [upd_ne hb, upd_ne hb]
      by_cases hd : b = dx
      · rw [hd, upd_same, upd_same]
      · rw [upd_ne hd, upd_ne hd, upd_ne hb]
  rw [e]
  exact h a dx na nd' ne
end
end K0
namespace K0
open PySem PySem.Spec PyProof.Rows L2
section
variable {X : Cx} {k : Nat} {f C : Addr} {fd : FuncData} {ps : List Str} {fs : List Str} {x n : Str} {e : Expr} {es : List Expr} {ta : TA} {te : TE} {p pos pos' : Pos} {kws : List Keyword}
/-- what the top says of such a class and its __init__ -/
structure XMk (X : Cx) (x : Str) (C : Addr) (fs : List Str) : Prop where
  cl : XCl X.K C
  gC : X.mg x = some (.ref C)
  ini : ∃ f fd k, PySem.W.findIn X.K (.ref C) "__init__" = some (some (.ref f)) ∧ PySem.W.typeIn X.K (.ref f) = some (.type "function") ∧ FnOk X.prog X.w X.K X.mg X.base CX0 k f fd (("self" : Str) :: fs) (spX C fs) ∧ Room (k + 1) X.A ∧
    (∀ (s : Shared) (self : Value) (us : List Value), us.length = fs.length → BindsTo s fd ⟨self :: us, []⟩ ((("self" : Str) :: fs).zip (self :: us))) ∧
    (∀ (s : Shared) (self : Value) (us : List Value), us.length = fs.length → BindsTo s fd ⟨[self], fs.zip us⟩ ((("self" : Str) :: fs).zip (self :: us)))
/-- C(e, ..) : whatever is asked of the arguments and the heap there, the new exception stands behind it -/
structure PX (X : Cx) (e : Expr) (C : Addr) (fs : List Str) (ta : TA) : Prop where
  run : ∀ (pins : List (Addr × Obj)) (s : Shared) (σ : St) (H : Hp) (P : List V → Hp → Prop), Inv X pins σ H s → (ta σ H fun vs H1 => vs.length = fs.length ∧ vs.length ≤ 1000 ∧ P vs H1) →
    wpAny (model X.prog X.w) X.A (eval e X.env) (fun u s1 => ∃ (vs : List V) (H1 : Hp) (a dx : Addr), u = .ref a ∧ H1 a = none ∧ H1 dx = none ∧ dx ≠ a ∧ Inv X pins σ (withX H1 C a dx (fs.zip vs).reverse) s1 ∧ P vs H1) X.xe s
theorem us_small {vs : List V} {us : List Value} (r : Vals vs us) (h : vs.length ≤ 1000) : us.length ≤ sizeLine := by
  rw [← Paired.length r, sizeLine_eq]
  omega
theorem px_pos (M : XMk X x C fs) (hg : Gl X x) (ha : PA X (e :: es) ta) (hdb : (x == ("__debug__" : Str)) = false := by decide)
    (he : starEach (e :: es) X.env = (false, eval e X.env) :: starEach es X.env := by rfl) (hpl : (backTo pos (starEach es X.env)).any (·.1) = false := by rfl) :
    PX X (.Call (.Name x p) (e :: es) [] pos) C fs ta := by
  refine ⟨fun pins s σ H P I h => ?_⟩
  obtain ⟨f, fd, k, iC, tI, F, hr, b1, _⟩ := M.ini
  refine wpAny_Call_Name_kw (ld_glob I hg M.gC ?_ hdb)
  refine PySem.W.callWith_K (h₀ := X.base) I.ok.mod.kin M.cl.T.kC (thn (ha.run pos pins s σ H _ I h) fun us s1 ⟨vs, H1, I1, r, hl, hz, q⟩ => ⟨I1.kIn, ?_⟩) he hpl
  refine thn (run_mv (fs := fs) (Q := fun v H2 => ∃ a dx, v = .ref a ∧ H1 a = none ∧ H1 dx = none ∧ dx ≠ a ∧ H2 = withX H1 C a dx (fs.zip vs).reverse) M.cl.T iC tI F hr (fun s self _ => b1 s self us (r.length.symm.trans hl)) I1 (us_small r hz) r hl
    fun a dx na nd ne => ⟨a, dx, rfl, na, nd, ne, rfl⟩) fun u s2 ⟨v, H2, I2, rv, a, dx, ev, na, nd, ne, eH⟩ => ?_
  subst ev eH
  exact ⟨vs, H1, a, dx, rv, na, nd, ne, I2, q⟩
theorem px_kw (M : XMk X x C fs) (hg : Gl X x) (hkw : PK X kws ta) (hall : (backToKw pos (keywordEach kws X.env)).all (·.1.isSome) = true := by rfl) (hks : (backToKw pos (keywordEach kws X.env)).filterMap (·.1) = fs := by rfl)
    (hdb : (x == ("__debug__" : Str)) = false := by decide) (hpl : ((backTo pos (starEach [] X.env)).any (·.1) || (backToKw pos (keywordEach kws X.env)).any (·.1.isNone)) = false := by rfl) :
    PX X (.Call (.Name x p) [] kws pos) C fs ta := by
  refine ⟨fun pins s σ H P I h => ?_⟩
  obtain ⟨f, fd, k, iC, tI, F, hr, _, b2⟩ := M.ini
  refine wpAny_Call_Name_kw (ld_glob I hg M.gC ?_ hdb)
  refine PySem.W.callWith_KW0 (h₀ := X.base) I.ok.mod.kin M.cl.T.kC hall (thn (hkw.run pos pins s σ H _ I h) fun us s1 ⟨vs, H1, I1, r, hl, hz, q⟩ => ⟨I1.kIn, ?_⟩) hpl
  rw [hks]
  refine thn (run_mv (fs := fs) (us := []) (Q := fun v H2 => ∃ a dx, v = .ref a ∧ H1 a = none ∧ H1 dx = none ∧ dx ≠ a ∧ H2 = withX H1 C a dx (fs.zip vs).reverse) M.cl.T iC tI F hr (fun s self _ => b2 s self us (r.length.symm.trans hl)) I1 (Nat.zero_le _) r hl
    fun a dx na nd ne => ⟨a, dx, rfl, na, nd, ne, rfl⟩) fun u s2 ⟨v, H2, I2, rv, a, dx, ev, na, nd, ne, eH⟩ => ?_
  subst ev eH
  exact ⟨vs, H1, a, dx, rv, na, nd, ne, I2, q⟩
/-- C(e, ..) as a value -/
def tMx (C : Addr) (fs : List Str) (ta : TA) : TE := fun σ H Q => ta σ H fun vs H1 => vs.length = fs.length ∧ vs.length ≤ 1000 ∧ ∀ a dx, H1 a = none → H1 dx = none → dx ≠ a → Q (.ref a) (withX H1 C a dx (fs.zip vs).reverse)
theorem pe_mx (h : PX X e C fs ta) : PE X e (tMx C fs ta) := by
  refine ⟨fun pins s σ H Q I h0 => thn (h.run pins s σ H _ I h0) fun u s1 hh => ?_⟩
  obtain ⟨vs, H1, a, dx, rfl, na, nd, ne, I1, q⟩ := hh
  exact ⟨.ref a, _, I1, rfl, q a dx na nd ne⟩
/-- C(e, ..).n: the exception itself is let go -/
def tFx (fs : List Str) (n : Str) (ta : TA) : TE := fun σ H Q => ta σ H fun vs H1 => vs.length = fs.length ∧ vs.length ≤ 1000 ∧ ∃ v, (fs.zip vs).reverse.lookup n = some v ∧ Q v H1
theorem pe_fx (cl : XCl X.K C) (hno : PySem.W.findIn X.K (.ref C) n = some none) (h : PX X e C fs ta) (hb : attributeBase e n X.env (eval e X.env) = eval e X.env := by rfl) : PE X (.Attribute e n pos) (tFx fs n ta) := by
  refine ⟨fun pins s σ H Q I h0 => attr_of hb (thn (h.run pins s σ H _ I h0) fun u s1 hh => ?_)⟩
  obtain ⟨vs, H1, a, dx, rfl, na, nd, ne, I1, v, l, q⟩ := hh
  have ea : withX H1 C a dx (fs.zip vs).reverse a = some (exo a C (some dx)) := upd_same
  have ed : withX H1 C a dx (fs.zip vs).reverse dx = some (exd dx (fs.zip vs).reverse) := (upd_ne ne).trans upd_same
  obtain ⟨t1, ho⟩ := exo_at I1.hok ea
  obtain ⟨mA, hns, rel⟩ := exd_at I1.hok ed
  obtain ⟨od, hd, hl⟩ := lookIn_ns hns
  obtain ⟨u, hu, ru⟩ := RelO.some_of (v := v) (o := mA n) (by rw [← l]; exact rel n)
  have J : PySem.W.InstAt s1.heap a _ C (some od) := ⟨ho, rfl, rfl, hd⟩
  exact PySem.HandSPX.exc_get I1.kIn J cl.ga cl.gg cl.T.exC (PySem.W.findObj_own cl.hd hno rfl (by rw [hl, hu])) (handed_of ru) ⟨v, H1, (forget I1 (withX_sub na nd) withX_ext).tok _, ru, q⟩
/-! ### C(), a class without an own __init__ -/
theorem pe_m0 {newId initId B : String} {bmB : List Value} (F : ExcBaseFacts B newId initId bmB) (q : PySem.W.excIn X.K C bmB newId = true) (gC : X.mg x = some (.ref C)) (kC : PySem.W.keepIn X.K (.ref C) = true) (hg : Gl X x) (hdb : (x == ("__debug__" : Str)) = false := by decide) :
    PE X (.Call (.Name x p) [] [] pos) (fun _ H Q => ∀ a, H a = none → Q (.ref a) (upd H a (exo a C none))) := by
  refine ⟨fun pins s σ H Q I h => ?_⟩
  refine wpAny_Call_Name_kw (ld_glob I hg gC ?_ hdb)
  refine PySem.W.callWith_K0 I.kIn kC ?_
  show wpAny _ _ (call (.ref C) []) _ _ _
  obtain ⟨bm, N, nm, qn, bs, hdct, sn, sub, ab, col, dd, k0, k1, k2, k3, k5, mN, hC, hN, hni, T⟩ := exc_obj I.kIn q
  refine wpAny_call_exc_subT F T hC hN hni (fun h' a hm => ?_) (Nat.zero_le _)
  have hn : H a = none := I.hok.gone hm.new
  obtain ⟨t, ht, _, _⟩ := hm.there
  exact ⟨.ref a, upd H a (exo a C none), I.laidN hm.keeps hm.new hn (exo_ok ht), rfl, h a hn⟩
/-! ### isinstance(e, c), e such an exception -/
def rIsx (K : PySem.W.Frag) : List V → Hp → VK → Prop := fun xs H Q => ∃ (a D : Addr) (c : V) (u : Value) (b : Bool), xs = [.ref a, c] ∧ ClsV c u ∧ XCl K D ∧ (H a = some (exo a D none) ∨ ∃ dx gs, H a = some (exo a D (some dx)) ∧ H dx = some (exd dx gs)) ∧
  PySem.W.kitOne K (.ref D) u = some b ∧ Q (.bl b) H
theorem call_isx : CallR X (.builtin "isinstance") (rIsx X.K) := by
  intro pins s σ H xs us Q I r h
  obtain ⟨a, D, c, u, b, rfl, k, cl, ha, e, q⟩ := h
  obtain ⟨u1, u2, rfl, r1, r2⟩ := vals2 r
  obtain rfl : u1 = Value.ref a := r1
  have e2 := k.eq r2
  subst e2
  have hc : (PySem.W.clsIn X.K D).isSome = true := by
    obtain ⟨cd, hcd, _⟩ := PySem.W.any_some cl.hd
    rw [hcd]
    rfl
  have J : ∃ ox od, PySem.W.InstAt s.heap a ox D od := by
    rcases ha with ha | ⟨dx, gs, ha, hd⟩
    · obtain ⟨t1, ho⟩ := exo_at I.hok ha
      exact ⟨_, none, ho, rfl, rfl, trivial⟩
    · obtain ⟨t1, ho⟩ := exo_at I.hok ha
      obtain ⟨mA, hns, rel⟩ := exd_at I.hok hd
      obtain ⟨od, hd, hl⟩ := lookIn_ns hns
      exact ⟨_, some od, ho, rfl, rfl, hd⟩
  obtain ⟨ox, od, J⟩ := J
  exact PySem.W.kia_one (PySem.W.kitx_exc (ox := ox) (od := od) hc cl.ga cl.gg cl.T.exC cl.ha cl.hn cl.ht cl.hm) I.kIn J e (fun z => nomatch z) fun tk => ⟨.bl b, H, I.tok tk, rfl, q⟩
end
/-! ### repr of data with empty dicts -/
mutual
inductive De (K : PySem.W.Frag) (H : Hp) : V → PyData → Prop
  | non : De K H .non .none
  | bl (b : Bool) : De K H (.bl b) (.bool b)
  | int (i : Int) : De K H (.int i) (.int i)
  | str (x : Str) : De K H (.str x) (.str x)
  | lst {a : Addr} {xs : List V} {ds : List PyData} : H a = some (.lst xs) → DeAll K H xs ds → De K H (.ref a) (.list ds)
  | tup {a : Addr} {xs : List V} {ds : List PyData} : H a = some (.tup xs) → DeAll K H xs ds → De K H (.ref a) (.tuple ds)
  | dic {a : Addr} : H a = some (.dK []) → De K H (.ref a) (.dict [])
inductive DeAll (K : PySem.W.Frag) (H : Hp) : List V → List PyData → Prop
  | nil : DeAll K H [] []
  | cons {v : V} {vs : List V} {d : PyData} {ds : List PyData} : De K H v d → DeAll K H vs ds → DeAll K H (v :: vs) (d :: ds)
end
section
variable {X : Cx} {pins : List (Addr × Obj)} {σ : St} {H : Hp} {s : Shared}
theorem off {a : Addr} {o : HO} (hs : H sysModules = none) (h : H a = some o) : sysModules ≠ a := fun e => by
  rw [← e, hs] at h
  cases h
mutual
theorem de_reads (I : Inv X pins σ H s) (hs : H sysModules = none) : ∀ (d : PyData) (v : V) (u : Value), De X.K H v d → RelV v u → ∃ as, Reads s.heap u d as ∧ sysModules ∉ as
  | .none, _, _, h, r => by
    cases h
    obtain rfl : _ = Value.none := r
    exact ⟨_, Reads.none, by simp⟩
  | .bool b, _, _, h, r => by
    cases h
    obtain rfl : _ = Value.bool b := r
    exact ⟨_, Reads.bool b, by simp⟩
  | .int i, _, _, h, r => by
    cases h
    obtain ⟨t, rfl⟩ := r
    exact ⟨_, Reads.int i t, by simp⟩
  | .str x, _, _, h, r => by
    cases h
    obtain ⟨t, rfl⟩ := r
    exact ⟨_, Reads.str x t, by simp⟩
  | .list ds, _, _, h, r => by
    cases h with
    | @lst a xs _ ha hd =>
      obtain rfl : _ = Value.ref a := r
      obtain ⟨_, its, n, rv, ho⟩ := (show ObjOk X.prog X.w H s.heap a (.lst xs) from I.hok a _ ha)
      obtain ⟨as, hr, hn⟩ := de_all I hs ds xs its hd rv
      refine ⟨_, Reads.list ho rfl rfl hr, fun z => ?_⟩
      rcases List.mem_cons.mp z with z | z
      · exact off hs ha z
      · exact hn z
  | .tuple ds, _, _, h, r => by
    cases h with
    | @tup a xs _ ha hd =>
      obtain rfl : _ = Value.ref a := r
      obtain ⟨_, its, rv, o, ho, hc, n, hd2⟩ := (show ObjOk X.prog X.w H s.heap a (.tup xs) from I.hok a _ ha)
      obtain ⟨as, hr, hn⟩ := de_all I hs ds xs its hd rv
      exact ⟨_, Reads.tuple ho hc hd2 hr, hn⟩
  | .dict _, _, _, h, r => by
    cases h with
    | @dic a ha =>
      obtain rfl : _ = Value.ref a := r
      obtain ⟨_, _, vs, rv, o, es, ep, ho, hx, hd, _, hp, _⟩ := (show ObjOk X.prog X.w H s.heap a (.dK []) from I.hok a _ ha)
      cases rv
      have e0 : es.toList = [] := by
        have z := hp.length
        exact List.eq_nil_of_length_eq_zero z
      refine ⟨_, Reads.dict (as := []) (bs := []) ho hx.1 hd (by rw [e0]; exact ReadsAll.nil) (by rw [e0]; exact ReadsAll.nil), fun z => ?_⟩
      simp at z
      exact off hs ha z
theorem de_all (I : Inv X pins σ H s) (hs : H sysModules = none) : ∀ (ds : List PyData) (vs : List V) (us : List Value), DeAll X.K H vs ds → Vals vs us → ∃ as, ReadsAll s.heap us ds as ∧ sysModules ∉ as
  | [], _, _, h, r => by
    cases h
    cases r
    exact ⟨_, ReadsAll.nil, by simp⟩
  | d :: ds, _, _, h, r => by
    cases h with
    | cons h1 h2 =>
      cases r with
      | cons r1 r2 =>
        obtain ⟨as, q1, n1⟩ := de_reads I hs d _ _ h1 r1
        obtain ⟨bs, q2, n2⟩ := de_all I hs ds _ _ h2 r2
        exact ⟨_, ReadsAll.cons q1 q2, fun z => (List.mem_append.mp z).elim n1 n2⟩
end
end
section
variable {X : Cx}
/-- repr(xs), xs a list of data -/
def rRep (K : PySem.W.Frag) : List V → Hp → VK → Prop := fun xs H Q => ∃ (a : Addr) (d : PyData), xs = [.ref a] ∧ De K H (.ref a) d ∧ d.showable = true ∧ d.depth ≤ 8 ∧ d.shown.length ≤ sizeLine ∧ Q (.str d.shown) H
theorem call_rep (hg : X.A.guards = some []) (hu : X.A.units + 64 < cLine) (hsys : ∃ o, X.K.lookup sysModules = some o) : CallR X (.builtin "repr") (rRep X.K) := by
  intro pins s σ H xs us Q I r h
  obtain ⟨a, d, rfl, hd, hsh, hdp, hz, q⟩ := h
  obtain ⟨oS, hoS⟩ := hsys
  have hs : H sysModules = none := (I.bs _ _ (I.ok.mod.kin _ _ hoS)).2
  obtain ⟨u, rfl, ru⟩ := vals1 r
  obtain rfl : u = Value.ref a := ru
  obtain ⟨as, hr, hn⟩ := de_reads I hs d _ _ hd rfl
  exact repr_of_reads' hr hsh (fun _ => hn) hg (by omega) (fun _ _ z => z) (fun h' t tk hk => ⟨.str d.shown, H, I.kept hk, ⟨t, rfl⟩, q⟩) hz
end
end K0
/-! ### sorted(xs, key=f), f's calls seen by an invariant of one's own; the keys are texts -/
namespace SK
open PySem PySem.W PySem.Calls PyProof.Rows
def IsText (v : Value) (k : Str) : Prop := ∃ t, v = .str k t
abbrev Texts (us : List Value) (ks : List Str) : Prop := EachIs IsText us ks
section
variable {prog : Program} {w : World} {A : Around} {E : Value → Shared → Prop} {s : Shared} {a kS : Addr} {b : Bool} {vs : List Value} {ks : List Str} {e1 : Nat} {P : PySem.Fin → Shared → Prop}
theorem texts_read {h : Heap} : ∀ {us : List Value} {ks : List Str}, Texts us ks → EachIs (fun v d => ∃ as, Reads h v d as) us (ks.map PyData.str)
  | _, _, .nil => .nil
  | _, _, .cons ⟨t, e⟩ r => .cons ⟨[], by rw [e]; exact .str _ t⟩ (texts_read r)
theorem alike_texts (ks : List Str) : AllAlike (ks.map PyData.str) := AllAlike.of fun x y => by simp [alike]
theorem sortable_texts (ks : List Str) : Sortable (ks.map PyData.str) := Sortable.others fun x => ⟨(nomatch ·), fun xs => (nomatch ·)⟩
/-- what an invariant J of the sort has to tell -/
structure ByJ (prog : Program) (w : World) (A : Around) (a kS : Addr) (e1 : Nat) (f : Value) (vs : List Value) (ks : List Str) (J : Nat → Shared → Prop) : Prop where
  is : ∀ i s, J i s → ∃ kA e, s.heap.get? kS = some (seqObj "list" kA e) ∧ Texts kA.toList (ks.take i) ∧ s.heap.get? a = some (seqObj "list" #[] e1)
  turn : ∀ (i : Nat) (v : Value) (k : Str), vs[i]? = some v → ks[i]? = some k → ∀ s, J i s → wpAny (model prog w) A (call f [v]) (fun u s2 => IsText u k ∧ ∃ kA e, s2.heap.get? kS = some (seqObj "list" kA e) ∧ Texts kA.toList (ks.take i) ∧
    ∀ h3 e3, Heap.SameBut kS s2.heap h3 → h3.get? kS = some (seqObj "list" (kA.push u) e3) → J (i + 1) { s2 with heap := h3 }) (fun _ _ => False) s
theorem rest_by {f : Value} {J : Nat → Shared → Prop} (B : ByJ prog w A a kS e1 f vs ks J) (hka : kS ≠ a) (hlen : ks.length = vs.length) (hZ : vs.length ≤ sizeLine) (hu : A.units < cLine) (j0 : J 0 s)
    (h : ∀ s' h' tk out c, J vs.length s' → (∀ b o, b ≠ a → b ≠ kS → s'.heap.get? b = some o → h'.get? b = some o) → h'.get? a = some (seqObj "list" (List.toArray out) c) → KeyedOut b (ks.map PyData.str) vs out → P (.done (.ret .none)) { s' with heap := h', toks := tk }) :
    wpAny (model prog w) A (ksk_rest a f b vs.toArray e1 (.ref kS)) P E s := by
  unfold ksk_rest
  refine wpAny_bind (wpAny_rule ?_)
  first
    | rw [List.forIn_toArray]
    | (rw [← Array.forIn_toList]; simp only [List.toList_toArray])
  refine wpAny_bind (ksk_fold J vs 0 s j0 (fun j x s' hx hJ => ?_) fun s' hJ => ?_)
  · rw [Nat.zero_add] at hJ ⊢
    have hj : j < vs.length := (List.getElem?_eq_some_iff.mp hx).1
    obtain ⟨k, hkj⟩ : ∃ k, ks[j]? = some k := ⟨_, List.getElem?_eq_getElem (by omega)⟩
    refine wpAny_bind (wpAny_attempt (wpAny_mono (B.turn j x k hx hkj s' hJ) (fun u s2 q => ?_) fun _ _ z => z.elim))
    obtain ⟨ht, kA, e, nk, tx, go⟩ := q
    dsimp only
    have hz : kA.size ≤ vs.length := by
      have z := tx.length
      rw [Array.length_toList, List.length_take] at z
      omega
    have hz2 : kA.size ≤ sizeLine := Nat.le_trans hz hZ
    obtain ⟨c2, hc2⟩ : ∃ c2, (s2.heap.update kS (Obj.mapSeq (·.push u))).get? kS = some (seqObj "list" (kA.push u) c2) := ⟨_, get?_update_seq nk (·.push u)⟩
    refine wpAny_bind (listUpdate_at nk rfl ?_ hz2 (by rw [Array.size_push]; omega))
    exact wpAny_pure ⟨rfl, go _ c2 (Heap.SameBut.update s2.heap kS (Obj.mapSeq (·.push u))) hc2⟩
  · rw [Nat.zero_add] at hJ
    obtain ⟨kA, e, nk, tx, na⟩ := B.is _ _ hJ
    refine wpAny_bind (listItems_at nk rfl ?_)
    obtain ⟨G, g1, g2⟩ := L2.restrict s'.heap fun b => decide (b ≠ kS)
    have gs : ∀ b o, G.get? b = some o → s'.heap.get? b = some o := fun b o q => by
      by_cases hb : b = kS
      · rw [hb, g2 kS (decide_eq_false fun z => z rfl)] at q
        cases q
      · rw [← g1 b (decide_eq_true hb)]
        exact q
    have et : ks.take vs.length = ks := List.take_of_length_le (by omega)
    rw [et] at tx
    have er := texts_read (h := s'.heap) tx
    have hsz : kA.size = vs.length := by
      have z := tx.length
      rw [Array.length_toList] at z
      omega
    refine keyH_end (h₁ := G) (κ := dataKind s'.heap (ks.map PyData.str)) (fun b o _ q => gs b o q) (g2 kS (decide_eq_false fun z => z rfl)) nk na hka (SortsAt.data er (alike_texts ks) (sortable_texts ks) fun d hd => ?_) hsz hZ fun h' tk c kp hA => ?_
    · obtain ⟨x, _, rfl⟩ := List.mem_map.mp hd
      simp only [PyData.depth]
      omega
    · exact h s' h' tk _ c hJ (fun b o n1 n2 q => kp b o n1 (by rw [g1 b (decide_eq_true n2)]; exact q)) hA ⟨s'.heap, kA.toList, alike_texts ks, rfl, er⟩
theorem sorted_by {β : Type} {R : Value → β → Prop} {l : Addr} {f : Value} {kw : List (Str × Value)} {Q : Value → Shared → Prop} {bs : List β} (key : β → Str) (hl : s.heap.IsList l vs.toArray) (er : EachIs R vs bs) (hZ : bs.length ≤ sizeLine) (hu : A.units + 2 < cLine) (ha1 : argsOk "sorted" ⟨[.ref l], kw⟩)
    (ha2 : ∀ x, argsOk "list.sort" ⟨[.ref x], kw⟩) (ht : ∀ x, Builtin.«list.sort» ⟨[.ref x], kw⟩ = ksk_tree x f b)
    (go : ∀ (a kS : Addr) (e1 : Nat) (h0 : Heap), (∀ b o, s.heap.get? b = some o → h0.get? b = some o) → s.heap.objs.size ≤ a → s.heap.objs.size ≤ kS → kS ≠ a → h0.get? kS = some (seqObj "list" #[] 0) → h0.get? a = some (seqObj "list" #[] e1) →
      ∃ J : Nat → Shared → Prop, ByJ prog w A.in1.in1 a kS e1 f vs (bs.map key) J ∧ J 0 { s with heap := h0 } ∧
        ∀ s' h' tk out c, J vs.length s' → (∀ b o, b ≠ a → b ≠ kS → s'.heap.get? b = some o → h'.get? b = some o) → h'.get? a = some (seqObj "list" (List.toArray out) c) → out.length = bs.length → EachIs R out (bs.mergeSort (dataLe b fun x => .str (key x))) → Q (.ref a) { s' with heap := h', toks := tk }) :
    wpAny (model prog w) A (call (.builtin "sorted") [.ref l] kw) Q E s := by
  refine sorted_of_sort hl (by rw [er.length]; exact hZ) ha1 ha2 fun E' => ?_
  rw [ht]
  have at0 := copyHeap_at s.heap vs
  generalize ha : s.heap.objs.size + 1 = a at at0 ⊢
  have old : ∀ b o, s.heap.get? b = some o → (copyHeap s.heap vs).get? b = some o := fun b o q => copyHeap_old q
  have hsa : a < (copyHeap s.heap vs).objs.size := Heap.lt_size at0
  generalize copyHeap s.heap vs = h1 at at0 old hsa ⊢
  obtain ⟨e1, ho1⟩ : ∃ e1, (h1.update a (Obj.mapSeq fun _ => (#[] : Array Value))).get? a = some (seqObj "list" #[] e1) := ⟨_, get?_update_seq at0 fun _ => #[]⟩
  have hkS : ((h1.update a (Obj.mapSeq fun _ => (#[] : Array Value))).push (seqObj "tuple" vs.toArray 0)).objs.size = h1.objs.size + 1 := by
    rw [size_push', Heap.size_update]
  unfold ksk_tree
  refine wpAny_bind (listItems_at at0 rfl ?_)
  refine wpAny_bind (listUpdate_at at0 rfl ?_ (by rw [List.size_toArray, er.length]; exact hZ) (Nat.zero_le _))
  refine wpAny_bind (seqEpoch_at ho1 rfl ?_)
  refine wpAny_bind (wpAny_newTuple ?_ (by show vs.length ≤ _; rw [er.length]; exact hZ))
  refine wpAny_bind (wpAny_newList ?_ (Nat.zero_le _))
  refine wpAny_holding ?_
  rw [hkS]
  have nka : h1.objs.size + 1 ≠ a := by omega
  have za : s.heap.objs.size ≤ a := by omega
  have zk : s.heap.objs.size ≤ h1.objs.size + 1 := by omega
  have nba : ∀ b o, s.heap.get? b = some o → b ≠ a := fun b o q => Nat.ne_of_lt (Nat.lt_of_lt_of_le (Heap.lt_size q) za)
  obtain ⟨J, B, j0, fin⟩ := go a (h1.objs.size + 1) e1 (((h1.update a (Obj.mapSeq fun _ => (#[] : Array Value))).push (seqObj "tuple" vs.toArray 0)).push (seqObj "list" #[] 0))
    (fun b o q => Heap.get?_push_of_some _ (Heap.get?_push_of_some _ (((Heap.SameBut.update h1 a (Obj.mapSeq fun _ => (#[] : Array Value))).2 b (nba b o q)).trans (old b o q)))) za zk nka
    (by rw [← hkS]; exact Heap.get?_push_size _ rfl) (Heap.get?_push_of_some _ (Heap.get?_push_of_some _ ho1))
  refine rest_by B nka (by rw [List.length_map]; exact er.length.symm) (by rw [er.length]; exact hZ) (by show A.units + 1 + 1 < cLine; omega) j0 fun s' h' tk out c hJ kp hA ko => ⟨rfl, ?_⟩
  have em : (bs.map key).map PyData.str = bs.map fun x => PyData.str (key x) := by
    rw [List.map_map]
    rfl
  rw [em] at ko
  exact fin s' h' tk out c hJ kp hA ((ko.length (by rw [List.length_map]; exact er.length.symm)).trans er.length) (keyedOut_each (fun x => PyData.str (key x)) ko er)
end
end SK
/-! ### sorted(e, key=lambda x: body), e a list of texts, x's key a text -/
namespace SK
open PySem PySem.Spec PyProof.Rows L2 LamX NdefX
abbrev St := L2.St
abbrev CX0 := C8.CX0
abbrev E0 := C8.E0
section
variable {CX : CXT} {P : Program} {w : World} {K : PySem.W.Frag} {mg : Str → Option Value} {base : Heap} {N ps fr : List Str} {F : NF} {f : Addr} {A : Around} {outer : List Env} {s : Shared} {H : Hp} {E : XK} {us : List Value} {vs : List V} {ws : List (Option V)} {k : Nat} {body : Expr} {tb : TE} {Q : VK} {pm ctv : Value}
/-- a lambda with parameters is called -/
theorem lam_run (S : NScope N ps fr F.scope) (hbind : bindArgs (PySem.W.kla_fn F.name F.qual F.params body F.scope F.cl pm (.ref F.c) ctv) ⟨us, []⟩ = pure (ps.zip us)) (ho : s.heap.get? f = some (PySem.W.kla_obj F.name F.qual F.params body F.scope F.cl pm F.c ctv))
    (hco : H F.c = some (CodeO F.c F.qual)) (hr : Room (k + 1) A) (e0 : Env0 P w K mg base A outer s H) (C : CellsAt F.cl fr ws s.heap H) (r : Vals vs us) (hl : vs.length = ps.length) (hbody : PE (ncx CX P w K mg base N F f A outer s H E) body tb)
    (hq : tb (startF N vs ws) H Q) : codeAny (model P w) A (.call (.ref f) ⟨us, []⟩) (CR CX outer P w H s Q E) s := by
  have lim : s.heap.NoLimit := e0.mod.nolimit.keeps fun b o e => (e0.bs b o e).1
  refine PySem.W.kla_callFunE hr.depth ho rfl S.co S.gen rfl (codeO_at e0.hok hco) ?_
  rw [hbind]
  refine wpAny_pure (wpAny_newFunctionEnv S.nocell (fun ⟨n, _⟩ hy => S.par n (List.of_mem_zip hy).1) (fun h₁ hns hsb => ⟨lim.fresh _ hsb, ?_⟩) S.kind)
  show codeAny _ _ (.expr body (envF F f s.heap.objs.size)) _ _
  have kp : ∀ b o, s.heap.get? b = some o → h₁.get? b = some o := fun b o e => hsb.extBut b o (Nat.ne_of_lt (Heap.lt_size e)) (Heap.get?_push_of_some _ e)
  have J := inv_startN (CX := CX) (f := f) (E := E) (tk := s.toks + (ps.zip us).length) S hr.hd e0 hl r C hns kp
  refine PySem.W.kla_codeExpr (wpAny_mono (hbody.run [] _ _ H Q J hq) (fun v s' hs => ?_) fun e s' hs => hs)
  obtain ⟨x, H', J', rv, q⟩ := hs
  exact ⟨x, H', J'.os, J'.bare, J'.base, J'.hok, rv, q⟩
end
/-- what the sort knows of its two lists -/
def aO (a : Addr) (e1 : Nat) : HO := .ext fun h => h.get? a = some (seqObj "list" #[] e1)
def kO (kS : Addr) (ks : List Str) : HO := .ext fun h => ∃ kA e, h.get? kS = some (seqObj "list" kA e) ∧ Texts kA.toList ks
theorem aO_ok {P : Program} {w : World} {H : Hp} {h : Heap} {a : Addr} {e1 : Nat} (q : h.get? a = some (seqObj "list" #[] e1)) : ObjOk P w H h a (aO a e1) := ⟨q, ⟨_, q⟩, fun h1 h2 z st => st _ z⟩
theorem kO_ok {P : Program} {w : World} {H : Hp} {h : Heap} {a : Addr} {ks : List Str} {kA : Array Value} {e : Nat} (q : h.get? a = some (seqObj "list" kA e)) (t : Texts kA.toList ks) : ObjOk P w H h a (kO a ks) :=
  ⟨⟨kA, e, q, t⟩, ⟨_, q⟩, fun h1 h2 ⟨k1, e1, z, t1⟩ st => ⟨k1, e1, st _ z, t1⟩⟩
theorem aO_at {P : Program} {w : World} {H : Hp} {h : Heap} {a : Addr} {e1 : Nat} (x : HOk P w H h) (e : H a = some (aO a e1)) : h.get? a = some (seqObj "list" #[] e1) := (x a _ e).1
theorem kO_at {P : Program} {w : World} {H : Hp} {h : Heap} {a : Addr} {ks : List Str} (x : HOk P w H h) (e : H a = some (kO a ks)) : ∃ kA e, h.get? a = some (seqObj "list" kA e) ∧ Texts kA.toList ks := (x a _ e).1
theorem vals_texts : ∀ {ws : List Str} {us : List Value}, Vals (ws.map V.str) us → Texts us ws
  | [], [], _ => .nil
  | [], _ :: _, h => by cases h
  | _ :: _, [], h => by cases h
  | w :: ws, u :: us, h => by
    cases h with
    | cons h1 h2 => exact .cons h1 (vals_texts h2)
theorem texts_vals : ∀ {us : List Value} {ws : List Str}, Texts us ws → Vals (ws.map V.str) us
  | _, _, .nil => .nil
  | _, _, .cons h1 h2 => .cons h1 (texts_vals h2)
theorem each_get {α β : Type} {R : α → β → Prop} : ∀ {us : List α} {ws : List β}, PySem.W.EachIs R us ws → ∀ {i : Nat} {u : α} {x : β}, us[i]? = some u → ws[i]? = some x → R u x
  | _, _, .nil, i, u, x, h, _ => by simp at h
  | _, _, .cons r t, 0, u, x, h1, h2 => by
    simp at h1 h2
    subst h1 h2
    exact r
  | _, _, .cons r t, i + 1, u, x, h1, h2 => each_get t (by simpa using h1) (by simpa using h2)
theorem texts_snoc {us : List Value} {ks : List Str} {u : Value} {k : Str} : Texts us ks → IsText u k → Texts (us ++ [u]) (ks ++ [k])
  | .nil, h => .cons h .nil
  | .cons a t, h => .cons a (texts_snoc t h)
/-- the reading, behind the list: its words, the key of each by the lambda's body, then the new list in their order -/
def sTail (K : PySem.W.Frag) (T : List (Addr × Str)) (H0 : Hp) (N : List Str) (js : List Nat) (tb : TE) (σ : St) (Q : VK) (x : V) (H1 : Hp) : Prop := ∃ (l : Addr) (ws : List Str) (key : Str → Str), x = .ref l ∧ SqL K H1 l (ws.map V.str) ∧ Tabs T H1 ∧ ExtN H0 H1 ∧
  ∀ H2, ExtN H1 H2 → Tabs T H2 → (∀ y ∈ ws, ∀ H3, Same H2 H3 → tb (startF N [.str y] (js.map (slotAt σ))) H3 fun v H4 => v = .str (key y) ∧ Same H3 H4) ∧
    ∀ H5 p, H2 p = none → Same H2 H5 → H5 p = some (.lst ((ws.mergeSort (PySem.W.dataLe false fun x => .str (key x))).map V.str)) → Q (.ref p) H5
def tSort (K : PySem.W.Frag) (T : List (Addr × Str)) (H0 : Hp) (N : List Str) (js : List Nat) (te tb : TE) : TE := fun σ H Q => te σ H (sTail K T H0 N js tb σ Q)
theorem extN_seq {K : PySem.W.Frag} {H H' : Hp} {l : Addr} {xs : List V} (e : ExtN H H') (h : SqL K H l xs) : SqL K H' l xs := by
  rcases h with (h | ⟨o, h⟩) | h
  · exact .inl (.inl (e _ _ h fun ps z => nomatch z))
  · exact .inl (.inr ⟨o, e _ _ h fun ps z => nomatch z⟩)
  · exact .inr h
section
variable {X : Cx}
theorem pe_sortkey {T : List (Addr × Str)} {c P : Addr} {k : Nat} {e body : Expr} {params : Arguments} {scope : Scope} {te tb : TE} {p lpos kpos pos : Pos} {N fr : List Str} {a1 : Str} {js : List Nat} (hg : Gl X "sorted") (hm : X.mg "sorted" = none) (ha : PE X e te) (TB : TabB X.base X.mg c P) (hcode : X.env.code = .ref c)
    (hmT : (P, X.env.qual ++ "<lambda>") ∈ T) (hu : ∀ p ∈ T, p.1 = P → p.2 = X.env.qual ++ "<lambda>") (hr : Room (k + 3) X.A) (hex : X.ex = []) (S : NScope N [a1] fr scope)
    (hnd : ndefB X.env.scope scope fr = true) (hjs : js.map (fun j => X.N[j]?) = fr.map some) (hdef : defaultsOf params X.env = ([], []))
    (hbind : ∀ (q : Str) (cl : List (Str × Addr)) (pm cv ctv v : Value), bindArgs (PySem.W.kla_fn "<lambda>" q params body scope cl pm cv ctv) ⟨[v], []⟩ = pure [(a1, v)])
    (hbody : ∀ (A : Around) (outer : List Env) (s : Shared) (H : Hp) (f c' : Addr) (cl : List (Str × Addr)), Room k (A.deeper (envF ⟨"<lambda>", X.env.qual ++ "<lambda>", params, [], scope, cl, c'⟩ f s.heap.objs.size)) →
      PE (ncx CX0 X.prog X.w X.K X.mg X.base N ⟨"<lambda>", X.env.qual ++ "<lambda>", params, [], scope, cl, c'⟩ f A outer s H E0) body tb)
    (hs1 : starEach [e] X.env = [(false, eval e X.env)] := by rfl) :
    PE X (.Call (.Name "sorted" p) [e] [⟨some "key", .Lambda params body scope lpos, kpos⟩] pos) (tSort X.K T X.H_0 N js te tb) := by
  have hfree := ndef_free hnd
  have hfr := ndef_fr hnd
  refine ⟨fun pins s σ H Q I h => ?_⟩
  refine wpAny_Call_Name_kw (ld_blt I hg hm PyProof.Rows.boot_sorted ?_)
  refine PyProof.Rows.callWith_kw ?_ (by rw [hs1]; rfl) (by rw [hs1]; rfl) (by rfl) (by rfl)
  refine thn ((pa_cons ha pa_nil hs1).run pos pins s σ H (fun vs H1 => match vs with
    | [x] => sTail X.K T X.H_0 N js tb σ Q x H1
    | _ => False) I h) fun us s1 ⟨vs, H1, I1, r1, q1⟩ => ?_
  match vs, r1, q1 with
  | [x], r1, q1 =>
  obtain ⟨l, ws, key, rfl, hS, hT, h01, q⟩ := q1
  obtain ⟨u, rfl, ru⟩ := vals1 r1
  obtain rfl : u = Value.ref l := ru
  have hcl : ∀ y ∈ scope.names, y.2 = .free → ∃ c, X.env.cells.lookup y.1 = some c := fun y hy e => (hfree y hy e).elim (fun z => I1.ok.has _ (.inl z)) fun z => I1.ok.has _ (.inr z)
  show wpAny _ _ (evalAll ((do let v ← eval (.Lambda params body scope lpos) X.env; standAt pos; pure v) :: (backToKw pos (keywordEach [] X.env)).map (·.2))) _ _ s1
  refine wpAny_evalAll_cons (wpAny_bind (lam_make2 I1 TB hcode hmT hu hT hdef hcl fun f c' pm ctv H2 s2 I2 eN T2 ho hfn hfs hco => wpAny_bind (wpAny_standAt (wpAny_pure ?_))))
  refine wpAny_evalAll_nil ?_
  show wpAny _ _ (call (.builtin "sorted") [.ref l] [(Str.ofString "key", .ref f)]) _ _ s2
  obtain ⟨qa, qend⟩ := q H2 eN T2
  obtain ⟨its, rv, hl, hz⟩ := I2.list (extN_seq eN hS)
  rw [List.length_map] at hz
  have hu2 : X.A.units + 2 < cLine := by
    have z := hr.un
    omega
  have tx := vals_texts rv
  refine sorted_by (b := false) key hl.isList tx hz hu2 (PyProof.Rows.ksk_s1 _ _) (fun x => PyProof.Rows.ksk_l1 _ _) (fun x => PyProof.Rows.ksk_t1 _ _) fun a kS e1 h0 k0 za zk nka hk ha0 => ?_
  have na : H2 a = none := I2.hok.fresh za
  have nk : H2 kS = none := I2.hok.fresh zk
  have fr0 : ∀ b, H2 b = none → Fr0 X.H_0 b := fun b n o e => by
    by_cases ht : ∃ ps, o = .tbl ps
    · exact ht
    · have z := eN b o (h01 b o e fun ps w => ht ⟨ps, w⟩) fun ps w => ht ⟨ps, w⟩
      rw [n] at z
      cases z
  refine ⟨fun i s' => ∃ H', Inv X pins σ H' s' ∧ Same H2 H' ∧ H' a = some (aO a e1) ∧ H' kS = some (kO kS ((ws.map key).take i)) ∧ s'.heap.get? f = some (PySem.W.kla_obj "<lambda>" (X.env.qual ++ "<lambda>") params body scope (cloFrom X.env.cells scope.names []) pm c' ctv) ∧ H' f = none,
    ⟨fun i s' ⟨H', I', sm, oa, ok, of, nf⟩ => ?_, fun i v k0 hv hk0 s' ⟨H', I', sm, oa, ok, of, nf⟩ => ?_⟩, ?_, fun s' h' tk out c0 ⟨H', I', sm, oa, ok, of, nf⟩ kp hA hlen er => ?_⟩
  · obtain ⟨kA, e, z1, z2⟩ := kO_at I'.hok ok
    exact ⟨kA, e, z1, z2, aO_at I'.hok oa⟩
  · obtain ⟨y, hy, rfl⟩ : ∃ y, ws[i]? = some y ∧ key y = k0 := by
      rw [List.getElem?_map] at hk0
      cases e : ws[i]? with
      | none =>
        rw [e] at hk0
        cases hk0
      | some y =>
        rw [e] at hk0
        exact ⟨y, rfl, Option.some.inj hk0⟩
    obtain ⟨t, rfl⟩ := each_get tx hv hy
    have C := cells_of I' (Caps.made I'.ok hfree hfr hjs)
    have hr2 : Room (k + 1) X.A.in1.in1 := hr.in1.in1
    have rc := lam_run (CX := CX0) (E := E0) (F := ⟨"<lambda>", X.env.qual ++ "<lambda>", params, [], scope, cloFrom X.env.cells scope.names [], c'⟩) (f := f) (us := [.str y t]) (vs := [.str y]) (Q := fun v H4 => v = .str (key y) ∧ Same H' H4) S (hbind _ _ _ _ _ _) of (sm _ _ hco) hr2 I'.env0.in1.in1 C
      (.cons ⟨t, rfl⟩ .nil) rfl (hbody _ _ _ _ _ _ _ (hr2.deeper _)) (qa y (List.mem_of_getElem? hy) H' sm)
    refine wpAny_call (codeAny_mono rc fun r s3 hq => ?_)
    cases r with
    | error e => exact (show False from hq).elim
    | ok fl =>
      cases fl with
      | next => exact (show False from hq).elim
      | brk => exact (show False from hq).elim
      | cont => exact (show False from hq).elim
      | ret u =>
        obtain ⟨v2, H4, os, bare, un, hok, rv2, rfl, sm4⟩ := (show CE X.stack X.prog X.w H' s' _ u s3 from hq)
        obtain ⟨hh, g, d, t4, os'⟩ := s3
        obtain rfl : os' = s'.os := os
        have I4 : Inv X pins σ H4 ⟨hh, g, d, t4, s'.os⟩ := I'.call (h' := hh) (g' := g) (d' := d) (t' := t4) (ch := []) un hok bare (fun b z => absurd z (by simp))
        obtain ⟨kA, e, nk4, tx4⟩ := kO_at I4.hok (sm4 _ _ ok)
        have nfk : f ≠ kS := fun z => by
          rw [z, ok] at nf
          cases nf
        have of4 := un.keep f _ of nf hfs (by simp)
        have nf4 := un.free f _ of nf (by simp)
        refine ⟨rv2, kA, e, nk4, tx4, fun h3 e3 hsb hk3 => ?_⟩
        have tx5 : Texts (kA.push u).toList ((ws.map key).take (i + 1)) := by
          have e5 : (ws.map key).take (i + 1) = (ws.map key).take i ++ [key y] := by
            rw [List.take_add_one, List.getElem?_map, hy]
            rfl
          rw [e5, Array.toList_push]
          exact texts_snoc tx4 rv2
        refine ⟨upd H4 kS (kO kS ((ws.map key).take (i + 1))), I4.write (x := kS) (e := kS) (by rw [sm4 _ _ ok]; trivial) (.inl rfl) (fun b o hb z => (hsb.2 b hb).trans z) ⟨_, hk3⟩ (kO_ok hk3 tx5), fun b o z => ?_, ?_, upd_same, ?_, ?_⟩
        · rw [upd_ne (ne_of_none z nk)]
          exact sm4 _ _ (sm _ _ z)
        · rw [upd_ne nka.symm]
          exact sm4 _ _ oa
        · exact (hsb.2 f nfk).trans of4
        · rw [upd_ne nfk]
          exact nf4
  · obtain ⟨G, g1, g2⟩ := restrict h0 fun b => decide (b ≠ kS)
    have lt : ∀ b o, s2.heap.get? b = some o → b ≠ kS ∧ b ≠ a := fun b o z => ⟨Nat.ne_of_lt (Nat.lt_of_lt_of_le (Heap.lt_size z) zk), Nat.ne_of_lt (Nat.lt_of_lt_of_le (Heap.lt_size z) za)⟩
    have gG : ∀ b o, b ≠ kS → h0.get? b = some o → G.get? b = some o := fun b o n z => by
      rw [g1 b (decide_eq_true n)]
      exact z
    have Gh : ∀ b o, G.get? b = some o → h0.get? b = some o := fun b o z => by
      by_cases hb : b = kS
      · rw [hb, g2 kS (decide_eq_false fun z => z rfl)] at z
        cases z
      · rw [← g1 b (decide_eq_true hb)]
        exact z
    have Ia := I2.laidN (h' := G) (t' := s2.toks) (a := a) (o := aO a e1) (fun b o z => gG b o (lt b o z).1 (k0 b o z)) (Heap.get?_none_of_le za) na (aO_ok (gG a _ nka.symm ha0))
    have nk2 : upd H2 a (aO a e1) kS = none := by
      rw [upd_ne nka]
      exact nk
    have Ik := Ia.laidN (h' := h0) (t' := s2.toks) (a := kS) (o := kO kS []) Gh (g2 kS (decide_eq_false fun z => z rfl)) nk2 (kO_ok hk .nil)
    refine ⟨_, Ik, fun b o z => ?_, ?_, ?_, k0 _ _ ho, ?_⟩
    · rw [upd_ne (ne_of_none z nk), upd_ne (ne_of_none z na)]
      exact z
    · rw [upd_ne nka.symm, upd_same]
    · rw [upd_same, List.take_zero]
    · rw [upd_ne (lt _ _ ho).1, upd_ne (lt _ _ ho).2]
      exact hfn
  · obtain ⟨G1, a1, a2, I5⟩ := I'.untrack ok (fr0 kS nk) hex
    obtain ⟨G2, b1, b2, I6⟩ := I5.untrack (a := a) (by rw [delH_ne nka.symm]; exact oa) (fr0 a na) hex
    have hlm : ((ws.mergeSort (PySem.W.dataLe false fun x => .str (key x))).map V.str).length ≤ sizeLine := by
      rw [List.length_map, List.length_mergeSort]
      exact hz
    have I7 := I6.laidN (h' := h') (t' := tk) (a := a) (o := .lst ((ws.mergeSort (PySem.W.dataLe false fun x => .str (key x))).map V.str))
      (fun b o z => kp b o (fun w => by rw [w, b2] at z; cases z) (fun w => by have z2 := b1 b o z; rw [w] at z2; have z3 := z2; rw [a2] at z3; cases z3) (a1 _ _ (b1 _ _ z))) b2 delH_same ⟨hlm, out, c0, texts_vals er, hA⟩
    refine ⟨.ref a, _, I7, rfl, qend _ a na (fun b o z => ?_) upd_same⟩
    rw [upd_ne (ne_of_none z na), delH_ne (ne_of_none z na), delH_ne (ne_of_none z nk)]
    exact sm _ _ z
end
end SK
/-! ### enumerate of a text and of a tuple; dict comprehensions over any walk -/
namespace SK
open PySem PySem.Spec PyProof.Rows L2 LamX NdefX
def ItES (x : Str) : It := ⟨fun i _ => i < x.cps.size, fun i H v H' => ∃ T c, v = .ref T ∧ H T = none ∧ H' = upd H T (.tup [.int (i : Nat), .str ⟨#[c]⟩]) ∧ x.cps[i]? = some c, fun i _ => i = x.cps.size⟩
def ItET (a : Addr) (xs : List V) : It := ⟨fun i H => H a = some (.tup xs) ∧ i < xs.length, fun i H v H' => ∃ T x, v = .ref T ∧ H T = none ∧ H' = upd H T (.tup [.int (i : Nat), x]) ∧ xs[i]? = some x, fun i H => H a = some (.tup xs) ∧ i = xs.length⟩
/-- a pair that enumerate hands out -/
theorem enum_turn {X : Cx} {pins : List (Addr × Obj)} {s : Shared} {σ : St} {H : Hp} {E : Value → Shared → Prop} {J : It} {fp : List Addr} {n i : Nat} {Pd : Nat → Value → Prop} {Sd : Nat → Heap → Prop} {e it : Addr} {elts : List Expr} {kk : Nat} {tpos : Pos} {tn : Nat → Heap → Prop} (I : Inv X pins σ H s)
    (D : PySem.Draws X.prog X.w X.A.in1 it fp n Pd Sd) (hf : ∀ b ∈ [e, it], FpOk X pins H b) (he : ∃ old, IsEnum s.heap e it ((i : Nat) : Int) old) (hst : Sd i s.heap) (hlt : i < n) (hne : e ≠ it) (hef : e ∉ fp)
    (hit : ∃ o, s.heap.get? it = some o) (rel : ∀ u, Pd i u → ∃ x, RelV x u ∧ ∀ H' T, H T = none → H' = upd H T (.tup [.int (i : Nat), x]) → J.yld i H (.ref T) H') (nx : ∀ h' h'', Sd (i + 1) h' → (∀ b o, b ≠ e → h'.get? b = some o → h''.get? b = some o) → (∃ old, IsEnum h'' e it (((i + 1 : Nat)) : Int) old) → tn (i + 1) h'') :
    wpAny (model X.prog X.w) X.A (pyNext (.ref e)) (fun r s1 => ∃ u, r = some u ∧
      wpAny (model X.prog X.w) X.A (letOwnedTupleGo (.Tuple elts kk tpos) (.ref e) u) (fun _ s2 => ∃ x H', Inv X pins σ H' s2 ∧ RelV x u ∧ J.yld i H x H' ∧ tn (i + 1) s2.heap ∧ ∀ b ∈ [e, it], H' b = none) E s1) E s := by
  obtain ⟨old, he⟩ := he
  have hel : e < s.heap.objs.size := Heap.lt_size he
  have hil : it < s.heap.objs.size := by
    obtain ⟨o, q⟩ := hit
    exact Heap.lt_size q
  refine wpAny_pyNext_enum_itemD D he hst hlt hne hef fun u h' tk hP ho hst' hT hsz hk => ?_
  obtain ⟨x, ru, hy⟩ := rel u hP
  refine ⟨_, rfl, wpAny_letOwnedTupleGo_enum (s := { s with heap := h', toks := tk + 1 }) ho fun h'' he' sb => ?_⟩
  have hT2 : h''.get? s.heap.objs.size = some { cls := .type "tuple", data := .seq #[.int i tk, u] } := (sb.2 _ (Nat.ne_of_gt hel)).trans hT
  have nw : ObjOk X.prog X.w (upd H s.heap.objs.size (.tup [.int (i : Nat), x])) h'' s.heap.objs.size (.tup [.int (i : Nat), x]) :=
    ⟨by show 2 ≤ sizeLine; decide, [.int i tk, u], .cons ⟨_, rfl⟩ (.cons ru .nil), ⟨_, hT2, rfl, _, rfl⟩⟩
  have I1 : Inv X pins σ (upd H s.heap.objs.size (.tup [.int (i : Nat), x])) { s with heap := h'', toks := tk + 1 } :=
    I.turnedNew (ch := [e, it]) (fun b ob hb q => (sb.2 b (fun z => hb (by simp [z]))).trans (hk b ob (fun z => hb (by simp [z])) (fun z => hb (by simp [z])) q)) hf (Nat.le_refl _) nw
  refine ⟨.ref s.heap.objs.size, _, I1, rfl, hy _ _ (I.hok.fresh (Nat.le_refl _)) rfl, nx h' h'' hst' (fun b o hb q => (sb.2 b hb).trans q) ⟨u, ?_⟩, fun b hb => ?_⟩
  · have e1 : ((i + 1 : Nat) : Int) = (i : Int) + 1 := by omega
    rw [e1]
    exact he'
  · have hb' : b < s.heap.objs.size := by
      have e' : b = e ∨ b = it := by simpa using hb
      rcases e' with z | z
      · rw [z]; exact hel
      · rw [z]; exact hil
    rw [upd_ne (Nat.ne_of_lt hb')]
    exact (hf b hb).1
theorem turn_enumS {P : Program} {w : World} {K : PySem.W.Frag} {elts : List Expr} {kk : Nat} {tpos : Pos} (x : Str) (t : Tok) (e it : Addr) :
    Turn P w K (.Tuple elts kk tpos) (ItES x) [e, it] e (fun i h => (∃ old, IsEnum h e it ((i : Nat) : Int) old) ∧ h.IsStrIter it (strIterType x) x t i ∧ e ≠ it) where
  mem := by simp
  obj := fun i h st b hb => by
    obtain ⟨⟨old, he⟩, ⟨o, ho, hc, hd⟩, _⟩ := st
    have e' : b = e ∨ b = it := by simpa using hb
    rcases e' with z | z
    · rw [z]
      exact ⟨_, he, fun v q => nomatch q⟩
    · rw [z]
      exact ⟨o, ho, fun v q => by rw [hd] at q; cases q⟩
  keep := fun i h h' st k => by
    obtain ⟨⟨old, he⟩, ⟨o, ho, r⟩, hne⟩ := st
    exact ⟨⟨old, k e (by simp) _ he⟩, ⟨o, k it (by simp) o ho, r⟩, hne⟩
  item := by
    intro X hP hw hK hc i pins s σ H E I hf st hg
    subst hP hw hK
    obtain ⟨he, hit, hne⟩ := st
    have hli : ∃ o, s.heap.get? it = some o := by
      obtain ⟨o, q, _⟩ := hit
      exact ⟨o, q⟩
    refine enum_turn (J := ItES x) (tn := fun i h => (∃ old, IsEnum h e it ((i : Nat) : Int) old) ∧ h.IsStrIter it (strIterType x) x t i ∧ e ≠ it) I (PySem.Draws.text (A := X.A.in1) (I.ok.hd hc) it x t) hf he hit hg hne (by simpa using hne) hli (fun u ⟨c, tu, hx, eu⟩ => ⟨.str ⟨#[c]⟩, ⟨tu, eu⟩, fun H' T hT eH => ⟨T, c, rfl, hT, eH, hx⟩⟩) fun h' h'' hs k hE => ?_
    obtain ⟨o, ho, r⟩ := hs
    exact ⟨hE, ⟨o, k it o (Ne.symm hne) ho, r⟩, hne⟩
  done := by
    intro X hP hw hK hc i pins s σ H E I hf st hg
    subst hP hw hK
    obtain ⟨⟨old, he⟩, hit, hne⟩ := st
    obtain ⟨f0, f1, f2, f3, f4, f5⟩ := hf it (by simp)
    have hg : i = x.cps.size := hg
    rw [hg] at hit
    exact wpAny_pyNext_enum_endD (PySem.Draws.text (A := X.A.in1) (I.ok.hd hc) it x t) he hit fun h' eb => ⟨rfl, I.turned (t' := s.toks) (fun b o hb q => eb b o hb q) f0 f1 f3 f4 f5⟩
  self := fun A i s Q E st h => let ⟨⟨_, he⟩, _⟩ := st; wpAny_pyIter_enum he h
theorem turn_enumT {P : Program} {w : World} {K : PySem.W.Frag} {elts : List Expr} {kk : Nat} {tpos : Pos} (a : Addr) (xs : List V) (e it : Addr) :
    Turn P w K (.Tuple elts kk tpos) (ItET a xs) [e, it] e (fun i h => (∃ old, IsEnum h e it ((i : Nat) : Int) old) ∧ h.IsTupleIter it a i ∧ e ≠ it) where
  mem := by simp
  obj := fun i h st b hb => by
    obtain ⟨⟨old, he⟩, ⟨o, ho, hc, hd⟩, _⟩ := st
    have e' : b = e ∨ b = it := by simpa using hb
    rcases e' with z | z
    · rw [z]
      exact ⟨_, he, fun v q => nomatch q⟩
    · rw [z]
      exact ⟨o, ho, fun v q => by rw [hd] at q; cases q⟩
  keep := fun i h h' st k => by
    obtain ⟨⟨old, he⟩, hi, hne⟩ := st
    exact ⟨⟨old, k e (by simp) _ he⟩, hi.at fun o q => k it (by simp) o q, hne⟩
  item := by
    intro X hP hw hK hc i pins s σ H E I hf st hg
    subst hP hw hK
    obtain ⟨he, hit, hne⟩ := st
    obtain ⟨ha, hlt⟩ := hg
    obtain ⟨its, rv, p, hz⟩ := I.tuple (.inl (.inl ha))
    have hl := rv.length
    have nat : ∀ b ∈ [e, it], a ≠ b := fun b hb z => by
      have q := (hf b hb).1
      rw [← z, ha] at q
      cases q
    have hli : ∃ o, s.heap.get? it = some o := by
      obtain ⟨o, q, _⟩ := hit
      exact ⟨o, q⟩
    have hp : s.heap.IsTuple a its.toArray := p
    refine enum_turn (J := ItET a xs) (tn := fun i h => (∃ old, IsEnum h e it ((i : Nat) : Int) old) ∧ h.IsTupleIter it a i ∧ e ≠ it) I (PySem.Draws.tuple (A := X.A.in1) (I.ok.hd hc) it a (nat it (by simp)) its.toArray) hf he ⟨hit, hp⟩ (by simpa [← hl] using hlt) hne (by simp only [List.mem_cons, List.mem_nil_iff, or_false, not_or]; exact ⟨hne, Ne.symm (nat e (by simp))⟩) hli (fun u hu => ?_) fun h' h'' hs k hE => ⟨hE, hs.1.at fun o q => k it o (Ne.symm hne) q, hne⟩
    obtain ⟨x, hx⟩ : ∃ x, xs[i]? = some x := ⟨_, List.getElem?_eq_getElem hlt⟩
    obtain ⟨u2, hu2, ru⟩ := rv.get hx
    have e2 : u2 = u := by
      have z : its.toArray[i]? = some u2 := by simpa using hu2
      exact Option.some.inj (z.symm.trans hu)
    subst e2
    exact ⟨x, ru, fun H' T hT eH => ⟨T, x, rfl, hT, eH, hx⟩⟩
  done := by
    intro X hP hw hK hc i pins s σ H E I hf st hg
    subst hP hw hK
    obtain ⟨⟨old, he⟩, hit, hne⟩ := st
    obtain ⟨ha, hlt⟩ := hg
    obtain ⟨its, rv, p, hz⟩ := I.tuple (.inl (.inl ha))
    have hl := rv.length
    obtain ⟨f0, f1, f2, f3, f4, f5⟩ := hf it (by simp)
    have nat : a ≠ it := fun z => by
      rw [← z, ha] at f0
      cases f0
    have hp : s.heap.IsTuple a its.toArray := p
    have ei : i = its.toArray.size := by
      rw [List.size_toArray, ← hl]
      exact hlt
    rw [ei] at hit
    exact wpAny_pyNext_enum_endD (PySem.Draws.tuple (A := X.A.in1) (I.ok.hd hc) it a nat its.toArray) he ⟨hit, hp⟩ fun h' eb => ⟨rfl, I.turned (t' := s.toks) (fun b o hb q => eb b o hb q) f0 f1 f3 f4 f5⟩
  self := fun A i s Q E st h => let ⟨⟨_, he⟩, _⟩ := st; wpAny_pyIter_enum he h
section
variable {X : Cx}
def iEnumS (ta : TA) : TI := fun σ H R => ta σ H fun vs H1 => ∃ x, vs = [.str x] ∧ R (ItES x) H1
theorem pi_enumS {e : Expr} {ta : TA} {p pos tpos : Pos} {elts : List Expr} {kk : Nat} (hg : Gl X "enumerate") (hm : X.mg "enumerate" = none) (ha : PA X [e] ta) (hs : starEach [e] X.env = [(false, eval e X.env)] := by rfl) :
    PI X (.Tuple elts kk tpos) (.Call (.Name "enumerate" p) [e] [] pos) (iEnumS ta) := by
  refine ⟨fun pins s σ H R I h => ?_⟩
  refine Call_ (ld_blt I hg hm boot_enumerate (PyProof.Rows.callWith_type1 (thn (ha.run pos pins s σ H _ I h) fun us s1 ⟨vs, H1, I1, r1, q1⟩ => ?_) hs rfl))
  obtain ⟨x, rfl, q⟩ := q1
  obtain ⟨u, rfl, t, rfl⟩ := vals1 r1
  refine call_enumerate_str fun h' he hit hsz hk => wpAny_pyIter_enum he ?_
  have I2 : Inv X pins σ H1 { s1 with heap := h' } := I1.kept (t' := s1.toks) hk
  refine ⟨s1.heap.objs.size + 1, [s1.heap.objs.size + 1, s1.heap.objs.size], _, _, H1, rfl, I2, turn_enumS x t (s1.heap.objs.size + 1) s1.heap.objs.size, ⟨⟨.none, he⟩, hit, Nat.succ_ne_self _⟩, fun b hb => ?_, q⟩
  have e' : b = s1.heap.objs.size + 1 ∨ b = s1.heap.objs.size := by simpa using hb
  have hle : s1.heap.objs.size ≤ b := by
    rcases e' with z | z
    · rw [z]; exact Nat.le_add_right _ _
    · rw [z]; exact Nat.le_refl _
  exact I1.fpOk hle (I1.hok.fresh hle)
def iEnumT (ta : TA) : TI := fun σ H R => ta σ H fun vs H1 => ∃ a xs, vs = [.ref a] ∧ H1 a = some (.tup xs) ∧ R (ItET a xs) H1
theorem walk_enumS {x : Str} : Walk (ItES x) x.cps.size (fun _ => True) (YPair (fun i => some (.int (i : Nat))) (fun i => x.cps[i]?.map fun c => .str ⟨#[c]⟩)) := by
  refine ⟨fun _ _ hi _ => hi, fun _ _ => rfl, fun i H v H' _ _ y => ?_⟩
  obtain ⟨T, c, h1, h2, h3, h4⟩ := y
  exact ⟨T, _, _, h1, h2, h3, rfl, by show x.cps[i]?.map _ = _; rw [h4]; rfl⟩
theorem walk_enumT {a : Addr} {xs : List V} : Walk (ItET a xs) xs.length (fun H => H a = some (.tup xs)) (YPair (fun i => some (.int (i : Nat))) (fun i => xs[i]?)) := by
  refine ⟨fun _ _ hi q => ⟨q, hi⟩, fun _ q => ⟨q, rfl⟩, fun i H v H' _ _ y => ?_⟩
  obtain ⟨T, x, h1, h2, h3, h4⟩ := y
  exact ⟨T, _, _, h1, h2, h3, rfl, h4⟩
end
/-- a dict comprehension over a walk -/
theorem dc_it {J : It} {n : Nat} {G : Hp → Prop} {Y : Nat → Hp → V → Hp → Prop} (w : Walk J n G Y) {g : TG} {tt : TT} {tk tv : TE} {vs : List Nat} {σ : St} {H1 : Hp} {D : Addr} {Qd : Hp → Prop} (Pv : Nat → Hp → Prop) (h0 : Pv 0 (upd H1 D (.dK []))) (hG : ∀ i H, i ≤ n → Pv i H → G H)
    (hs : ∀ i x H H', i < n → Pv i H → Y i H x H' → g x (wipe σ vs) H' fun σ2 H2 => wipe σ2 vs = wipe σ vs ∧ tt σ2 H2 fun b H3 =>
      if b = true then tk σ2 H3 fun y H4 => tv σ2 H4 fun z H5 => ∃ kvs k, y = kV k ∧ H5 D = some (.dK kvs) ∧ kvs.length < sizeLine ∧ Pv (i + 1) (upd H5 D (.dK (putK kvs k z))) else Pv (i + 1) H3) (hd : ∀ H, Pv n H → Qd H) :
    ∃ W : Nat → Nat → Hp → Prop, (∃ m, W 0 m (upd H1 D (.dK []))) ∧ ∀ i m H, W i m H →
      (J.stop i H ∧ Qd H) ∨ (J.go i H ∧ ∃ Nx : Hp → Prop, (∀ H', Nx H' → ∃ m', m' < m ∧ W (i + 1) m' H') ∧ ∀ x H', J.yld i H x H' → g x (wipe σ vs) H' fun σ2 H2 => wipe σ2 vs = wipe σ vs ∧ tt σ2 H2 fun b H3 =>
        if b = true then tk σ2 H3 fun y H4 => tv σ2 H4 fun z H5 => ∃ kvs k, y = kV k ∧ H5 D = some (.dK kvs) ∧ kvs.length < sizeLine ∧ Nx (upd H5 D (.dK (putK kvs k z))) else Nx H3) := by
  refine ⟨fun i m H => m + i = n ∧ Pv i H, ⟨n, rfl, h0⟩, fun i m H ⟨em, p⟩ => ?_⟩
  have q := hG i H (by omega) p
  rcases Nat.lt_or_ge i n with hlt | hge
  · exact .inr ⟨w.goes i H hlt q, Pv (i + 1), fun H' p' => ⟨n - (i + 1), by omega, by omega, p'⟩, fun x H' y => hs i x H H' hlt p (w.yields i H x H' hlt q y)⟩
  · obtain rfl : i = n := by omega
    exact .inl ⟨w.stops H q, hd H p⟩
end SK
namespace SK
open PySem PySem.Spec PyProof.Rows L2 LamX NdefX
/-- enumerate(v) with no start -/
theorem enum_new1 {v : Value} {o : Obj} {C : Heap → Prop} (B : Begins v o C) :
    Meets (Builtin.«enumerate.__new__» ⟨[.type "enumerate", v], []⟩) (fun _ R s => C s.heap ∧
      R (.ok (.ret (.ref (s.heap.push o).objs.size))) { s with heap := (s.heap.push o).push { cls := .type "enumerate", data := .fields #[.none, .bool false, .ref s.heap.objs.size, rawInt 0, .none, .none] } }) :=
  .of_wp fun prog w A R s h => by
    obtain ⟨hp, g, d, tk, os⟩ := s
    obtain ⟨h1, h⟩ := h
    have sub0 := sub_enumerate
    have it0 : ∀ {A' : Around} {E : Value → Shared → Prop} {Q : Value → Shared → Prop}, Q (.ref hp.objs.size) ⟨hp.push o, g, d, tk, os⟩ → wpAny (model prog w) A' (pyIter v) Q E ⟨hp, g, d, tk, os⟩ :=
      fun q => B.iter prog w _ _ ⟨hp, g, d, tk, os⟩ _ h1 q
    wp_walk using it0
    refine wpAny_stack_any fun st => wpAny_pure ?_
    split
    · rename_i c _ _ _ _ _
      cases (c == Value.type "enumerate")
      all_goals
        wp_walk using it0
        exact ⟨_, rfl, h⟩
    · wp_walk using it0
      exact ⟨_, rfl, h⟩
end SK
namespace SK
open PySem PySem.Spec PyProof.Rows L2 LamX NdefX
section
variable {prog : Program} {w : World} {A : Around} {E : Value → Shared → Prop} {s : Shared}
theorem enum_tuple {a : Addr} {items : Array Value} {Q : Value → Shared → Prop} (ht : s.heap.IsTuple a items)
    (h : ∀ h', IsEnum h' (s.heap.objs.size + 1) s.heap.objs.size 0 .none → h'.IsTupleIter s.heap.objs.size a 0 → (∀ b o, s.heap.get? b = some o → h'.get? b = some o) → Q (.ref (s.heap.objs.size + 1)) { s with heap := h' }) :
    wpAny (model prog w) A (call (.type "enumerate") [.ref a]) Q E s := by
  refine callType_new F.called_enumerate (by decide) (F.typeCall_enumerate_1 _) (F.newCall_enumerate_1 _) (fun obj => F.args_object_init_2 obj _) F.entry_enumerate_new (enum_new1 (begins_tuple a items)) ⟨ht, ?_⟩
  generalize ho : ({ cls := .type "tuple_iterator", data := .fields #[.ref a, .int 0 0] } : Obj) = o
  have hfr : o.isFreed = false := by
    rw [← ho]
    rfl
  have hz : (s.heap.push o).objs.size = s.heap.objs.size + 1 := Heap.size_push ..
  show _ ∧ _
  rw [hz]
  have he : IsEnum ((s.heap.push o).push { cls := .type "enumerate", data := .fields #[.none, .bool false, .ref s.heap.objs.size, rawInt 0, .none, .none] }) (s.heap.objs.size + 1) s.heap.objs.size 0 .none := by
    have q := Heap.get?_push_size (s.heap.push o) (o := { cls := .type "enumerate", data := .fields #[.none, .bool false, .ref s.heap.objs.size, rawInt 0, .none, .none] }) rfl
    rw [hz] at q
    exact q
  have hi : (s.heap.push o).get? s.heap.objs.size = some o := Heap.get?_push_size _ hfr
  refine ⟨⟨_, he, rfl⟩, h _ he ⟨o, Heap.get?_push_of_some _ hi, by rw [← ho], by rw [← ho]; rfl⟩ fun b u q => Heap.get?_push_of_some _ (Heap.get?_push_of_some _ q)⟩
end
section
variable {X : Cx}
theorem pi_enumT {e : Expr} {ta : TA} {p pos tpos : Pos} {elts : List Expr} {kk : Nat} (hg : Gl X "enumerate") (hm : X.mg "enumerate" = none) (ha : PA X [e] ta) (hs : starEach [e] X.env = [(false, eval e X.env)] := by rfl) :
    PI X (.Tuple elts kk tpos) (.Call (.Name "enumerate" p) [e] [] pos) (iEnumT ta) := by
  refine ⟨fun pins s σ H R I h => ?_⟩
  refine Call_ (ld_blt I hg hm boot_enumerate (PyProof.Rows.callWith_type1 (thn (ha.run pos pins s σ H _ I h) fun us s1 ⟨vs, H1, I1, r1, q1⟩ => ?_) hs rfl))
  obtain ⟨a, xs, rfl, hq, q⟩ := q1
  obtain ⟨u, rfl, ru⟩ := vals1 r1
  obtain rfl : u = Value.ref a := ru
  obtain ⟨its, rv, pt, hz⟩ := I1.tuple (.inl (.inl hq))
  have pt' : s1.heap.IsTuple a its.toArray := pt
  refine enum_tuple pt' fun h' he hit hk => wpAny_pyIter_enum he ?_
  have I2 : Inv X pins σ H1 { s1 with heap := h' } := I1.kept (t' := s1.toks) hk
  refine ⟨s1.heap.objs.size + 1, [s1.heap.objs.size + 1, s1.heap.objs.size], _, _, H1, rfl, I2, turn_enumT a xs (s1.heap.objs.size + 1) s1.heap.objs.size, ⟨⟨.none, he⟩, hit, Nat.succ_ne_self _⟩, fun b hb => ?_, q⟩
  have hle : s1.heap.objs.size ≤ b := by
    simp only [List.mem_cons, List.mem_nil_iff, or_false] at hb
    rcases hb with z | z
    · rw [z]; exact Nat.le_add_right _ _
    · rw [z]; exact Nat.le_refl _
  exact I1.fpOk hle (I1.hok.fresh hle)
/-- y = {k: v for .. in ..}, y a local name -/
theorem ps_setDc {i : Nat} {y : Str} {py : Pos} {kx vx tg iter : Expr} {ifs : List Expr} {scope : Scope} {own : List (Str × Nat)} {pos spos : Pos} {wi : TI} {g : TG} {tt : TT} {tk tv : TE} (hc : X.calm = true) (hN : X.N.Nodup) (hy : X.N[i]? = some y) (hyl : X.env.scope.names.lookup y = some .local)
    (hsw : swapsWith (.DictComp kx vx [⟨tg, iter, ifs, 0⟩] scope pos) (some (.Name y py)) spos.line X.env = pure true) (hi : PI X tg iter wi) (ok : BlkOk X.N X.env.scope scope own)
    (hg : ∀ (s : Shared) (H : Hp) (C : Addr) (cl : List (Str × Addr)) (fp : List Addr), PG (X.blk s H scope (compEnvC scope cl C X.env) fp) tg g) (ht : ∀ (s : Shared) (H : Hp) (C : Addr) (cl : List (Str × Addr)) (fp : List Addr), PTs (X.blk s H scope (compEnvC scope cl C X.env) fp) ifs tt)
    (hk : ∀ (s : Shared) (H : Hp) (C : Addr) (cl : List (Str × Addr)) (fp : List Addr), PE (X.blk s H scope (compEnvC scope cl C X.env) fp) kx tk)
    (he : ∀ (s : Shared) (H : Hp) (C : Addr) (cl : List (Str × Addr)) (fp : List Addr), PE (X.blk s H scope (compEnvC scope cl C X.env) fp) vx tv) (hs : ∀ x, foldedSetIterable iter X.env x = pure x := by intro _; rfl) :
    PS X (.Assign [.Name y py] (.DictComp kx vx [⟨tg, iter, ifs, 0⟩] scope pos) spos) (tAsg (tDc wi g tt tk tv (own.map (·.2))) (gName i)) := by
  refine ⟨fun pins s σ H D I h => ?_⟩
  rw [exec_Assign_Name_used _ _ _ _ hsw]
  refine wpAny_bind (wpAny_standAt (wpAny_bind ?_))
  show wpAny _ X.A (do let _ ← comprehension (.DictComp kx vx [⟨tg, iter, ifs, 0⟩] scope pos) scope X.env (firstIterPos [⟨tg, iter, ifs, 0⟩] pos) newDict false (eval iter X.env) (some (assign (.Name y py) X.env))) _ _ s
  have hh : tDc wi g tt tk tv (own.map (·.2)) σ H (fun x H1 => gName i x σ H1 D.nx) := h
  refine wpAny_bind (thn (dc_core (Qf := fun _ s' => SP X pins D .next s') hc hN I hi ok hg ht hk he hs hh fun L C s' m H' I' q hn f => ?_) fun _ s' hq => wpAny_pure (wpAny_pure hq))
  show wpAny _ _ (assign (.Name y py) X.env (.ref L)) _ _ _
  refine wpAny_assign_Name (store_ok2 (v := V.ref L) I' hN hy (.inl hyl) rfl (fun s2 I2 ⟨a, sb, ha⟩ => ?_) (.inr hyl))
  obtain ⟨f0, f1, f2, f3, f4, f5⟩ := f
  have haC : C ≠ a := ha.elim (fun z => by rw [z]; exact f1) fun z e => f4 y a z e.symm
  refine ⟨m, hn.sameBut sb haC, fun h3 sb3 => ?_⟩
  exact ⟨_, H', I2.turned (t' := s2.toks) (fun b o hb e => (sb3.2 b hb).trans e) f0 f1 f3 f4 f5, q⟩
theorem swD_true {kx vx : Expr} {gs : List Comprehension} {scope : Scope} {pos py : Pos} {y : Str} {l : Nat} {env : Env} (hk : env.scope.kind = .function) (hy : env.scope.names.lookup y = some .local) (hl : (py.line == pos.line) = true)
    (ha : (scope.names.any fun (n, k) => n == y && (k == .local || k == .cell)) = false) : swapsWith (.DictComp kx vx gs scope pos) (some (.Name y py)) l env = pure true := by
  have ky : env.kindOf y = some .local := hy
  have hb : env.blockKind = .function := by
    unfold Env.blockKind
    rw [hk]
    rfl
  unfold swapsWith
  simp only [hb, ky, ha, Expr.pos, hl]
  rfl
end
end SK
namespace SK
open PySem PySem.Spec PyProof.Rows L2 LamX NdefX
open K0 (De DeAll XCl spX withX)
/-! ### dicts whose keys are tuples of bools, ints, texts; each value is True -/
abbrev Lf := PySem.Leaf
inductive LfV : Lf → V → Prop
  | int (i : Int) : LfV (.num i) (.int i)
  | bl (b : Bool) : LfV (.num (if b = true then 1 else 0)) (.bl b)
  | str (x : Str) : LfV (.text x) (.str x)
  | non : LfV .none .non
theorem LfV.is {k : Lf} {v : V} {u : Value} (h : LfV k v) (r : RelV v u) : Leaf.isOf k u = true := by
  cases h with
  | int i =>
    obtain ⟨t, rfl⟩ := (show ∃ t, u = Value.int i t from r)
    exact decide_eq_true rfl
  | bl b =>
    obtain rfl : u = Value.bool b := r
    exact decide_eq_true rfl
  | str x =>
    obtain ⟨t, rfl⟩ := (show ∃ t, u = Value.str x t from r)
    show Value.isStrOf x (.str x t) = true
    simp [Value.isStrOf]
  | non =>
    obtain rfl : u = Value.none := r
    rfl
def LfVs : List Lf → List V → Prop := Paired LfV
def KeyT (H : Hp) (b : Addr) (k : List Lf) : Prop := ∃ vs : List V, H b = some (.tup vs) ∧ LfVs k vs
theorem KeyT.same {H H' : Hp} {b : Addr} {k : List Lf} (h : KeyT H b k) (s : ∀ c xs, H c = some (.tup xs) → H' c = some (.tup xs)) : KeyT H' b k := by
  obtain ⟨vs, h1, h2⟩ := h
  exact ⟨vs, s _ _ h1, h2⟩
theorem lf_items {P : Program} {w : World} : ∀ {k : List Lf} {vs : List V} {us : List Value}, LfVs k vs → Vals vs us → ItemsAre (leafKind P w) k us
  | [], _, _, .nil, r => by
    cases r
    exact .nil
  | _ :: _, _, _, .cons h t, r => by
    cases r with
    | cons r1 r2 => exact .cons (h.is r1) (lf_items t r2)
theorem key_ofL {P : Program} {w : World} {H : Hp} {h : Heap} {b : Addr} {k : List Lf} (ok : HOk P w H h) (e : KeyT H b k) : (tupleKind (leafKind P w)).is h k b := by
  obtain ⟨vs, e1, e2⟩ := e
  obtain ⟨_, its, r, o, h1, h2, n, h3⟩ := (show ObjOk P w H h b (.tup vs) from ok b _ e1)
  exact ⟨o, its.toArray, n, h1, h2, h3, by simpa using lf_items e2 r⟩
def dlx (ks : List (List Lf × Addr)) : List (List Lf × Addr × Value) := ks.map fun p => (p.1, p.2, Value.bool true)
def DLo (P : Program) (w : World) (a : Addr) (ks : List (List Lf × Addr)) : HO := .ext fun h => ∃ o es ep, h.get? a = some o ∧ o.ExactDict ∧ o.data = .dict es ep ∧ es.toList = (dlx ks).map (entryOfKey (tupleKind (leafKind P w)))
structure DL (P : Program) (w : World) (H : Hp) (a : Addr) (ks : List (List Lf × Addr)) : Prop where
  o : H a = some (DLo P w a ks)
  nd : (ks.map (·.1)).Nodup
  sz : ks.length ≤ 1000
  lo : (a == sysModules) = false
  tr : ∀ p ∈ ks, KeyT H p.2 p.1
theorem DL.same {P : Program} {w : World} {H H' : Hp} {a : Addr} {ks : List (List Lf × Addr)} (d : DL P w H a ks) (s : Same H H') : DL P w H' a ks := ⟨s _ _ d.o, d.nd, d.sz, d.lo, fun p hp => (d.tr p hp).same fun c xs e => s _ _ e⟩
theorem dlx_fst (ks : List (List Lf × Addr)) : (dlx ks).map (·.1) = ks.map (·.1) := by
  unfold dlx
  rw [List.map_map]
  rfl
theorem dlx_len (ks : List (List Lf × Addr)) : (dlx ks).length = ks.length := by
  unfold dlx
  rw [List.length_map]
theorem atKey_dlx (ks : List (List Lf × Addr)) (k : List Lf) : (atKey (dlx ks) k).isSome = decide (k ∈ ks.map (·.1)) := by
  unfold atKey dlx
  rw [Option.isSome_map, List.find?_map, Option.isSome_map, Bool.eq_iff_iff, List.find?_isSome, decide_eq_true_eq]
  constructor
  · rintro ⟨p, hp, e⟩
    exact List.mem_map.mpr ⟨p, hp, of_decide_eq_true e⟩
  · intro c
    obtain ⟨p, hp, e⟩ := List.mem_map.mp c
    exact ⟨p, hp, decide_eq_true e⟩
section
variable {X : Cx} {pins : List (Addr × Obj)} {σ : St} {H : Hp} {s : Shared} {a : Addr} {ks : List (List Lf × Addr)}
theorem DL.dict (I : Inv X pins σ H s) (d : DL X.prog X.w H a ks) : s.heap.DictOfH (tupleKind (leafKind X.prog X.w)) a (dlx ks) := by
  obtain ⟨⟨o, es, ep, h1, h2, h3, h4⟩, _⟩ := (show ObjOk X.prog X.w H s.heap a (DLo X.prog X.w a ks) from I.hok a _ d.o)
  refine ⟨o, es, ep, h1, h2, h3, h4, fun x hx => ?_, by rw [dlx_fst]; exact d.nd⟩
  obtain ⟨p, hp, rfl⟩ := List.mem_map.mp hx
  exact key_ofL I.hok (d.tr p hp)
theorem dl_ok {P : Program} {w : World} {H : Hp} {h : Heap} {a : Addr} {ks : List (List Lf × Addr)} {o : Obj} {es : Array DictEntry} {ep : Nat} (h1 : h.get? a = some o) (h2 : o.ExactDict) (h3 : o.data = .dict es ep) (h4 : es.toList = (dlx ks).map (entryOfKey (tupleKind (leafKind P w)))) : ObjOk P w H h a (DLo P w a ks) :=
  ⟨⟨o, es, ep, h1, h2, h3, h4⟩, ⟨o, h1⟩, fun g1 g2 ⟨o, es, ep, e1, e2, e3, e4⟩ k => ⟨o, es, ep, k _ e1, e2, e3, e4⟩⟩
/-- {} -/
def tDNewL (P : Program) (w : World) : TE := fun _ H Q => ∀ d, H d = none → DL P w (upd H d (DLo P w d [])) d [] → Q (.ref d) (upd H d (DLo P w d []))
theorem pe_dnewL {pos : Pos} : PE X (.Dict [] [] pos) (tDNewL X.prog X.w) := ⟨fun pins s σ H Q I h => by
  have hm : (s.heap.objs.size == sysModules) = false := beq_eq_false_iff_ne.mpr (Nat.ne_of_gt I.big)
  exact wpAny_Dict_empty ⟨.ref s.heap.objs.size, _, I.laid (a := s.heap.objs.size) (o := DLo X.prog X.w s.heap.objs.size []) (t' := s.toks) (fun _ _ q => Heap.get?_push_of_some _ q) (Nat.le_refl _) (dl_ok (Heap.get?_push_size _ rfl) ⟨rfl, rfl, rfl⟩ rfl rfl), rfl,
    h _ (I.hok.fresh (Nat.le_refl _)) ⟨upd_same, List.nodup_nil, Nat.zero_le _, hm, fun p hp => nomatch hp⟩⟩⟩
/-- k in d -/
def tDInL (P : Program) (w : World) (ty td : TE) : TE := fun σ H Q => ty σ H fun y H1 => td σ H1 fun x H2 => ∃ a ks k b, x = .ref a ∧ DL P w H2 a ks ∧ y = .ref b ∧ KeyT H2 b k ∧ Q (.bl (decide (k ∈ ks.map (·.1)))) H2
theorem pc_dinL {i o : Expr} {ty td : TE} (hu : X.A.units + 1 < cLine) (hi : PE X i ty) (ho : PE X o td) : PC X .In i o (tDInL X.prog X.w ty td) := by
  refine ⟨fun pins s σ H Q I h => ?_⟩
  refine thn (hi.run pins s σ H _ I h) fun iv s1 ⟨y, H1, I1, ry, q1⟩ => thn (ho.run pins s1 σ H1 _ I1 q1) fun u s2 ⟨x, H2, I2, rx, a, ks, k, b, ex, d, ey, hk, q2⟩ => ?_
  subst ex ey
  obtain rfl : u = Value.ref a := rx
  obtain rfl : iv = Value.ref b := ry
  refine wpAny_in_heap (tupleKind_room_in1 hu) (key_ofL I2.hok hk) d.lo (d.dict I2) ?_
  rw [atKey_dlx]
  exact ⟨.bl _, H2, I2.tok _, rfl, q2⟩
/-- d[k] = True, k a new key -/
def sDPutL (P : Program) (w : World) (td ty tv : TE) : TS := fun D σ H => tv σ H fun v H1 => td σ H1 fun x H2 => ty σ H2 fun y H3 => ∃ a ks k b, x = .ref a ∧ DL P w H3 a ks ∧ y = .ref b ∧ KeyT H3 b k ∧ v = .bl true ∧ k ∉ ks.map (·.1) ∧ ks.length < 1000 ∧
  (DL P w (upd H3 a (DLo P w a (ks ++ [(k, b)]))) a (ks ++ [(k, b)]) → D.nx σ (upd H3 a (DLo P w a (ks ++ [(k, b)]))))
theorem ps_dputL {i o value : Expr} {ty td tv : TE} {pos pos' : Pos} (hu : X.A.units + 1 < cLine) (ho : PE X o td) (hi : PE X i ty) (hv : PE X value tv) (hs : swapsWith value (some (.Subscript o i pos')) pos.line X.env = pure false) :
    PS X (.Assign [.Subscript o i pos'] value pos) (sDPutL X.prog X.w td ty tv) := by
  refine ⟨fun pins s σ H D I h => ?_⟩
  refine wpAny_Assign_Subscript (thn (hv.run pins s σ H _ I h) fun r s1 ⟨v, H1, I1, rv, q1⟩ => thn (ho.run pins s1 σ H1 _ I1 q1) fun u s2 ⟨x, H2, I2, rx, q2⟩ => thn (hi.run pins s2 σ H2 _ I2 q2) fun iv s3 ⟨y, H3, I3, ry, a, ks, k, b, ex, d, ey, hk, ev, hn, hz, q3⟩ => ?_) hs
  subst ex ey ev
  obtain rfl : u = Value.ref a := rx
  obtain rfl : iv = Value.ref b := ry
  obtain rfl : r = Value.bool true := rv
  have z : (dlx ks).length ≤ sizeLine := by
    rw [dlx_len]
    exact Nat.le_trans d.sz (by decide)
  refine wpAny_setItem_heap (hsz := z) (tupleKind_room_in1 hu) (key_ofL I3.hok hk) (d.dict I3) fun h' dd' hs => ?_
  have hat : atKey (dlx ks) k = none := by
    have z := atKey_dlx ks k
    rw [decide_eq_false hn] at z
    exact Option.isNone_iff_eq_none.mp (by rw [← Option.not_isSome, z]; rfl)
  rw [storedH_new hat] at dd'
  obtain ⟨q, es, ep, hq, h2, h3, h4, _, h5⟩ := dd'
  have h4' : es.toList = (dlx (ks ++ [(k, b)])).map (entryOfKey (tupleKind (leafKind X.prog X.w))) := by
    rw [h4]
    unfold dlx
    simp only [List.map_append]
    rfl
  have nx : ∀ c xs, H3 c = some (.tup xs) → upd H3 a (DLo X.prog X.w a (ks ++ [(k, b)])) c = some (.tup xs) := fun c xs e => by
    rw [upd_ne (ne_of e d.o (fun z => nomatch z))]
    exact e
  refine ⟨σ, _, d_write (t' := _) I3 (by rw [d.o]; exact True.intro) hs ⟨q, hq⟩ (dl_ok hq h2 h3 h4'), q3 ⟨upd_same, ?_, ?_, d.lo, fun p hp => ?_⟩⟩
  · rw [List.map_append]
    refine List.nodup_append.mpr ⟨d.nd, by simp, fun x hx y hy e => ?_⟩
    obtain rfl : y = k := by simpa using hy
    exact hn (e ▸ hx)
  · rw [List.length_append]
    show ks.length + 1 ≤ 1000
    omega
  · rcases List.mem_append.mp hp with hp | hp
    · exact (d.tr p hp).same nx
    · obtain rfl : p = (k, b) := by simpa using hp
      exact hk.same nx
end
end SK
namespace SK
open PySem PySem.Spec PyProof.Rows L2 LamX NdefX
open K0 (De DeAll XCl spX withX)
/-! ### sorted of such a dict -/
def rSortDL (P : Program) (w : World) (K : PySem.W.Frag) : List V → Hp → VK → Prop := fun xs H Q => ∃ (a : Addr) (ks : List (List Lf × Addr)) (enc : Addr → PyData), xs = [.ref a] ∧ DL P w H a ks ∧ (∀ p ∈ ks, De K H (.ref p.2) (enc p.2)) ∧ PySem.W.AllAlike ((ks.map (·.2)).map enc) ∧ PySem.W.Sortable ((ks.map (·.2)).map enc) ∧ (∀ p ∈ ks, (enc p.2).depth ≤ 8) ∧
  ∀ p, H p = none → Q (.ref p) (upd H p (.lst (((ks.map (·.2)).mergeSort (PySem.W.dataLe false enc)).map V.ref)))
theorem refs_to : ∀ {us : List Value} {bs : List Addr}, PySem.W.EachIs (fun v b => v = Value.ref b) us bs → Vals (bs.map V.ref) us
  | _, _, .nil => .nil
  | _, _, .cons h1 h2 => .cons h1 (refs_to h2)
theorem each_at {R : Value → Addr → Prop} : ∀ {us : List Value} {bs : List Addr}, us.length = bs.length → (∀ (i : Nat) (v : Value) (b : Addr), us[i]? = some v → bs[i]? = some b → R v b) → PySem.W.EachIs R us bs
  | [], [], _, _ => .nil
  | u :: us, b :: bs, hl, h => .cons (h 0 u b rfl rfl) (each_at (by simpa using hl) fun i v c hv hc => h (i + 1) v c (by simpa using hv) (by simpa using hc))
  | [], _ :: _, hl, _ => by simp at hl
  | _ :: _, [], hl, _ => by simp at hl
theorem cr_sortDL {X : Cx} (hcalm : X.calm = true) (hu : X.A.units + 64 < cLine) (hsys : ∃ o, X.K.lookup sysModules = some o) : CallR X (.builtin "sorted") (rSortDL X.prog X.w X.K) := by
  intro pins s σ H xs us Q I r h
  obtain ⟨a, ks, enc, rfl, d, hd, hal, hsk, hdp, q⟩ := h
  obtain ⟨u, rfl, ru⟩ := vals1 r
  obtain rfl : u = Value.ref a := ru
  obtain ⟨oS, hoS⟩ := hsys
  have hs : H sysModules = none := (I.bs _ _ (I.ok.mod.kin _ _ hoS)).2
  obtain ⟨⟨o, es, ep, h1, h2, h3, h4⟩, _⟩ := (show ObjOk X.prog X.w H s.heap a (DLo X.prog X.w a ks) from I.hok a _ d.o)
  have raw : s.heap.DictRaw a es ep := ⟨o, h1, h2, h3⟩
  have hsz : es.size = ks.length := by
    have z := congrArg List.length h4
    rw [Array.length_toList, List.length_map, dlx_len] at z
    exact z
  have hz : es.size ≤ sizeLine := by
    rw [hsz]
    exact Nat.le_trans d.sz (by decide)
  refine Calls.call_function_entry PyProof.Rows.kind_sorted PyProof.Rows.plain_sorted PyProof.Rows.entry_sorted (PyProof.Rows.args_sorted1 _) ?_
  unfold Builtin.«sorted»
  refine wpAny_bind (m := checkCount "sorted" 1 1 _) (wpAny_pure ?_)
  refine wpAny_bind (PySem.W.kdu_collect (A := X.A.in1) (KdlSrc.rawDict d.lo) (I.ok.hd hcalm) raw hz fun h' tk acc hk hacc => ?_)
  have e : PySem.W.EachIs (fun v b => v = Value.ref b) acc.toList (ks.map (·.2)) := each_at (by rw [Array.length_toList, hacc.1, hsz, List.length_map]) fun i v b hv hb => by
    obtain ⟨hi, ev⟩ := hacc.2 i v (by rw [← Array.getElem?_toList]; exact hv)
    have ee : es.toList[i]? = some es[i] := by
      rw [Array.getElem?_toList]
      exact Array.getElem?_eq_getElem hi
    rw [h4, List.getElem?_map] at ee
    unfold dlx at ee
    rw [List.getElem?_map] at ee
    rw [List.getElem?_map] at hb
    cases z : ks[i]? with
    | none =>
      rw [z] at hb
      cases hb
    | some p =>
      rw [z] at hb ee
      have hb := Option.some.inj hb
      have ee := Option.some.inj ee
      rw [ev, ← ee, ← hb]
      rfl
  have I1 : Inv X pins σ H { s with heap := h', toks := tk } := I.kept hk
  have hal2 : acc.toList.length ≤ sizeLine := by
    rw [Array.length_toList, hacc.1]
    exact hz
  refine wpAny_bind (wpAny_newList ?_ hal2)
  have hoL : (h'.push (seqObj "list" acc.toList.toArray 0)).get? h'.objs.size = some (seqObj "list" acc.toList.toArray 0) := Heap.get?_push_size _ rfl
  show wpAny _ _ _ _ _ { s with heap := h'.push (seqObj "list" acc.toList.toArray 0), toks := tk }
  have er : PySem.W.EachIs (fun v b => ∃ as, Reads (PySem.W.sortingHeap (h'.push (seqObj "list" acc.toList.toArray 0)) h'.objs.size acc.toList) v (enc b) as) acc.toList (ks.map (·.2)) := by
    have z : ∀ {us : List Value} {bs : List Addr}, PySem.W.EachIs (fun v b => v = Value.ref b) us bs → (∀ b ∈ bs, De X.K H (.ref b) (enc b)) → PySem.W.EachIs (fun v b => ∃ as, Reads (PySem.W.sortingHeap (h'.push (seqObj "list" acc.toList.toArray 0)) h'.objs.size acc.toList) v (enc b) as) us bs := fun {us bs} ee => by
      induction ee with
      | nil => exact fun _ => .nil
      | cons h1 h2 ih =>
        intro hh
        obtain ⟨as, hr, _⟩ := K0.de_reads I1 hs _ _ _ (hh _ (by simp)) (show RelV (V.ref _) _ from h1)
        refine .cons ⟨as, PyProof.Rows.Reads.keeps (fun b ob z => ?_) hr⟩ (ih fun b hb => hh b (List.mem_cons_of_mem _ hb))
        have hlt : b < h'.objs.size := Heap.lt_size z
        exact PySem.W.sortingHeap_old (Nat.ne_of_lt hlt) (Heap.get?_push_of_some _ z)
    exact z e fun b hb => by
      obtain ⟨p, hp, rfl⟩ := List.mem_map.mp hb
      exact hd p hp
  have S : PySem.W.SortsAt X.prog X.w X.A.in1.in1 { s with heap := PySem.W.sortingHeap (h'.push (seqObj "list" acc.toList.toArray 0)) h'.objs.size acc.toList, toks := tk } _ acc.toList := PySem.W.SortsAt.data (s := { s with heap := PySem.W.sortingHeap (h'.push (seqObj "list" acc.toList.toArray 0)) h'.objs.size acc.toList, toks := tk }) (PySem.W.each_map (R := fun v d => ∃ as, Reads (PySem.W.sortingHeap (h'.push (seqObj "list" acc.toList.toArray 0)) h'.objs.size acc.toList) v d as) enc er) hal hsk (PySem.W.bound_map fun b hb => by
      obtain ⟨p, hp, rfl⟩ := List.mem_map.mp hb
      have := hdp p hp
      show X.A.units + 2 + _ < cLine
      omega)
  refine wpAny_bind (wpAny_holding (wpAny_call_entry PyProof.Rows.slot_list_sort ⟨_, hoL, rfl⟩ PyProof.Rows.entry_list_sort ?_ (PyProof.Rows.args_list_sort _)))
  refine PySem.W.list_sort_vals (s := { s with heap := h'.push (seqObj "list" acc.toList.toArray 0), toks := tk }) hoL S hal2 ⟨_, rfl, ?_⟩
  have eo := PySem.W.sortVals_data (R := fun v b => v = Value.ref b) false e er hal
  generalize hout : PySem.W.sortVals _ false acc.toList acc.toList = out at eo
  obtain ⟨e', he'⟩ := PyProof.Rows.sortedHeap_at (vs := acc.toList) (out := out.toArray) hoL
  have hlen : (((ks.map (·.2)).mergeSort (PySem.W.dataLe false enc)).map V.ref).length ≤ sizeLine := by
    rw [List.length_map, List.length_mergeSort, List.length_map]
    exact Nat.le_trans d.sz (by decide)
  refine wpAny_pure ⟨_, rfl, .ref h'.objs.size, upd H h'.objs.size (.lst (((ks.map (·.2)).mergeSort (PySem.W.dataLe false enc)).map V.ref)), ?_, rfl, q _ (I1.hok.fresh (Nat.le_refl _))⟩
  refine I1.laid (t' := tk) (fun b u e => ?_) (Nat.le_refl _) (show ObjOk X.prog X.w _ _ _ (.lst _) from ⟨hlen, out, e', refs_to eo, he'⟩)
  have hb : b < h'.objs.size := Heap.lt_size e
  rw [PyProof.Rows.sortedHeap_old (Nat.ne_of_lt hb) (by rw [size_push']; exact Nat.lt_succ_of_lt hb)]
  exact Heap.get?_push_of_some _ e
end SK
namespace SK
open PySem PySem.Spec PyProof.Rows L2 LamX NdefX
open K0 (De DeAll XCl spX withX)
/-! ### dicts whose keys are bools, ints, texts, None by value (True is 1) -/
def DBo (P : Program) (w : World) (a : Addr) (kvs : List (Lf × V)) : HO := .ext fun h => ∃ vs, KV kvs vs ∧ h.DictOf (leafKind P w) a vs
structure DB (P : Program) (w : World) (H : Hp) (a : Addr) (kvs : List (Lf × V)) : Prop where
  o : H a = some (DBo P w a kvs)
  sz : kvs.length ≤ 1000
  lo : (a == sysModules) = false
theorem DB.same {P : Program} {w : World} {H H' : Hp} {a : Addr} {kvs : List (Lf × V)} (d : DB P w H a kvs) (s : Same H H') : DB P w H' a kvs := ⟨s _ _ d.o, d.sz, d.lo⟩
theorem db_ok {P : Program} {w : World} {H : Hp} {h : Heap} {a : Addr} {kvs : List (Lf × V)} {vs : List (Lf × Value)} (rel : KV kvs vs) (dd : h.DictOf (leafKind P w) a vs) : ObjOk P w H h a (DBo P w a kvs) := by
  obtain ⟨o, es, ep, h1, h2⟩ := id dd
  refine ⟨⟨vs, rel, dd⟩, ⟨o, h1⟩, fun g1 g2 ⟨vs2, rel2, o, es, ep, e1, e2⟩ k => ⟨vs2, rel2, o, es, ep, k _ e1, e2⟩⟩
def LGet (P : Program) (w : World) (H : Hp) (a : Addr) (y : V) (r : Option V) : Prop := ∃ kvs k, DB P w H a kvs ∧ LfV k y ∧ r = valV kvs k
section
variable {X : Cx} {pins : List (Addr × Obj)} {σ : St} {H : Hp} {s : Shared} {a : Addr} {kvs : List (Lf × V)}
theorem DB.dict (I : Inv X pins σ H s) (d : DB X.prog X.w H a kvs) : ∃ vs, KV kvs vs ∧ s.heap.DictOf (leafKind X.prog X.w) a vs := by
  obtain ⟨h, _⟩ := (show ObjOk X.prog X.w H s.heap a (DBo X.prog X.w a kvs) from I.hok a _ d.o)
  exact h
/-- {} -/
def tDNewB (P : Program) (w : World) : TE := fun _ H Q => ∀ d, H d = none → DB P w (upd H d (DBo P w d [])) d [] → Q (.ref d) (upd H d (DBo P w d []))
theorem pe_dnewB {pos : Pos} : PE X (.Dict [] [] pos) (tDNewB X.prog X.w) := ⟨fun pins s σ H Q I h => by
  have hm : (s.heap.objs.size == sysModules) = false := beq_eq_false_iff_ne.mpr (Nat.ne_of_gt I.big)
  exact wpAny_Dict_empty ⟨.ref s.heap.objs.size, _, I.laid (a := s.heap.objs.size) (o := DBo X.prog X.w s.heap.objs.size []) (t' := s.toks) (fun _ _ q => Heap.get?_push_of_some _ q) (Nat.le_refl _) (db_ok .nil (Heap.DictOf.new s.heap)), rfl,
    h _ (I.hok.fresh (Nat.le_refl _)) ⟨upd_same, Nat.zero_le _, hm⟩⟩⟩
/-- k in d, d[k], d.get(k), d.get(k, x) -/
def tLIn (P : Program) (w : World) (ty td : TE) : TE := fun σ H Q => ty σ H fun y H1 => td σ H1 fun x H2 => ∃ a o, x = .ref a ∧ LGet P w H2 a y o ∧ Q (.bl o.isSome) H2
theorem pc_lin {i o : Expr} {ty td : TE} (hi : PE X i ty) (ho : PE X o td) : PC X .In i o (tLIn X.prog X.w ty td) := by
  refine ⟨fun pins s σ H Q I h => ?_⟩
  refine thn (hi.run pins s σ H _ I h) fun iv s1 ⟨y, H1, I1, ry, q1⟩ => thn (ho.run pins s1 σ H1 _ I1 q1) fun u s2 ⟨x, H2, I2, rx, a, ov, ex, ⟨kvs, k, d, hk, l⟩, q2⟩ => ?_
  subst ex
  obtain rfl : u = Value.ref a := rx
  obtain ⟨vs, rel, dd⟩ := d.dict I2
  refine wpAny_in_of (knd := leafKind X.prog X.w) (hk.is ry) d.lo dd.mapOf ?_
  rw [← (rel.val k).isSome_eq, ← l]
  exact ⟨.bl ov.isSome, H2, I2.tok _, rfl, q2⟩
def tLGet (P : Program) (w : World) (td ty : TE) : TE := fun σ H Q => td σ H fun x H1 => ty σ H1 fun y H2 => ∃ a v, x = .ref a ∧ LGet P w H2 a y (some v) ∧ Q v H2
theorem pe_lget {o i : Expr} {td ty : TE} {pos : Pos} (ho : PE X o td) (hi : PE X i ty) (hs : NoSl i) : PE X (.Subscript o i pos) (tLGet X.prog X.w td ty) := by
  refine ⟨fun pins s σ H Q I h => ?_⟩
  refine subD_of PySem.F.slot_dict_getitem.lookup hs (thn (ho.run pins s σ H _ I h) fun u s1 ⟨x, H1, I1, rx, q1⟩ => thn (hi.run pins s1 σ H1 _ I1 q1) fun iv s2 ⟨y, H2, I2, ry, a, v, ex, ⟨kvs, k, d, hk, l⟩, q2⟩ => ?_)
  subst ex
  obtain rfl : u = Value.ref a := rx
  obtain ⟨vs, rel, dd⟩ := d.dict I2
  obtain ⟨w', hw, rw'⟩ := RelO.some_of (v := v) (o := valueAt vs k) (by rw [l]; exact rel.val k)
  exact ⟨dd.typeIs, wpAny_getItem_of (knd := leafKind X.prog X.w) (hk.is ry) dd.mapOf hw ⟨v, H2, I2.tok _, rw', q2⟩⟩
/-- d[k] = v -/
def sLPut (P : Program) (w : World) (td ty tv : TE) : TS := fun D σ H => tv σ H fun v H1 => td σ H1 fun x H2 => ty σ H2 fun y H3 => ∃ a kvs k, x = .ref a ∧ DB P w H3 a kvs ∧ LfV k y ∧ kvs.length < 1000 ∧
  (DB P w (upd H3 a (DBo P w a (putK kvs k v))) a (putK kvs k v) → D.nx σ (upd H3 a (DBo P w a (putK kvs k v))))
theorem ps_lput {i o value : Expr} {ty td tv : TE} {pos pos' : Pos} (ho : PE X o td) (hi : PE X i ty) (hv : PE X value tv) (hs : swapsWith value (some (.Subscript o i pos')) pos.line X.env = pure false) :
    PS X (.Assign [.Subscript o i pos'] value pos) (sLPut X.prog X.w td ty tv) := by
  refine ⟨fun pins s σ H D I h => ?_⟩
  refine wpAny_Assign_Subscript (thn (hv.run pins s σ H _ I h) fun r s1 ⟨v, H1, I1, rv, q1⟩ => thn (ho.run pins s1 σ H1 _ I1 q1) fun u s2 ⟨x, H2, I2, rx, q2⟩ => thn (hi.run pins s2 σ H2 _ I2 q2) fun iv s3 ⟨y, H3, I3, ry, a, kvs, k, ex, d, hk, hz, q3⟩ => ?_) hs
  subst ex
  obtain rfl : u = Value.ref a := rx
  obtain ⟨vs, rel, dd⟩ := d.dict I3
  have z : vs.length ≤ sizeLine := by
    rw [← rel.length]
    exact Nat.le_trans d.sz (by decide)
  refine wpAny_setItem_pairs (knd := leafKind X.prog X.w) (hsz := z) (hk.is ry) dd fun h' dd' hs => ?_
  have he : ∃ q, h'.get? a = some q := let ⟨q, _, _, hq, _⟩ := dd'; ⟨q, hq⟩
  have hl := length_putK kvs k v
  exact ⟨σ, _, d_write I3 (by rw [d.o]; exact True.intro) hs he (db_ok (rel.put k rv) dd'), q3 ⟨upd_same, by omega, d.lo⟩⟩
theorem db_noDict {vs : List (Lf × Value)} (dd : s.heap.DictOf (leafKind X.prog X.w) a vs) : ∀ b, Value.ref a = .ref b → ∃ ob, s.heap.get? b = some ob ∧ ob.dict = none := fun b q => by
  cases q
  obtain ⟨ob, _, _, h1, h2, _⟩ := dd
  exact ⟨ob, h1, h2.2.1⟩
def tLGet1 (P : Program) (w : World) (td ty : TE) : TE := fun σ H Q => td σ H fun x H1 => ∃ a, x = .ref a ∧ (∃ kvs, DB P w H1 a kvs) ∧ ty σ H1 fun y H2 => ∃ o, LGet P w H2 a y o ∧ Q (o.getD .non) H2
theorem pe_lget1 {o e : Expr} {apos cpos : Pos} {td ty : TE} (ho : PE X o td) (he : PE X e ty) (m : M1 X o "get" apos e cpos) : PE X (.Call (.Attribute o "get" apos) [e] [] cpos) (tLGet1 X.prog X.w td ty) := by
  refine ⟨fun pins s σ H Q I h => ?_⟩
  refine wpAny_Call_method m.base m.few m.line PySem.F.plainAttrs_dict PySem.F.slot_dict_get PySem.F.type_dict_get (thn (ho.run pins s σ H _ I h) fun u s1 ⟨x, H1, I1, rx, a, ex, ⟨kv0, d0⟩, q1⟩ => ?_)
  subst ex
  obtain rfl : u = Value.ref a := rx
  obtain ⟨v0, _, dd0⟩ := d0.dict I1
  refine ⟨dd0.typeIs, db_noDict (X := X) dd0, ?_⟩
  rw [m.trees]
  refine Calls.callWith_builtin rfl (Calls.evalArgs_plain (Calls.spliced_cons (thn (he.run pins s1 σ H1 _ I1 q1) fun iv s2 ⟨y, H2, I2, ry, ov, ⟨kvs, k, d, hk, l⟩, q2⟩ => Calls.spliced_nil ?_)))
  obtain ⟨vs, rel, dd⟩ := d.dict I2
  refine call_meetsIn PySem.F.slot_dict_get dd.typeIs PySem.F.entry_dict_get (PySem.F.args_dict_get_2 _ _) (meets_dict_get (leafKind X.prog X.w) a (hk.is ry) d.lo) ⟨_, dd.mapOf, ⟨_, H2, I2.tok _, ?_, q2⟩⟩
  rw [l]
  exact (rel.val k).getD rfl
def tLGet2 (P : Program) (w : World) (td ty tx : TE) : TE := fun σ H Q => td σ H fun x H1 => ∃ a, x = .ref a ∧ (∃ kvs, DB P w H1 a kvs) ∧ ty σ H1 fun y H2 => tx σ H2 fun z H3 => ∃ o, LGet P w H3 a y o ∧ Q (o.getD z) H3
theorem pe_lget2 {o e f : Expr} {apos cpos : Pos} {td ty tx : TE} (ho : PE X o td) (he : PE X e ty) (hf : PE X f tx) (m : M2 X o "get" apos e f cpos) : PE X (.Call (.Attribute o "get" apos) [e, f] [] cpos) (tLGet2 X.prog X.w td ty tx) := by
  refine ⟨fun pins s σ H Q I h => ?_⟩
  refine wpAny_Call_method m.base m.few m.line PySem.F.plainAttrs_dict PySem.F.slot_dict_get PySem.F.type_dict_get (thn (ho.run pins s σ H _ I h) fun u s1 ⟨x, H1, I1, rx, a, ex, ⟨kv0, d0⟩, q1⟩ => ?_)
  subst ex
  obtain rfl : u = Value.ref a := rx
  obtain ⟨v0, _, dd0⟩ := d0.dict I1
  refine ⟨dd0.typeIs, db_noDict (X := X) dd0, ?_⟩
  rw [m.trees]
  refine Calls.callWith_builtin rfl (Calls.evalArgs_plain (Calls.spliced_cons (thn (he.run pins s1 σ H1 _ I1 q1) fun iv s2 ⟨y, H2, I2, ry, q2⟩ =>
    Calls.spliced_cons (thn (hf.run pins s2 σ H2 _ I2 q2) fun fv s3 ⟨z, H3, I3, rz, ov, ⟨kvs, k, d, hk, l⟩, q3⟩ => Calls.spliced_nil ?_))))
  obtain ⟨vs, rel, dd⟩ := d.dict I3
  refine call_meetsIn PySem.F.slot_dict_get dd.typeIs PySem.F.entry_dict_get (PySem.F.args_dict_get_3 _ _ _) (meets_dict_get_default (leafKind X.prog X.w) a (hk.is ry) d.lo fv) ⟨_, dd.mapOf, ⟨_, H3, I3.tok _, ?_, q3⟩⟩
  rw [l]
  exact (rel.val k).getD rz
end
end SK
namespace SK
open PySem PySem.Spec PyProof.Rows L2 LamX NdefX
theorem upd_new {p : Addr} {o : HO} {H : Hp} (n : H p = none) : Same H (upd H p o) := fun c u h => by
  rw [upd_ne (ne_of_none h n)]
  exact h
def top (i : Nat) : Stmt := PySem.Challenge.pw_lettertrees_k29_cells_that_are_let.main.body.getD i (.Pass ⟨0, 0, 0, 0⟩)
end SK
namespace SK
open PySem PySem.Spec PyProof.Rows L2 LamX NdefX
open K0 (De DeAll)
def isB : PyData → Bool
  | .bool _ => true
  | _ => false
def okW (ls : Str) : PyData → Bool
  | .str x => decide (x.cps.size ≤ 200) && x.cps.toList.all fun c => decide (c ∈ ls.cps.toList)
  | _ => false
def okR3 (ls : Str) : List PyData → Bool
  | [a, b, c] => okW ls a && (isB b && isB c)
  | _ => false
def okR (ls : Str) : PyData → Bool
  | .tuple ds => okR3 ls ds
  | .list ds => okR3 ls ds
  | _ => false
end SK
namespace SK
open PySem PySem.Spec PyProof.Rows L2 LamX NdefX
open K0 (De DeAll)
mutual
theorem de_mono {K : PySem.W.Frag} {H H' : Hp} (m : ∀ b o, H b = some o → H' b = some o) : ∀ (d : PyData) (v : V), De K H v d → De K H' v d
  | .none, _, h => by
    cases h
    exact .non
  | .bool b, _, h => by
    cases h
    exact .bl b
  | .int i, _, h => by
    cases h
    exact .int i
  | .str x, _, h => by
    cases h
    exact .str x
  | .list ds, _, h => by
    cases h with
    | lst ha hd => exact .lst (m _ _ ha) (de_monoAll m ds _ hd)
  | .tuple ds, _, h => by
    cases h with
    | tup ha hd => exact .tup (m _ _ ha) (de_monoAll m ds _ hd)
  | .dict _, _, h => by
    cases h with
    | dic ha => exact .dic (m _ _ ha)
theorem de_monoAll {K : PySem.W.Frag} {H H' : Hp} (m : ∀ b o, H b = some o → H' b = some o) : ∀ (ds : List PyData) (vs : List V), DeAll K H vs ds → DeAll K H' vs ds
  | [], _, h => by
    cases h
    exact .nil
  | d :: ds, _, h => by
    cases h with
    | cons h1 h2 => exact .cons (de_mono m d _ h1) (de_monoAll m ds _ h2)
end

/-- no text in it is too long -/
def Fit (d : PyData) : Prop := ∀ ds, (d = .tuple ds ∨ d = .list ds) → ∀ x, PyData.str x ∈ ds → x.cps.size ≤ 1000
def spRow (K : PySem.W.Frag) : Sp := fun vs H Q _ => ∃ (ls : Str) (v : V) (d : PyData), vs = [.str ls, v] ∧ De K H v d ∧ Fit d ∧ ∀ H', Same H H' → Q (.bl (okR ls d)) H'
theorem deAll_len {K : PySem.W.Frag} {H : Hp} : ∀ {vs : List V} {ds : List PyData}, DeAll K H vs ds → vs.length = ds.length
  | _, _, .nil => rfl
  | _, _, .cons _ t => congrArg Nat.succ (deAll_len t)
end SK
namespace SK
open PySem PySem.Spec PyProof.Rows L2 LamX NdefX
open K0 (De DeAll XCl spX withX)
def Rows (H : Hp) (a : Addr) (xs : List V) : Prop := H a = some (.lst xs) ∨ H a = some (.tup xs)
end SK
namespace SK
open PySem PySem.Spec PyProof.Rows L2 LamX NdefX
open K0 (De DeAll XCl spX withX)
theorem Rows.seq {K : PySem.W.Frag} {H : Hp} {a : Addr} {xs : List V} (r : Rows H a xs) : SqL K H a xs ∨ SqT K H a xs := r.elim (fun h => .inl (.inl (.inl h))) fun h => .inr (.inl (.inl h))
end SK
namespace SK
open PySem PySem.Spec PyProof.Rows L2 LamX NdefX
open K0 (De DeAll XCl spX withX)
theorem Same.seqT {K : PySem.W.Frag} {H H' : Hp} {a : Addr} {xs : List V} (s : Same H H') (h : SqT K H a xs) : SqT K H' a xs := by
  rcases h with (h | ⟨o, h⟩) | h
  · exact .inl (.inl (s _ _ h))
  · exact .inl (.inr ⟨o, s _ _ h⟩)
  · exact .inr h
section
variable {K : PySem.W.Frag} {a : Addr} {xs : List V} {g : TG} {tt : TT} {te : TE} {vs : List Nat} {σ : St} {H1 : Hp} {D : Addr} {Qd : Hp → Prop}
/-- what is asked of one turn -/
def TurnF (g : TG) (tt : TT) (te : TE) (vs : List Nat) (σ : St) (x y : V) (b : Bool) (H : Hp) : Prop :=
  ∀ (A : V → Hp → Prop) (B : Hp → Prop), (b = true → A y H) → (b = false → B H) → g x (wipe σ vs) H fun σ2 H2 => wipe σ2 vs = wipe σ vs ∧ tt σ2 H2 fun b H3 => if b = true then te σ2 H3 A else B H3
theorem same_new (nD : H1 D = none) {o : HO} : Same H1 (upd H1 D o) := fun c u h => by
  rw [upd_ne (ne_of_none h nD)]
  exact h
theorem same_upd {H : Hp} (nD : H1 D = none) {o : HO} (s : Same H1 H) : Same H1 (upd H D o) := fun c u h => by
  rw [upd_ne (ne_of_none h nD)]
  exact s _ _ h
theorem take_snoc {α : Type} {l : List α} {i : Nat} {x : α} (h : l[i]? = some x) : l.take (i + 1) = l.take i ++ [x] := by
  rw [List.take_add_one, h]
  rfl
theorem filt_snoc {α : Type} {ws : List α} {f : α → V} {c : α → Bool} {i : Nat} {x : α} (h : ws[i]? = some x) : ((ws.take (i + 1)).filter c).map f = ((ws.take i).filter c).map f ++ (if c x = true then [f x] else []) := by
  rw [take_snoc h, List.filter_append, List.map_append]
  by_cases hc : c x = true
  · rw [if_pos hc, List.filter_cons_of_pos hc]
    rfl
  · rw [if_neg hc, List.filter_cons_of_neg hc]
    rfl
theorem filt_len {α : Type} {ws : List α} {f : α → V} {c : α → Bool} {i : Nat} : (((ws.take i).filter c).map f).length ≤ ws.length := by
  rw [List.length_map]
  exact Nat.le_trans (List.length_filter_le _ _) (by rw [List.length_take]; omega)
theorem map_at {α : Type} {enc : α → V} {ws : List α} {i : Nat} {x : V} (h : (ws.map enc)[i]? = some x) : ∃ y, ws[i]? = some y ∧ x = enc y := by
  rw [List.getElem?_map] at h
  cases e : ws[i]? with
  | none =>
    rw [e] at h
    cases h
  | some y =>
    rw [e] at h
    exact ⟨y, rfl, (Option.some.inj h).symm⟩
theorem lcF_list {α : Type} {ws : List α} (enc : α → V) (nD : H1 D = none) (f : α → V) (c : α → Bool) (hS : SqL K H1 a (ws.map enc)) (hz : ws.length < sizeLine) (step : ∀ (i : Nat) (x : α) (H : Hp), ws[i]? = some x → Same H1 H → TurnF g tt te vs σ (enc x) (f x) (c x) H)
    (fin : ∀ H, Same H1 H → H D = some (.lst ((ws.filter c).map f)) → Qd H) :
    ∃ W : Nat → Nat → Hp → Prop, (∃ m, W 0 m (upd H1 D (.lst []))) ∧ ∀ i m H, W i m H →
      ((Itl K a).stop i H ∧ Qd H) ∨ ((Itl K a).go i H ∧ ∃ Nx : Hp → Prop, (∀ H', Nx H' → ∃ m', m' < m ∧ W (i + 1) m' H') ∧ ∀ x H', (Itl K a).yld i H x H' → g x (wipe σ vs) H' fun σ2 H2 => wipe σ2 vs = wipe σ vs ∧ tt σ2 H2 fun b H3 =>
        if b = true then te σ2 H3 fun y H4 => ∃ acc, H4 D = some (.lst acc) ∧ acc.length < sizeLine ∧ Nx (upd H4 D (.lst (acc ++ [y]))) else Nx H3) := by
  refine lc_list (K := K) (a := a) (xs := ws.map enc) (fun i H => Same H1 H ∧ H D = some (.lst (((ws.take i).filter c).map f))) ⟨same_new nD, upd_same⟩ (fun i H _ p => Same.seq p.1 hS) (fun i x H hx p => ?_) fun H p => fin H p.1 (by rw [List.length_map, List.take_length] at p; exact p.2)
  obtain ⟨s, hD⟩ := p
  obtain ⟨y, hy, rfl⟩ := map_at hx
  refine step i y H hy s _ _ (fun hc => ⟨_, hD, Nat.lt_of_le_of_lt filt_len hz, same_upd nD s, ?_⟩) fun hc => ⟨s, ?_⟩
  · rw [filt_snoc hy, if_pos hc]
    exact upd_same
  · rw [filt_snoc hy, if_neg (by rw [hc]; simp), List.append_nil]
    exact hD
theorem lcF_tup {α : Type} {ws : List α} (enc : α → V) (nD : H1 D = none) (f : α → V) (c : α → Bool) (hS : SqT K H1 a (ws.map enc)) (hz : ws.length < sizeLine) (step : ∀ (i : Nat) (x : α) (H : Hp), ws[i]? = some x → Same H1 H → TurnF g tt te vs σ (enc x) (f x) (c x) H)
    (fin : ∀ H, Same H1 H → H D = some (.lst ((ws.filter c).map f)) → Qd H) :
    ∃ W : Nat → Nat → Hp → Prop, (∃ m, W 0 m (upd H1 D (.lst []))) ∧ ∀ i m H, W i m H →
      ((Itt K a).stop i H ∧ Qd H) ∨ ((Itt K a).go i H ∧ ∃ Nx : Hp → Prop, (∀ H', Nx H' → ∃ m', m' < m ∧ W (i + 1) m' H') ∧ ∀ x H', (Itt K a).yld i H x H' → g x (wipe σ vs) H' fun σ2 H2 => wipe σ2 vs = wipe σ vs ∧ tt σ2 H2 fun b H3 =>
        if b = true then te σ2 H3 fun y H4 => ∃ acc, H4 D = some (.lst acc) ∧ acc.length < sizeLine ∧ Nx (upd H4 D (.lst (acc ++ [y]))) else Nx H3) := by
  refine lc_tup (K := K) (a := a) (xs := ws.map enc) (fun i H => Same H1 H ∧ H D = some (.lst (((ws.take i).filter c).map f))) ⟨same_new nD, upd_same⟩ (fun i H _ p => SK.Same.seqT p.1 hS) (fun i x H hx p => ?_) fun H p => fin H p.1 (by rw [List.length_map, List.take_length] at p; exact p.2)
  obtain ⟨s, hD⟩ := p
  obtain ⟨y, hy, rfl⟩ := map_at hx
  refine step i y H hy s _ _ (fun hc => ⟨_, hD, Nat.lt_of_le_of_lt filt_len hz, same_upd nD s, ?_⟩) fun hc => ⟨s, ?_⟩
  · rw [filt_snoc hy, if_pos hc]
    exact upd_same
  · rw [filt_snoc hy, if_neg (by rw [hc]; simp), List.append_nil]
    exact hD
end
/-- what is not reached -/
theorem pss_dead {X : Cx} {b : List Stmt} : PSs X b (fun _ _ _ => False) := ⟨fun _ _ _ _ _ _ h => h.elim⟩
end SK
namespace SK
open PySem PySem.Spec PyProof.Rows L2 LamX NdefX
open K0 (De DeAll XCl spX withX)
theorem neT {p : Prop} {A B : Prop} [inst : Decidable p] (h : p) (k : B) : if (!decide p) = true then A else B := by
  rw [decide_eq_true h]
  exact iteF k
end SK
namespace SK
open PySem PySem.Spec PyProof.Rows L2 LamX NdefX
open K0 (De DeAll XCl spX withX)
theorem de_snoc {K : PySem.W.Frag} {H : Hp} : ∀ {vs : List V} {ds : List PyData} {v : V} {d : PyData}, DeAll K H vs ds → De K H v d → DeAll K H (vs ++ [v]) (ds ++ [d])
  | _, _, _, _, .nil, h => .cons h .nil
  | _, _, _, _, .cons h1 t, h => .cons h1 (de_snoc t h)
theorem any_perm {α : Type} {l m : List α} {q : α → Bool} (h : l.Perm m) : l.any q = m.any q := by
  rw [Bool.eq_iff_iff, List.any_eq_true, List.any_eq_true]
  exact ⟨fun ⟨x, hx, e⟩ => ⟨x, h.mem_iff.mp hx, e⟩, fun ⟨x, hx, e⟩ => ⟨x, h.mem_iff.mpr hx, e⟩⟩
end SK
namespace SK
open PySem PySem.Spec PyProof.Rows L2 LamX NdefX
open K0 (De DeAll XCl spX withX)
def pen (l : Addr) (k lf : Int) : List (Key × V) := [(Sum.inr "cells", V.ref l), (Sum.inr "begun", V.int k), (Sum.inr "left", V.int lf)]
theorem pen_cells (l : Addr) (k lf : Int) : valV (pen l k lf) (Sum.inr "cells") = some (.ref l) := by kernel_rfl
theorem pen_next (l : Addr) (k lf : Int) : valV (pen l k lf) (Sum.inr "begun") = some (.int k) := by kernel_rfl
theorem pen_left (l : Addr) (k lf : Int) : valV (pen l k lf) (Sum.inr "left") = some (.int lf) := by kernel_rfl
theorem pen_put_next (l : Addr) (k lf j : Int) : putK (pen l k lf) (Sum.inr "begun") (.int j) = pen l j lf := by kernel_rfl
theorem pen_put_left (l : Addr) (k lf j : Int) : putK (pen l k lf) (Sum.inr "left") (.int j) = pen l k j := by kernel_rfl
theorem pen_merge (l : Addr) (k lf : Int) : mergeK [] (pen l k lf) = pen l k lf := by kernel_rfl
structure PenAt (H : Hp) (p l : Addr) (ns : List Int) (k lf : Int) : Prop where
  dc : H p = some (.dK (pen l k lf))
  ls : H l = some (.lst (ns.map V.int))
/-- all but p is as it was -/
def SameBut (p : Addr) (H H' : Hp) : Prop := ∀ b o, b ≠ p → H b = some o → H' b = some o
theorem SameBut.trans {p : Addr} {H H1 H2 : Hp} (a : SameBut p H H1) (b : SameBut p H1 H2) : SameBut p H H2 := fun c o n h => b c o n (a c o n h)
theorem SameBut.of {p : Addr} {H H' : Hp} (a : Same H H') : SameBut p H H' := fun c o _ h => a c o h
theorem cut63 {ns : List Int} (h : ns.length ≤ 63) : cutV (ns.map V.int) none (some 63) = ns.map V.int := by
  unfold cutV
  rw [HT.sIx_none, show ((63 : Int)) = ((63 : Nat) : Int) from rfl, HT.sIx_nat, List.drop_zero, List.length_map, Nat.min_eq_right h, Nat.sub_zero, List.take_of_length_le (by rw [List.length_map]; exact Nat.le_refl _)]
def spPen (K : PySem.W.Frag) : Sp := fun vs H Q _ => ∃ (a : Addr) (ns : List Int), vs = [.ref a] ∧ SqL K H a (ns.map V.int) ∧ ns.length ≤ 63 ∧ ∀ (H' : Hp) (p l : Addr), Same H H' → PenAt H' p l ns 0 0 → Q (.ref p) H'
theorem if_val {c : Bool} {tA tB : TE} {σ : L2.St} {H : Hp} {Q : VK} {z : V} (h1 : c = true → ∀ Q : VK, Q z H → tA σ H Q) (h2 : c = false → ∀ Q : VK, Q z H → tB σ H Q) (q : Q z H) : if c = true then tA σ H Q else tB σ H Q := by
  cases c with
  | true =>
    rw [if_pos rfl]
    exact h1 rfl Q q
  | false =>
    rw [if_neg Bool.false_ne_true]
    exact h2 rfl Q q
section
variable {P : Program} {w : World} {K : PySem.W.Frag} {mg : Str → Option Value} {base : Heap} {f : Addr} {fd : FuncData}
theorem scPen : FnScope ["script"] ["script"] (defScope (top 17)) := ⟨rfl, rfl, rfl, by decide +kernel, rfl, by decide +kernel, by decide +kernel⟩
theorem ok_pen (F : Fun K "_law_pen_of" "_law_pen_of" (top 17) f fd) (gL : mg "list" = none) : FnOk P w K mg base CX0 1 f fd ["script"] (spPen K) := by
  refine F.ok scPen (fun vs H Q E h => ?_) (fun cdv A outer s H vs Q E hr h => ?_)
  · obtain ⟨a, ns, rfl, _⟩ := h
    rfl
  · obtain ⟨a, ns, rfl, hS, hn, k⟩ := h
    refine ⟨_, pss_one (ps_ret (pe_disp (pps_cons pe_str (pe_callTy call_list_of (by rfl) gL PyProof.Rows.boot_list (pa_cons (pe_slice sl_list (pv 0) po_none (po_some pe_int)) pa_nil)) (pps_cons pe_str pe_int (pps_cons pe_str pe_int pps_nil))) rfl rfl (by simp) (by decide))), ?_⟩
    intro p hp
    refine ⟨_, rfl, 63, rfl, a, ns.map V.int, rfl, ?_, fun q hq => ?_⟩
    · exact Same.seq (fun b o e => by rw [upd_ne (ne_of_none e hp)]; exact e) hS
    rw [cut63 hn]
    refine ⟨q, ns.map V.int, rfl, .inl (.inl (.inl upd_same)), fun l hl => ?_⟩
    have npq : p ≠ q := ne_of_none (H := upd H p (.dK [])) upd_same hq
    have npl : p ≠ l := ne_of_none (H := upd (upd H p (.dK [])) q (.lst (ns.map V.int))) (by rw [upd_ne npq, upd_same]) hl
    refine ⟨by rw [upd_ne npl, upd_ne npq, upd_same], pen l 0 0, rfl, (by show 3 ≤ 15; decide), ?_⟩
    rw [pen_merge]
    refine k _ p l (fun b o e => ?_) ⟨upd_same, ?_⟩
    · have n1 : b ≠ p := ne_of_none e hp
      have e1 : upd H p (.dK []) b = some o := by rw [upd_ne n1]; exact e
      have n2 : b ≠ q := ne_of_none e1 hq
      have e2 : upd (upd H p (.dK [])) q (.lst (ns.map V.int)) b = some o := by rw [upd_ne n2]; exact e1
      have n3 : b ≠ l := ne_of_none e2 hl
      rw [upd_ne n1, upd_ne n3]
      exact e2
    · rw [upd_ne npl.symm, upd_same]
theorem upd_but {p : Addr} {o : HO} (H : Hp) : SameBut p H (upd H p o) := fun c u n h => by
  rw [upd_ne n]
  exact h
/-- the draw: a number below the base; the pen's numbers may change -/
def spDraw : Sp := fun vs H Q _ => ∃ (p l : Addr) (ns : List Int) (k lf b : Int), vs = [.ref p, .int b] ∧ PenAt H p l ns k lf ∧ ns.length ≤ 63 ∧ 0 ≤ k ∧ k ≤ 100000 ∧ 0 ≤ lf ∧ 0 < b ∧ b ≤ 1000 ∧
  ∀ (H' : Hp) (k' lf' d : Int), k' ≤ k + 1 → 0 ≤ k' → 0 ≤ lf' → 0 ≤ d → d < b → SameBut p H H' → PenAt H' p l ns k' lf' → Q (.int d) H'
theorem scD : FnScope ["pen", "many", "digit", "place", "size", "told", "blend"] ["pen", "many"] (defScope (top 18)) := ⟨rfl, rfl, rfl, by decide +kernel, rfl, by decide +kernel, by decide +kernel⟩
theorem ok_draw (F : Fun K "_law_draw" "_law_draw" (top 18) f fd) (gI : mg "int" = none) (gN : mg "len" = none) (gA : mg "abs" = none) : FnOk P w K mg base CX0 1 f fd ["pen", "many"] spDraw := by
  refine F.ok scD (fun vs H Q E h => ?_) (fun cdv A outer s H vs Q E hr h => ?_)
  · obtain ⟨p, l, ns, k, lf, b, rfl, _⟩ := h
    rfl
  · obtain ⟨p, l, ns, k, lf, b, rfl, ⟨hd, hl⟩, hn, hk0, hk1, hf, hb0, hb1, kk⟩ := h
    have hu := hu_of hr
    have hu64 := hr.units
    refine ⟨_, pss_cons (ps_if (pt_cmpR op_gt (pe_dget hu (pv 0) pe_str (fun _ _ => rfl)) pe_int (nomark _)) (pss_cons (ps_set (i := 2) scD.nd rfl (Or.inl rfl) (pe_op op_mod (pe_callTy call_int1 (by rfl) gI PyProof.Rows.boot_int (pa_cons (pe_dget hu (pv 0) pe_str (fun _ _ => rfl)) pa_nil)) (pv 1))) (pss_cons (ps_dput hu (pv 0) pe_str (pe_op op_fdiv (pe_dget hu (pv 0) pe_str (fun _ _ => rfl)) (pv 1)) rfl) (pss_one (ps_ret (pv 2))))) pss_nil)
      (pss_cons (ps_par (i := 3) (j := 4) rfl scD.nd rfl rfl (by decide) rfl rfl (pa_cons (pe_dget hu (pv 0) pe_str (fun _ _ => rfl)) (pa_cons (pe_callB call_len_seq (by rfl) gN PySem.boot_len (pa_cons (pe_dget hu (pv 0) pe_str (fun _ _ => rfl)) pa_nil)) pa_nil)) rfl)
      (pss_cons (ps_dput hu (pv 0) pe_str (pe_op op_add (pv 3) pe_int) rfl)
      (pss_cons (ps_set (i := 5) scD.nd rfl (Or.inl rfl) (pe_ifExp (pt_cmpR op_gt (pv 4) pe_int (nomark _)) (pe_ix ix_list (pe_dget hu (pv 0) pe_str (fun _ _ => rfl)) (pe_op op_mod (pe_callTy call_int1 (by rfl) gI PyProof.Rows.boot_int (pa_cons (pv 3) pa_nil)) (pv 4)) (fun _ _ => rfl)) (pe_op op_add (pe_op op_mul pe_int (pv 3)) pe_int)))
      (pss_cons (ps_if ((pw_and (pt_cmpR op_lt (pv 3) (pv 4) (nomark _)) (pw_and1 (pt_cmpR op_ge (pe_callB call_abs (by rfl) gA PyProof.Rows.boot_abs (pa_cons (pv 5) pa_nil)) (pe_op op_pow pe_int pe_int) (nomark _)))).pt)
        (pss_cons (ps_dput hu (pv 0) pe_str (pe_op op_fdiv (pe_op op_sub (pe_callB call_abs (by rfl) gA PyProof.Rows.boot_abs (pa_cons (pv 5) pa_nil)) (pe_op op_pow pe_int pe_int)) (pv 1)) rfl) (pss_one (ps_ret (pe_op op_mod (pe_callTy call_int1 (by rfl) gI PyProof.Rows.boot_int (pa_cons (pe_op op_sub (pe_callB call_abs (by rfl) gA PyProof.Rows.boot_abs (pa_cons (pv 5) pa_nil)) (pe_op op_pow pe_int pe_int)) pa_nil)) (pv 1))))) pss_nil)
      (pss_cons (ps_set (i := 6) scD.nd rfl (Or.inl rfl) (pe_op op_mod (pe_callTy call_int1 (by rfl) gI PyProof.Rows.boot_int (pa_cons (pe_op op_add (pe_op op_add (pe_op op_mul (pe_op op_mod (pe_callTy call_int1 (by rfl) gI PyProof.Rows.boot_int (pa_cons (pv 5) pa_nil)) pe_int) pe_int) (pe_op op_mul (pe_op op_mul pe_int (pv 3)) (pv 3))) pe_int) pa_nil)) pe_int))
      (pss_cons (ps_set (i := 6) scD.nd rfl (Or.inl rfl) (pe_op op_mod (pe_callTy call_int1 (by rfl) gI PyProof.Rows.boot_int (pa_cons (pe_op op_add (pe_op op_add (pe_op op_add (pe_op op_mul (pv 6) (pv 6)) (pe_op op_mul pe_int (pv 6))) (pe_op op_mul pe_int (pv 3))) pe_int) pa_nil)) pe_int))
      (pss_one (ps_ret (pe_op op_mod (pe_callTy call_int1 (by rfl) gI PyProof.Rows.boot_int (pa_cons (pe_op op_fdiv (pe_op op_mod (pe_callTy call_int1 (by rfl) gI PyProof.Rows.boot_int (pa_cons (pe_op op_mul (pv 6) (pe_op op_add (pv 6) pe_int)) pa_nil)) pe_int) pe_int) pa_nil)) (pv 1)))))))))), ?_⟩
    have npl : p ≠ l := ne_of hd hl (by intro z; cases z)
    have gL : DGet H p (.str "left") (some (.int lf)) := by
      have z := DGet.k (k := Sum.inr "left") hd
      rw [pen_left] at z
      exact z
    have gO : DGet H p (.str "begun") (some (.int k)) := by
      have z := DGet.k (k := Sum.inr "begun") hd
      rw [pen_next] at z
      exact z
    have gC : DGet H p (.str "cells") (some (.ref l)) := by
      have z := DGet.k (k := Sum.inr "cells") hd
      rw [pen_cells] at z
      exact z
    have hlen : (ns.map V.int).length = ns.length := List.length_map _
    refine ⟨V.ref p, rfl, p, V.int lf, rfl, gL, lf, 0, rfl, rfl, _, rfl, ?_⟩
    refine ite2 (fun c => ?_) (fun c => ?_)
    · have c' : 0 < lf := of_decide_eq_true c
      refine ⟨V.ref p, rfl, p, V.int lf, rfl, gL, .inl ⟨lf, rfl, V.int b, rfl, lf, b, rfl, rfl, hb0, ?_⟩⟩
      refine ⟨V.ref p, rfl, p, V.int lf, rfl, gL, V.int b, rfl, lf, b, rfl, rfl, ⟨hb0, by omega⟩, V.ref p, rfl, p, _, rfl, DPut.k (k := Sum.inr "left") hd (by show 3 < sizeLine; decide), V.int (lf % b), rfl, ?_⟩
      rw [pen_put_left]
      exact kk _ k (lf / b) (lf % b) (by omega) hk0 (Int.ediv_nonneg hf (Int.le_of_lt hb0)) (Int.emod_nonneg _ (by omega)) (Int.emod_lt_of_pos _ hb0) (upd_but H) ⟨upd_same, by rw [upd_ne npl.symm]; exact hl⟩
    · refine ⟨V.ref p, rfl, p, V.int k, rfl, gO, V.ref p, rfl, p, V.ref l, rfl, gC, l, ns.map V.int, rfl, .inl (.inl (.inl hl)), V.int k, V.int (ns.length : Nat), by rw [hlen], ?_⟩
      refine ⟨V.int k, rfl, k, 1, rfl, rfl, V.ref p, rfl, p, _, rfl, DPut.k (k := Sum.inr "begun") hd (by show 3 < sizeLine; decide), ?_⟩
      rw [pen_put_next]
      have s1 : SameBut p H (upd H p (.dK (pen l (k + 1) lf))) := upd_but H
      have hd1 : upd H p (.dK (pen l (k + 1) lf)) p = some (.dK (pen l (k + 1) lf)) := upd_same
      have hl1 : upd H p (.dK (pen l (k + 1) lf)) l = some (.lst (ns.map V.int)) := by
        rw [upd_ne npl.symm]
        exact hl
      generalize upd H p (.dK (pen l (k + 1) lf)) = H2 at s1 hd1 hl1
      have gC2 : DGet H2 p (.str "cells") (some (.ref l)) := by
        have z := DGet.k (k := Sum.inr "cells") hd1
        rw [pen_cells] at z
        exact z
      have S2 : SqL K H2 l (ns.map V.int) := .inl (.inl hl1)
      obtain ⟨c, hc1, hc2⟩ : ∃ c : Int, (0 < (ns.length : Int) → ∃ j : Nat, k % (ns.length : Int) = (j : Int) ∧ (ns.map V.int)[j]? = some (.int c)) ∧ (¬ 0 < (ns.length : Int) → c = 53 * k + 29) := by
        by_cases h0 : 0 < (ns.length : Int)
        · have hi0 : 0 ≤ k % (ns.length : Int) := Int.emod_nonneg _ (by omega)
          have hi1 : k % (ns.length : Int) < (ns.length : Int) := Int.emod_lt_of_pos _ (by omega)
          obtain ⟨j, hj⟩ : ∃ j : Nat, k % (ns.length : Int) = (j : Int) := ⟨(k % (ns.length : Int)).toNat, (Int.toNat_of_nonneg hi0).symm⟩
          obtain ⟨c, hc⟩ : ∃ c, ns[j]? = some c := ⟨_, List.getElem?_eq_getElem (by omega)⟩
          exact ⟨c, fun _ => ⟨j, hj, by rw [List.getElem?_map, hc]; all_goals rfl⟩, fun z => absurd h0 z⟩
        · exact ⟨_, fun z => absurd z h0, fun _ => rfl⟩
      refine ⟨V.int (ns.length : Nat), rfl, (ns.length : Nat), 0, rfl, rfl, _, rfl, if_val (z := V.int c) (fun h Q q => ?_) (fun h Q q => ?_) ?_⟩
      · obtain ⟨j, hj, hcV⟩ := hc1 (of_decide_eq_true h)
        exact ⟨V.ref p, rfl, p, V.ref l, rfl, gC2, V.int k, rfl, .inl ⟨k, rfl, V.int (ns.length : Nat), rfl, k, _, rfl, rfl, of_decide_eq_true h, l, ns.map V.int, _, .int c, rfl, rfl, S2, at_of hj hcV, q⟩⟩
      · have e := hc2 (of_decide_eq_false h)
        rw [e] at q
        exact ⟨V.int k, rfl, 53, k, rfl, rfl, .inl ⟨by decide, by decide⟩, _, 29, rfl, rfl, q⟩
      refine ⟨V.int k, rfl, V.int (ns.length : Nat), rfl, k, _, rfl, rfl, _, rfl, ?_⟩
      refine ite2 (fun c3 => ?_) (fun c3 => iteF ?_)
      refine ⟨V.int c, rfl, c, rfl, 10, 18, rfl, rfl, ⟨by decide, by decide, by decide⟩, _, _, rfl, rfl, _, rfl, ?_⟩
      refine ite2 (fun c4 => ?_) (fun c4 => ?_)
      · have c4' := of_decide_eq_true c4
        refine ⟨V.int c, rfl, c, rfl, 10, 18, rfl, rfl, ⟨by decide, by decide, by decide⟩, _, _, rfl, rfl, V.int b, rfl, _, b, rfl, rfl, ⟨hb0, by omega⟩, V.ref p, rfl, p, _, rfl, DPut.k (k := Sum.inr "left") hd1 (by show 3 < sizeLine; decide), ?_⟩
        rw [pen_put_left]
        refine ⟨V.int c, rfl, c, rfl, 10, 18, rfl, rfl, ⟨by decide, by decide, by decide⟩, _, _, rfl, rfl, .inl ⟨_, rfl, V.int b, rfl, _, b, rfl, rfl, hb0, ?_⟩⟩
        exact kk _ (k + 1) _ _ (Int.le_refl _) (by omega) (Int.ediv_nonneg (by omega) (Int.le_of_lt hb0)) (Int.emod_nonneg _ (by omega)) (Int.emod_lt_of_pos _ hb0) (s1.trans (upd_but H2)) ⟨upd_same, by rw [upd_ne npl.symm]; exact hl1⟩
      all_goals
        refine ⟨V.int c, rfl, .inl ⟨c, rfl, c, 4294967279, rfl, rfl, (by show (0 : Int) < 4294967279; decide), _, 50923, rfl, rfl, .inr ⟨by decide, by decide⟩, ?_⟩⟩
        refine ⟨V.int k, rfl, 31249, k, rfl, rfl, .inl ⟨by decide, by decide⟩, V.int k, rfl, _, k, rfl, rfl, .inr ⟨by omega, by omega⟩, _, _, rfl, rfl, _, 977, rfl, rfl, .inl ⟨_, rfl, _, 4294967291, rfl, rfl, (by show (0 : Int) < 4294967291; decide), ?_⟩⟩
        dsimp only
        have a0 : 0 ≤ (c % 4294967279 * 50923 + 31249 * k * k + 977) % 4294967291 := Int.emod_nonneg _ (by decide)
        have a1 : (c % 4294967279 * 50923 + 31249 * k * k + 977) % 4294967291 < 4294967291 := Int.emod_lt_of_pos _ (by decide)
        generalize (c % 4294967279 * 50923 + 31249 * k * k + 977) % 4294967291 = m at a0 a1
        refine ⟨V.int m, rfl, V.int m, rfl, m, m, rfl, rfl, .inl ⟨by omega, by omega⟩, V.int m, rfl, 70001, m, rfl, rfl, .inl ⟨by decide, by decide⟩, _, _, rfl, rfl, ?_⟩
        refine ⟨V.int k, rfl, 41, k, rfl, rfl, .inl ⟨by decide, by decide⟩, _, _, rfl, rfl, _, 13, rfl, rfl, .inl ⟨_, rfl, _, 4294967231, rfl, rfl, (by show (0 : Int) < 4294967231; decide), ?_⟩⟩
        dsimp only
        have b0' : 0 ≤ (m * m + 70001 * m + 41 * k + 13) % 4294967231 := Int.emod_nonneg _ (by decide)
        have b1' : (m * m + 70001 * m + 41 * k + 13) % 4294967231 < 4294967231 := Int.emod_lt_of_pos _ (by decide)
        generalize (m * m + 70001 * m + 41 * k + 13) % 4294967231 = u at b0' b1'
        refine ⟨V.int u, rfl, V.int u, rfl, u, 46237, rfl, rfl, u, _, rfl, rfl, .inl ⟨by omega, by omega⟩, .inl ⟨_, rfl, _, 4294967189, rfl, rfl, (by show (0 : Int) < 4294967189; decide), _, 64, rfl, rfl, ⟨by decide, by decide⟩, .inl ⟨_, rfl, V.int b, rfl, _, b, rfl, rfl, hb0, ?_⟩⟩⟩
        exact kk H2 (k + 1) lf _ (Int.le_refl _) (by omega) hf (Int.emod_nonneg _ (by omega)) (Int.emod_lt_of_pos _ hb0) s1 ⟨hd1, hl1⟩
end
end SK
namespace SK
open PySem PySem.Spec PyProof.Rows L2 LamX NdefX
open K0 (De DeAll XCl spX withX)
theorem seq_ix {d : Int} {j n : Nat} (h : d = (j : Int)) (hj : j < n) : seqIndex? d n = some j := by
  subst h
  unfold seqIndex?
  have h1 : ¬ ((j : Int) < 0) := by omega
  have h2 : (j : Int) < (n : Int) := by omega
  simp [h1, h2, hj]
theorem map_erase {α β : Type} (f : α → β) : ∀ (l : List α) (j : Nat), (l.map f).eraseIdx j = (l.eraseIdx j).map f
  | [], _ => rfl
  | a :: l, 0 => rfl
  | a :: l, j + 1 => by
    show f a :: (l.map f).eraseIdx j = f a :: (l.eraseIdx j).map f
    rw [map_erase f l j]
theorem erase_perm {α : Type} : ∀ (l : List α) (j : Nat) (y : α), l[j]? = some y → (y :: l.eraseIdx j).Perm l
  | [], j, y, h => by simp at h
  | a :: l, 0, y, h => by
    have e : a = y := Option.some.inj h
    rw [e]
    exact List.Perm.refl _
  | a :: l, j + 1, y, h => by
    have ih := erase_perm l j y h
    show (y :: a :: l.eraseIdx j).Perm (a :: l)
    exact (List.Perm.swap a y _).trans (List.Perm.cons a ih)
end SK
namespace SK
open PySem PySem.Spec PyProof.Rows L2 LamX NdefX
open K0 (De DeAll XCl spX withX)
theorem strs_of : ∀ {ws : List Str} {us : List Value}, Vals (ws.map V.str) us → PySem.W.EachIs (fun v b => ∃ t, v = Value.str b t) us ws
  | [], [], _ => .nil
  | [], _ :: _, h => by cases h
  | _ :: _, [], h => by cases h
  | w :: ws, u :: us, h => by
    cases h with
    | cons h1 h2 => exact .cons h1 (strs_of h2)
end SK
namespace SK
open PySem PySem.Spec PyProof.Rows L2 LamX NdefX
open K0 (De DeAll XCl spX withX)
structure FnG (P : Program) (w : World) (K : PySem.W.Frag) (mg : Str → Option Value) (base : Heap) (CX : CXT) (k : Nat) (f : Addr) (fd : FuncData) (ps : List Str) (sp : Sp) : Prop where
  len : ∀ vs H Q E, sp vs H Q E → vs.length = ps.length
  run : ∀ (A : Around) (outer : List Env) (s : Shared) (H : Hp) (args : Args) (us : List Value) (vs : List V) (Q : VK) (E : XK), A.guards = some [] → Room k A → Env0 P w K mg base A outer s H → BindsTo s fd args (ps.zip us) → Vals vs us → sp vs H Q E →
    codeAny (model P w) A (.call (.ref f) args) (CR CX outer P w H s Q E) s
theorem FnG.ok {P : Program} {w : World} {K : PySem.W.Frag} {mg : Str → Option Value} {base : Heap} {x qual : Str} {st : Stmt} {f : Addr} {fd : FuncData} {N ps : List Str} {k : Nat} {sp : Sp} (F : Fun K x qual st f fd) (S : FnScope N ps (defScope st)) (len : ∀ vs H Q E, sp vs H Q E → vs.length = ps.length)
    (hbody : ∀ (cdv : Value) (A : Around) (outer : List Env) (s : Shared) (H : Hp) (vs : List V) (Q : VK) (E : XK), (A.deeper (envOfC qual (defScope st) s.heap.objs.size f cdv)).guards = some [] → Room k (A.deeper (envOfC qual (defScope st) s.heap.objs.size f cdv)) → sp vs H Q E →
      ∃ t, PSs (cxOf CX0 P w K mg base N qual (defScope st) f cdv A outer s H E).nox (defBody st) t ∧ t { nx := fun _ H' => Q .non H', rt := Q } (start N vs) H) : FnG P w K mg base CX0 (k + 1) f fd ps sp := by
  obtain ⟨oc, od, kV, doc, pm, an, cdv, ct, osl, rfl, lk, hcd⟩ := F.ex
  refine ⟨len, fun A outer s H args us vs Q E hg hr e0 hb r hsp => run_ofS lk hcd S hr e0 hb r (len _ _ _ _ hsp) fun hr' => ?_⟩
  obtain ⟨t, h, q⟩ := hbody cdv A outer s H vs Q E hg hr' hsp
  exact ⟨t, h.nox, q⟩
def tCallG (sp : Sp) (E : XK) (t : TA) : TE := fun σ H Q => t σ H fun vs H1 => sp vs H1 Q E
section
variable {X : Cx} {CX : CXT} {k : Nat} {f C : Addr} {fd : FuncData} {ps : List Str} {ds : List Value} {dvs : List V} {sp : Sp} {E : XK} {x : Str} {p pos : Pos} {e : Expr} {es : List Expr} {t : TA}
theorem run_fnG {pins : List (Addr × Obj)} {σ : St} {H : Hp} {s : Shared} {Q : VK} {us : List Value} {vs : List V} (F : FnG X.prog X.w X.K X.mg X.base CX k f fd ps sp) (hgd : X.A.guards = some []) (hr : Room k X.A) (hb : Binds X.K fd ps []) (hx : Passes CX X E) (I : Inv X pins σ H s) (r : Vals vs us)
    (h : sp vs H Q E) : wpAny (model X.prog X.w) X.A (call (.ref f) us) (EP X pins σ Q) X.xe s := by
  have hl : us.length = ps.length := by
    rw [← r.length]
    exact F.len _ _ _ _ h
  have b := hb s us I.kIn (by rw [List.append_nil]; exact hl)
  rw [List.append_nil] at b
  refine wpAny_call (codeAny_mono (F.run X.A X.stack s H ⟨us, []⟩ us vs Q E hgd hr I.env0 b r h) fun r s' hq => ?_)
  cases r with
  | error e => exact hx pins σ H s e s' I hq
  | ok fl =>
    cases fl with
    | ret u => exact I.after hq
    | next => exact False.elim hq
    | brk => exact False.elim hq
    | cont => exact False.elim hq
theorem pe_callG (F : FnG X.prog X.w X.K X.mg X.base CX k f fd ps sp) (hgd : X.A.guards = some []) (hr : Room k X.A) (hg : Gl X x) (hm : X.mg x = some (.ref f)) (hk : PySem.W.keepIn X.K (.ref f) = true) (hb : Binds X.K fd ps []) (hx : Passes CX X E)
    (ha : PA X (e :: es) t) (hdb : (x == ("__debug__" : Str)) = false := by decide) (he : starEach (e :: es) X.env = (false, eval e X.env) :: starEach es X.env := by rfl) (hpl : (backTo pos (starEach es X.env)).any (·.1) = false := by rfl) :
    PE X (.Call (.Name x p) (e :: es) [] pos) (tCallG sp E t) := by
  refine ⟨fun pins s σ H Q I h => ?_⟩
  refine wpAny_Call_Name_kw (ld_glob I hg hm ?_ hdb)
  refine PySem.W.callWith_K (h₀ := X.base) I.ok.mod.kin hk (thn (ha.run pos pins s σ H _ I h) fun us s1 ⟨vs, H1, I1, r, q⟩ => ⟨I1.kIn, ?_⟩) he hpl
  exact run_fnG F hgd hr hb hx I1 r q
/-- C(..), what is raised wished for at the caller's slots -/
def tMakeS (C : Addr) (sp : Sp) (E : St → XK) (t : TA) : TE := fun σ H Q => t σ H fun vs H1 => ∀ x dx, H1 x = none → H1 dx = none → dx ≠ x → sp (.ref x :: vs) (upd (upd H1 dx (.own x)) x (.ins C dx [])) (fun v H2 => v = .non ∧ Q (.ref x) H2) (E σ)
theorem pe_makeS {E : St → XK} (M : Mk X.K C f) (F : FnOk X.prog X.w X.K X.mg X.base CX k f fd ps sp) (hr : Room (k + 1) X.A) (hg : Gl X x) (hm : X.mg x = some (.ref C)) (hb : Binds X.K fd ps []) (hx : ∀ σ, PassesAt CX X σ (E σ)) (ha : PA X (e :: es) t)
    (hdb : (x == ("__debug__" : Str)) = false := by decide) (he : starEach (e :: es) X.env = (false, eval e X.env) :: starEach es X.env := by rfl) (hpl : (backTo pos (starEach es X.env)).any (·.1) = false := by rfl) :
    PE X (.Call (.Name x p) (e :: es) [] pos) (tMakeS C sp E t) := by
  refine ⟨fun pins s σ H Q I h => ?_⟩
  refine wpAny_Call_Name_kw (ld_glob I hg hm ?_ hdb)
  refine PySem.W.callWith_K (h₀ := X.base) I.ok.mod.kin M.kp (thn (ha.run pos pins s σ H _ I h) fun us s1 ⟨vs, H1, I1, r, q⟩ => ⟨I1.kIn, ?_⟩) he hpl
  have hq := q (s1.heap.objs.size + 1) s1.heap.objs.size (I1.hok.fresh (Nat.le_succ _)) (I1.hok.fresh (Nat.le_refl _)) (Nat.ne_of_lt (Nat.lt_succ_self _))
  have I2 := Inv.made (C := C) I1
  have r2 : Vals (V.ref (s1.heap.objs.size + 1) :: vs) (Value.ref (s1.heap.objs.size + 1) :: us) := .cons rfl r
  have hl : (Value.ref (s1.heap.objs.size + 1) :: us).length = ps.length := by
    have z := r2.length
    rw [F.len _ _ _ _ hq] at z
    exact z.symm
  have b := hb _ (Value.ref (s1.heap.objs.size + 1) :: us) I2.kIn (by rw [List.append_nil]; exact hl)
  rw [List.append_nil] at b
  show wpAny _ _ (call (.ref C) us) _ _ _
  refine wpAny_call (make_map (f := f) I1.kIn M.makes M.init (beq_iff_eq.mp M.fn) (codeAny_mono (F.run _ X.stack _ _ ⟨Value.ref (s1.heap.objs.size + 1) :: us, []⟩ (Value.ref (s1.heap.objs.size + 1) :: us) _ _ (E σ) (hr.make C us [])
    (I2.env0.make C us []) b r2 hq) fun r s' hq' => ?_))
  cases r with
  | error er => exact hx σ pins _ _ er s' I2 hq'
  | ok fl =>
    cases fl with
    | ret u =>
      obtain ⟨v, H', I3, rv, ev, q3⟩ := I2.after hq'
      subst ev
      exact ⟨rv, ⟨V.ref (s1.heap.objs.size + 1), H', I3, rfl, q3⟩⟩
    | next => exact False.elim hq'
    | brk => exact False.elim hq'
    | cont => exact False.elim hq'
/-- repr(x), x any data -/
def rRepD (K : PySem.W.Frag) : List V → Hp → VK → Prop := fun xs H Q => ∃ (v : V) (d : PyData), xs = [v] ∧ De K H v d ∧ d.showable = true ∧ d.depth ≤ 8 ∧ d.shown.length ≤ sizeLine ∧ Q (.str d.shown) H
theorem call_repD (hg : X.A.guards = some []) (hu : X.A.units + 64 < cLine) (hsys : ∃ o, X.K.lookup sysModules = some o) : CallR X (.builtin "repr") (rRepD X.K) := by
  intro pins s σ H xs us Q I r h
  obtain ⟨v, d, rfl, hd, hsh, hdp, hz, q⟩ := h
  cases hd with
  | non =>
    obtain ⟨u, rfl, ru⟩ := vals1 r
    obtain rfl : u = Value.none := ru
    exact PySem.P.repr_of_none ⟨.str _, H, I.tok _, ⟨_, rfl⟩, q⟩
  | bl b =>
    obtain ⟨u, rfl, ru⟩ := vals1 r
    obtain rfl : u = Value.bool b := ru
    exact PySem.P.repr_of_bool ⟨.str _, H, I.tok _, ⟨_, rfl⟩, by cases b <;> exact q⟩
  | int i =>
    obtain ⟨u, rfl, t, rfl⟩ := vals1 r
    refine PySem.P.repr_of_int (by simpa [PyData.showable] using hsh) ⟨.str _, H, I.tok _, ⟨_, rfl⟩, q⟩
  | str x =>
    obtain ⟨u, rfl, t, rfl⟩ := vals1 r
    exact PySem.P.repr_of_str ⟨.str _, H, I.tok _, ⟨_, rfl⟩, q⟩ hz
  | @lst a vs ds ha hds => exact K0.call_rep hg hu hsys pins s σ H _ us Q I r ⟨a, _, rfl, .lst ha hds, hsh, hdp, hz, q⟩
  | @tup a vs ds ha hds => exact K0.call_rep hg hu hsys pins s σ H _ us Q I r ⟨a, _, rfl, .tup ha hds, hsh, hdp, hz, q⟩
  | @dic a ha => exact K0.call_rep hg hu hsys pins s σ H _ us Q I r ⟨a, _, rfl, .dic ha, hsh, hdp, hz, q⟩
end
end SK
namespace SK
open PySem PySem.Spec PyProof.Rows L2 LamX NdefX
open K0 (De DeAll XCl spX withX)
theorem passN {P : Program} {w : World} {X : Cx} (σ : L2.St) : PassesAt (L2.CX P w) X σ (fun _ _ _ => False) := fun _ _ _ _ _ _ c => by
  obtain ⟨_, _, _, _, _, _, _, _, _, _, _, _, h⟩ := c
  exact h.elim
end SK
namespace SK
open PySem PySem.Spec PyProof.Rows L2 LamX NdefX
open K0 (De DeAll XCl spX withX)
theorem ifne {p : Prop} [inst : Decidable p] {A B : Prop} (h1 : ¬p → A) (h2 : p → B) : if (!decide p) = true then A else B := by
  by_cases c : p
  · rw [decide_eq_true c]
    exact iteF (h2 c)
  · rw [decide_eq_false c]
    exact iteT (h1 c)
def relabelS (scope sc : Scope) : Scope :=
  { scope with names := scope.names.map fun (n, k) => if (k == .free && sc.kind == .function && sc.names.lookup n == some .cell) then (n, .cell) else (n, k) }
theorem blkOk_in {N : List Str} {env : Env} {sc lc scope : Scope} {own : List (Str × Nat)} (hs : env.scope = sc) (h : blkC N (relabelS lc sc) scope own = true) : BlkOk N (relabel lc env) scope own := by
  subst hs
  exact blkOk_by h
def bodyF : Stmt → List Stmt
  | .For _ _ b _ _ => b
  | .If _ b _ _ => b
  | _ => []
def asE : Stmt → Expr
  | .Assign _ e _ => e
  | _ => .Name "" ⟨0, 0, 0, 0⟩
def argE : Expr → Expr
  | .Call _ (a :: _) _ _ => a
  | e => e
def lcSc : Expr → Scope
  | .ListComp _ _ s _ => s
  | _ => { kind := .function, names := [], isGenerator := false, isCoroutine := false, more := [] }
def nthS (l : List Stmt) (i : Nat) : Stmt := l.getD i (.Pass ⟨0, 0, 0, 0⟩)
theorem any_flip {α : Type} (l : List α) (q : α → Bool) : (l.map q).any id = l.any q := by
  rw [List.any_map]
  rfl
end SK
namespace SK
open PySem PySem.Spec PyProof.Rows L2 LamX NdefX
open K0 (De DeAll XCl spX withX)
mutual
theorem de_but {K : PySem.W.Frag} {H H' : Hp} {p : Addr} {kv : Key × V} {kvs : List (Key × V)} (hp : H p = some (.dK (kv :: kvs))) (m : SameBut p H H') : ∀ {d : PyData} {v : V}, De K H v d → De K H' v d
  | _, _, .non => .non
  | _, _, .bl b => .bl b
  | _, _, .int i => .int i
  | _, _, .str x => .str x
  | _, _, .lst ha hd => .lst (m _ _ (ne_of ha hp (by intro z; cases z)) ha) (de_butAll hp m hd)
  | _, _, .tup ha hd => .tup (m _ _ (ne_of ha hp (by intro z; cases z)) ha) (de_butAll hp m hd)
  | _, _, .dic ha => .dic (m _ _ (ne_of ha hp (by intro z; cases z)) ha)
theorem de_butAll {K : PySem.W.Frag} {H H' : Hp} {p : Addr} {kv : Key × V} {kvs : List (Key × V)} (hp : H p = some (.dK (kv :: kvs))) (m : SameBut p H H') : ∀ {ds : List PyData} {vs : List V}, DeAll K H vs ds → DeAll K H' vs ds
  | _, _, .nil => .nil
  | _, _, .cons h1 h2 => .cons (de_but hp m h1) (de_butAll hp m h2)
end
theorem PenAt.ext {H H' : Hp} {p l : Addr} {ns : List Int} {k lf : Int} (h : PenAt H p l ns k lf) (s : ExtN H H') : PenAt H' p l ns k lf := ⟨s _ _ h.dc (fun ps z => nomatch z), s _ _ h.ls (fun ps z => nomatch z)⟩
theorem PenAt.same {H H' : Hp} {p l : Addr} {ns : List Int} {k lf : Int} (h : PenAt H p l ns k lf) (s : Same H H') : PenAt H' p l ns k lf := ⟨s _ _ h.dc, s _ _ h.ls⟩
theorem dp_snoc {K : PySem.W.Frag} {H : Hp} : ∀ {vs : List V} {ds : List PyData} {v : V} {d : PyData}, DpAll K H vs ds → Dp K H v d → DpAll K H (vs ++ [v]) (ds ++ [d])
  | _, _, _, _, .nil, h => .cons h .nil
  | _, _, _, _, .cons h1 t, h => .cons h1 (dp_snoc t h)
end SK
namespace SK
open PySem PySem.Spec PyProof.Rows L2 LamX NdefX
open K0 (De DeAll XCl spX withX)
theorem size_app (x y : Str) : (x ++ y).cps.size = x.cps.size + y.cps.size := by
  show (x.cps ++ y.cps).size = _
  exact Array.size_append
end SK
namespace SK
open PySem PySem.Spec PyProof.Rows L2 LamX NdefX
open K0 (De DeAll XCl spX withX)
/-! ### x in t, x not in t, of any data -/
def rInD (K : PySem.W.Frag) (neg : Bool) : R2 := fun x y H Q => ∃ (p : Addr) (xs : List V) (ds : List PyData) (d : PyData), y = .ref p ∧ (SqL K H p xs ∨ SqT K H p xs) ∧ DpAll K H xs ds ∧ Dp K H x d ∧ d.canLay0 = true ∧ PyData.canLayAll0 ds = true ∧ d.depth ≤ 32 ∧
  Q (.bl (if neg = true then !(ds.any fun e => PyData.eqv e d) else ds.any fun e => PyData.eqv e d)) H
theorem dp_items {X : Cx} {pins : List (Addr × Obj)} {σ : L2.St} {H : Hp} {s : Shared} (I : Inv X pins σ H s) {d : PyData} {v : Value} {bs : List Addr} (rd : Reads s.heap v d bs) (hd : d.canLay0 = true) (hz : d.depth ≤ 32) (hu : X.A.units + 64 < cLine) : ∀ {ds : List PyData} {xs : List V} {us : List Value}, DpAll X.K H xs ds → Vals xs us → PyData.canLayAll0 ds = true →
    ∃ f : Value → Bool, (∀ y ∈ us, SeqAt.EqAt X.A.in1 s y v (f y)) ∧ (us.any f = ds.any fun e => PyData.eqv e d) ∧ f = fun y => @decide (∃ e as, Reads s.heap y e as ∧ e.canLay0 = true ∧ PyData.eqv e d = true) (Classical.propDecidable _) := by
  intro ds xs us h r hc
  refine ⟨_, ?_, ?_, rfl⟩
  · intro y hy
    have go : ∀ {ds : List PyData} {xs : List V} {us : List Value}, DpAll X.K H xs ds → Vals xs us → PyData.canLayAll0 ds = true → y ∈ us → ∃ e as, Reads s.heap y e as ∧ e.canLay0 = true := fun {ds xs us} h => by
      induction us generalizing ds xs with
      | nil => intro _ _ hy; cases hy
      | cons u us ih =>
        intro r hc hy
        cases r with
        | cons r1 r2 =>
          cases h with
          | @cons v1 vs e es h1 h2 =>
            have hc' : e.canLay0 = true ∧ PyData.canLayAll0 es = true := by simpa only [PyData.canLayAll0, Bool.and_eq_true] using hc
            rcases List.mem_cons.mp hy with rfl | hy
            · obtain ⟨as, q⟩ := Dp.reads I e _ _ h1 r1
              exact ⟨e, as, q, hc'.1⟩
            · exact ih h2 r2 hc'.2 hy
    obtain ⟨e, as, q, hce⟩ := go h r hc hy
    have ev : @decide (∃ e as, Reads s.heap y e as ∧ e.canLay0 = true ∧ PyData.eqv e d = true) (Classical.propDecidable _) = PyData.eqv e d := by
      cases z : PyData.eqv e d with
      | true => exact @decide_eq_true _ (Classical.propDecidable _) ⟨e, as, q, hce, z⟩
      | false =>
        refine @decide_eq_false _ (Classical.propDecidable _) ?_
        rintro ⟨e2, as2, q2, hc2, z2⟩
        rw [SeqAt.Reads.unique e2 e y as2 as hc2 q2 q] at z2
        rw [z] at z2
        cases z2
    rw [ev]
    have hm : min e.depth d.depth ≤ d.depth := Nat.min_le_right _ _
    exact SeqAt.eqAt_reads e d X.A.in1 s y v as bs q rd hce hd (by show X.A.units + 1 + _ < cLine; omega)
  · have go : ∀ {ds : List PyData} {xs : List V} {us : List Value}, DpAll X.K H xs ds → Vals xs us → PyData.canLayAll0 ds = true → (us.any fun y => @decide (∃ e as, Reads s.heap y e as ∧ e.canLay0 = true ∧ PyData.eqv e d = true) (Classical.propDecidable _)) = ds.any fun e => PyData.eqv e d := fun {ds xs us} h => by
      induction us generalizing ds xs with
      | nil =>
        intro r _
        cases r
        cases h
        rfl
      | cons u us ih =>
        intro r hc
        cases r with
        | cons r1 r2 =>
          cases h with
          | @cons v1 vs e es h1 h2 =>
            have hc' : e.canLay0 = true ∧ PyData.canLayAll0 es = true := by simpa only [PyData.canLayAll0, Bool.and_eq_true] using hc
            obtain ⟨as, q⟩ := Dp.reads I e _ _ h1 r1
            have ev : @decide (∃ e as, Reads s.heap u e as ∧ e.canLay0 = true ∧ PyData.eqv e d = true) (Classical.propDecidable _) = PyData.eqv e d := by
              cases z : PyData.eqv e d with
              | true => exact @decide_eq_true _ (Classical.propDecidable _) ⟨e, as, q, hc'.1, z⟩
              | false =>
                refine @decide_eq_false _ (Classical.propDecidable _) ?_
                rintro ⟨e2, as2, q2, hc2, z2⟩
                rw [SeqAt.Reads.unique e2 e u as2 as hc2 q2 q] at z2
                rw [z] at z2
                cases z2
            rw [List.any_cons, List.any_cons, ev, ih h2 r2 hc'.2]
    exact go h r hc
theorem op_inD {X : Cx} (hu : X.A.units + 64 < cLine) : OpR X (compareOp .In) (rInD X.K false) := by
  intro pins s σ H x y v u Q I rx ry h
  obtain ⟨p, xs, ds, d, rfl, hq, hds, hd, c1, c2, hz, q⟩ := h
  obtain rfl : u = Value.ref p := ry
  obtain ⟨bs, rd⟩ := Dp.reads I d x v hd rx
  rcases hq with hq | hq
  · obtain ⟨its, r, pl, hzz⟩ := I.list hq
    obtain ⟨f, h1, h2, _⟩ := dp_items I rd c1 hz hu hds r c2
    refine SeqAt.in_listAt f pl.isList (fun w hw => h1 w (by simpa using hw)) ⟨.bl _, H, I, ?_, q⟩
    show Value.bool _ = Value.bool _
    rw [List.any_toArray, h2]
    rfl
  · obtain ⟨its, r, pl, hzz⟩ := I.tuple hq
    obtain ⟨f, h1, h2, _⟩ := dp_items I rd c1 hz hu hds r c2
    refine SeqAt.in_tupleAt f pl (fun w hw => h1 w (by simpa using hw)) ⟨.bl _, H, I, ?_, q⟩
    show Value.bool _ = Value.bool _
    rw [List.any_toArray, h2]
    rfl
theorem op_notInD {X : Cx} (hu : X.A.units + 64 < cLine) : OpR X (compareOp .NotIn) (rInD X.K true) := by
  intro pins s σ H x y v u Q I rx ry h
  obtain ⟨p, xs, ds, d, rfl, hq, hds, hd, c1, c2, hz, q⟩ := h
  obtain rfl : u = Value.ref p := ry
  obtain ⟨bs, rd⟩ := Dp.reads I d x v hd rx
  rcases hq with hq | hq
  · obtain ⟨its, r, pl, hzz⟩ := I.list hq
    obtain ⟨f, h1, h2, _⟩ := dp_items I rd c1 hz hu hds r c2
    refine SeqAt.notIn_listAt f pl.isList (fun w hw => h1 w (by simpa using hw)) ⟨.bl _, H, I, ?_, q⟩
    show Value.bool _ = Value.bool _
    rw [List.any_toArray, h2]
    rfl
  · obtain ⟨its, r, pl, hzz⟩ := I.tuple hq
    obtain ⟨f, h1, h2, _⟩ := dp_items I rd c1 hz hu hds r c2
    refine SeqAt.notIn_tupleAt f pl (fun w hw => h1 w (by simpa using hw)) ⟨.bl _, H, I, ?_, q⟩
    show Value.bool _ = Value.bool _
    rw [List.any_toArray, h2]
    rfl
end SK
namespace SK
open PySem PySem.Spec PyProof.Rows L2 LamX NdefX
open K0 (De DeAll XCl spX withX)
/-! ### kinds -/
abbrev Kd := Bool × Bool × Int
def kdV (k : Kd) : List V := [.bl k.1, .bl k.2.1, .int k.2.2]
def kdD (k : Kd) : PyData := .tuple [.bool k.1, .bool k.2.1, .int k.2.2]
def KAt (H : Hp) (t : Addr) (k : Kd) : Prop := H t = some (.tup (kdV k))
def OkK (k : Kd) : Prop := 0 ≤ k.2.2 ∧ k.2.2 ≤ 2
abbrev PK := List (Addr × Kd)
def rfs (ps : PK) : List V := ps.map fun p => V.ref p.1
def kds (ps : PK) : List Kd := ps.map (·.2)
def KsAt (H : Hp) (ps : PK) : Prop := ∀ p ∈ ps, KAt H p.1 p.2
theorem KsAt.same {H H' : Hp} {ps : PK} (h : KsAt H ps) (s : ∀ c xs, H c = some (.tup xs) → H' c = some (.tup xs)) : KsAt H' ps := fun p hp => s _ _ (h p hp)
def lfk (k : Kd) : List Lf := [.num (if k.1 = true then 1 else 0), .num (if k.2.1 = true then 1 else 0), .num k.2.2]
theorem lfk_inj {a b : Kd} (h : lfk a = lfk b) : a = b := by
  obtain ⟨a1, a2, a3⟩ := a
  obtain ⟨b1, b2, b3⟩ := b
  unfold lfk at h
  injection h with h1 h
  injection h with h2 h
  injection h with h3 h
  injection h1 with h1
  injection h2 with h2
  injection h3 with h3
  dsimp only at h1 h2 h3
  rw [h3]
  cases a1 <;> cases b1 <;> cases a2 <;> cases b2 <;> first | rfl | (simp at h1; done) | (simp at h2; done)
theorem KAt.key {H : Hp} {t : Addr} {k : Kd} (h : KAt H t k) : KeyT H t (lfk k) := ⟨kdV k, h, .cons (.bl _) (.cons (.bl _) (.cons (.int _) .nil))⟩
theorem KAt.de {K : PySem.W.Frag} {H : Hp} {t : Addr} {k : Kd} (h : KAt H t k) : De K H (.ref t) (kdD k) := .tup h (.cons (.bl _) (.cons (.bl _) (.cons (.int _) .nil)))
theorem KAt.dp {K : PySem.W.Frag} {H : Hp} {t : Addr} {k : Kd} (h : KAt H t k) : Dp K H (.ref t) (kdD k) := .tup (.inl (.inl h)) (.cons (.bl _) (.cons (.bl _) (.cons (.int _) .nil)))
theorem kd_alike (a b : Kd) : PySem.W.alike (kdD a) (kdD b) = true := by simp [kdD, PySem.W.alike, PySem.W.alikeAll]
theorem kd_eqv (a b : Kd) : PyData.eqv (kdD a) (kdD b) = decide (a = b) := by
  obtain ⟨a1, a2, a3⟩ := a
  obtain ⟨b1, b2, b3⟩ := b
  simp only [kdD, PyData.eqv, PyData.eqvAll]
  rw [Bool.eq_iff_iff]
  simp only [Bool.and_eq_true, decide_eq_true_eq, beq_iff_eq, Prod.mk.injEq]
  cases a1 <;> cases b1 <;> cases a2 <;> cases b2 <;> simp
theorem kd_lay (k : Kd) : (kdD k).canLay0 = true ∧ (kdD k).depth ≤ 8 := ⟨by simp [kdD, PyData.canLay0, PyData.canLayAll0], by simp [kdD, PyData.depth, PyData.depthAll]⟩
theorem kds_lay : ∀ ks : List Kd, PyData.canLayAll0 (ks.map kdD) = true
  | [] => rfl
  | k :: ks => by
    rw [List.map_cons]
    simp only [PyData.canLayAll0, (kd_lay k).1, kds_lay ks, Bool.and_self]
theorem KsAt.dp {K : PySem.W.Frag} {H : Hp} : ∀ {ps : PK}, KsAt H ps → DpAll K H (rfs ps) ((kds ps).map kdD)
  | [], _ => .nil
  | p :: ps, h => .cons (h p (by simp)).dp (KsAt.dp fun q hq => h q (List.mem_cons_of_mem _ hq))
theorem kds_any (ks : List Kd) (k : Kd) : ((ks.map kdD).any fun e => PyData.eqv e (kdD k)) = decide (k ∈ ks) := by
  rw [List.any_map, Bool.eq_iff_iff, List.any_eq_true, decide_eq_true_eq]
  constructor
  · rintro ⟨a, ha, e⟩
    have e : PyData.eqv (kdD a) (kdD k) = true := e
    rw [kd_eqv, decide_eq_true_eq] at e
    exact e ▸ ha
  · intro h
    exact ⟨k, h, by show PyData.eqv (kdD k) (kdD k) = true; rw [kd_eqv, decide_eq_true_eq]⟩
def encH (H : Hp) (t : Addr) : PyData := match H t with
  | some (.tup [.bl m, .bl f, .int c]) => kdD (m, f, c)
  | _ => .none
theorem KAt.enc {H : Hp} {t : Addr} {k : Kd} (h : KAt H t k) : encH H t = kdD k := by
  have h : H t = some (.tup [.bl k.1, .bl k.2.1, .int k.2.2]) := h
  unfold encH
  rw [h]
def srtK (ps : PK) : PK := ps.mergeSort (PySem.W.dataLe false fun p => kdD p.2)
theorem srtK_perm (ps : PK) : (srtK ps).Perm ps := List.mergeSort_perm _ _
theorem srt_refs {H : Hp} {ps : PK} (h : KsAt H ps) : ((ps.map (·.1)).mergeSort (PySem.W.dataLe false (encH H))).map V.ref = rfs (srtK ps) := by
  have z := List.map_mergeSort (r := PySem.W.dataLe false fun p : Addr × Kd => kdD p.2) (s := PySem.W.dataLe false (encH H)) (f := fun p : Addr × Kd => p.1) (l := ps) (fun a ha b hb => by
    rw [PySem.W.dataLe_eq, PySem.W.dataLe_eq]
    show (!PySem.W.dataLt (kdD b.2) (kdD a.2)) = !PySem.W.dataLt (encH H b.1) (encH H a.1)
    rw [(h a ha).enc, (h b hb).enc])
  rw [← z, List.map_map]
  rfl
def lks (ps : PK) : List (List Lf × Addr) := ps.map fun p => (lfk p.2, p.1)
theorem lks_fst (ps : PK) : (lks ps).map (·.1) = (kds ps).map lfk := by
  unfold lks kds
  rw [List.map_map, List.map_map]
  rfl
theorem lks_snd (ps : PK) : (lks ps).map (·.2) = ps.map (·.1) := by
  unfold lks
  rw [List.map_map]
  rfl
/-! ### is_kind, of a kind -/
def spIsK : Sp := fun vs H Q _ => ∃ (t : Addr) (k : Kd), vs = [.ref t] ∧ KAt H t k ∧ OkK k ∧ ∀ H', Same H H' → Q (.bl true) H'
section
variable {P : Program} {w : World} {K : PySem.W.Frag} {mg : Str → Option Value} {base : Heap} {f fK : Addr} {fd fdK : FuncData}
theorem ok_isK (F : Fun K "is_kind" "is_kind" (top 13) f fd) (gI : mg "isinstance" = none) (gT : mg "tuple" = none) (gL : mg "list" = none) (gN : mg "len" = none) (gB : mg "bool" = none) (gIn : mg "int" = none) : FnOk P w K mg base CX0 1 f fd ["kind"] spIsK := by
  have S0 : FnScope ["kind", "mark", "flag", "children"] ["kind"] (defScope (top 13)) := ⟨rfl, rfl, rfl, by decide +kernel, rfl, by decide +kernel, by decide +kernel⟩
  have nd := S0.nd
  refine F.ok S0 (fun vs H Q E h => ?_) (fun cdv A outer s H vs Q E hr h => ?_)
  · obtain ⟨t, k, rfl, _⟩ := h
    rfl
  · obtain ⟨t, ⟨m, g, c⟩, rfl, hk, ok, kk⟩ := h
    have hk : H t = some (.tup [.bl m, .bl g, .int c]) := hk
    have ok : 0 ≤ c ∧ c ≤ 2 := ok
    refine ⟨_, pss_cons (ps_if (PW.pt (pw_or (pt_not (pt_val (pe_callB call_isiT (by rfl) gI PyProof.Rows.boot_isinstance (pa_cons (pv 0) (pa_cons (pe_tup (pa_cons (pe_bltn (v := .ty "tuple") (by rfl) gT PyProof.Rows.boot_tuple rfl) (pa_cons (pe_bltn (v := .ty "list") (by rfl) gL PyProof.Rows.boot_list rfl) pa_nil))) pa_nil)))))
        (pw_or1 (pt_cmpR op_ne (pe_callB call_len_seq (by rfl) gN PySem.boot_len (pa_cons (pv 0) pa_nil)) pe_int (nomark _))))) (pss_one (ps_ret pe_bl)) pss_nil)
      (pss_cons (ps_asg (pv 0) (pg_tup rfl (pgs_cons (pg_name (i := 1) nd rfl (Or.inl rfl)) (pgs_cons (pg_name (i := 2) nd rfl (Or.inl rfl)) (pgs_cons (pg_name (i := 3) nd rfl (Or.inl rfl)) pgs_nil)))))
      (pss_cons (ps_if (PW.pt (pw_or (pt_not (pt_val (pe_callB (r := rIsi K) call_isi (by rfl) gI PyProof.Rows.boot_isinstance (pa_cons (pv 1) (pa_cons (pe_bltn (v := .ty "bool") (by rfl) gB PyProof.Rows.boot_bool rfl) pa_nil)))))
        (pw_or1 (pt_not (pt_val (pe_callB (r := rIsi K) call_isi (by rfl) gI PyProof.Rows.boot_isinstance (pa_cons (pv 2) (pa_cons (pe_bltn (v := .ty "bool") (by rfl) gB PyProof.Rows.boot_bool rfl) pa_nil)))))))) (pss_one (ps_ret pe_bl)) pss_nil)
      (pss_one (ps_ret (pe_and (pe_callB (r := rIsi K) call_isi (by rfl) gI PyProof.Rows.boot_isinstance (pa_cons (pv 3) (pa_cons (pe_bltn (v := .ty "int") (by rfl) gIn PyProof.Rows.boot_int rfl) pa_nil)))
        (pe_and (pe_not (pe_callB (r := rIsi K) call_isi (by rfl) gI PyProof.Rows.boot_isinstance (pa_cons (pv 3) (pa_cons (pe_bltn (v := .ty "bool") (by rfl) gB PyProof.Rows.boot_bool rfl) pa_nil))))
          (pe_one (pe_chain op_le op_le pe_int (pv 3) pe_int)))))))), ?_⟩
    refine ⟨V.ref t, rfl, (by show 2 ≤ sizeLine; decide), fun tp hp => ?_⟩
    have s1 := upd_new (o := .tup [.ty "tuple", .ty "list"]) hp
    have t1 : upd H tp (.tup [.ty "tuple", .ty "list"]) tp = some (.tup [.ty "tuple", .ty "list"]) := upd_same
    generalize upd H tp (.tup [.ty "tuple", .ty "list"]) = H1 at s1 t1
    have hk1 := s1 _ _ hk
    refine ⟨V.ref t, tp, [.ty "tuple", .ty "list"], .type "tuple", [.type "tuple", .type "list"], true, rfl, t1, .cons (.ty _) (.cons (.ty _) .nil), .base (.tup hk1), kitAny_cons (b := true) (kit_ty (by decide +kernel)) (fun e => nomatch e) (fun _ => rfl), _, rfl, ?_⟩
    refine iteF ⟨V.ref t, rfl, t, _, rfl, .inr (.inl (.inl hk1)), rfl, _, rfl, ?_⟩
    refine neT rfl ?_
    refine ⟨V.ref t, rfl, t, _, rfl, .inl (.inl hk1), rfl, _, _, rfl, _, _, rfl, _, _, rfl, rfl, ?_⟩
    refine ⟨V.bl m, rfl, .bl m, .ty "bool", .type "bool", .type "bool", true, rfl, .ty _, .base (.bl m), kit_ty (by decide +kernel), _, rfl, iteF ⟨V.bl g, rfl, .bl g, .ty "bool", .type "bool", .type "bool", true, rfl, .ty _, .base (.bl g), kit_ty (by decide +kernel), _, rfl, iteF ?_⟩⟩
    refine ⟨V.int c, rfl, .int c, .ty "int", .type "int", .type "int", true, rfl, .ty _, .base (.int c), kit_ty (by decide +kernel), true, rfl, iteT ?_⟩
    refine ⟨V.int c, rfl, .int c, .ty "bool", .type "int", .type "bool", false, rfl, .ty _, .base (.int c), kit_ty (by decide +kernel), _, rfl, true, rfl, iteT ?_⟩
    refine ⟨V.int c, rfl, 0, c, rfl, rfl, _, rfl, ?_⟩
    rw [decide_eq_true ok.1]
    refine iteT ⟨c, 2, rfl, rfl, ?_⟩
    show Q (.bl (decide (c ≤ 2))) H1
    rw [decide_eq_true ok.2]
    exact kk H1 s1
end
end SK
namespace SK
open PySem PySem.Spec PyProof.Rows L2 LamX NdefX
open K0 (De DeAll XCl spX withX)
/-! ### a rule is made of kinds -/
theorem rfs_at {ps : PK} {i : Nat} {v : V} (h : (rfs ps)[i]? = some v) : ∃ p, ps[i]? = some p ∧ v = .ref p.1 := map_at h
def spCk : Sp := fun vs H Q _ => ∃ (v : V) (l : Addr) (ps : PK), vs = [v, .ref l] ∧ H l = some (.lst (rfs ps)) ∧ KsAt H ps ∧ (∀ p ∈ ps, OkK p.2) ∧ (kds ps).Nodup ∧ ps.length ≤ 100 ∧ ∀ (H' : Hp) (r : Addr), Same H H' → H' r = some (.tup (rfs (srtK ps))) → Q (.ref r) H'
section
variable {P : Program} {w : World} {K : PySem.W.Frag} {mg : Str → Option Value} {base : Heap} {f fK fC CT : Addr} {fd fdK fdC : FuncData}
theorem ok_ck (F : Fun K "checked_kinds" "checked_kinds" (top 14) f fd) (gE : mg "enumerate" = none) (gT : mg "tuple" = none) (gS : mg "sorted" = none) (hsys : ∃ o, K.lookup sysModules = some o)
    (gK : mg "is_kind" = some (.ref fK)) (kK : PySem.W.keepIn K (.ref fK) = true) (GK : FnOk P w K mg base CX0 1 fK fdK ["kind"] spIsK) (bK : Binds K fdK ["kind"] []) : FnOk P w K mg base CX0 2 f fd ["side", "kinds"] spCk := by
  have S0 : FnScope ["side", "kinds", "known", "number", "kind"] ["side", "kinds"] (defScope (top 14)) := ⟨rfl, rfl, rfl, by decide +kernel, rfl, by decide +kernel, by decide +kernel⟩
  have nd := S0.nd
  refine F.ok S0 (fun vs H Q E h => ?_) (fun cdv A outer s H vs Q E hr h => ?_)
  · obtain ⟨v, l, ps, rfl, _⟩ := h
    rfl
  · obtain ⟨v, l, ps, rfl, hl, hK, hok, hnd, hz, kk⟩ := h
    have hu := hu_of hr
    have hu64 := hr.units
    refine ⟨_, pss_cons (ps_set (i := 2) nd rfl (Or.inl rfl) pe_dnewL)
      (pss_cons (ps_for PassesOwn.never rfl (pi_enum (by rfl) gE (pa_cons (pv 1) pa_nil)) (pg_tup rfl (pgs_cons (pg_name (i := 3) nd rfl (Or.inl rfl)) (pgs_cons (pg_name (i := 4) nd rfl (Or.inl rfl)) pgs_nil)))
        (pss_cons (ps_if (PW.pt (pw_or (pt_not (pt_val (pe_call GK hr (by rfl) gK kK bK .nil pass0 (pa_cons (pv 4) pa_nil)))) (pw_or1 (pt_cmp (pc_dinL hu (pe_callTy call_tuple_of (by rfl) gT PyProof.Rows.boot_tuple (pa_cons (pv 4) pa_nil)) (pv 2)))))) pss_dead pss_nil)
        (pss_one (ps_dputL hu (pv 2) (pe_callTy call_tuple_of (by rfl) gT PyProof.Rows.boot_tuple (pa_cons (pv 4) pa_nil)) pe_bl rfl))))
      (pss_one (ps_ret (pe_callTy call_tuple_of (by rfl) gT PyProof.Rows.boot_tuple (pa_cons (pe_callB (cr_sortDL rfl hu64 hsys) (by rfl) gS PyProof.Rows.boot_sorted (pa_cons (pv 2) pa_nil)) pa_nil))))), ?_⟩
    intro d hd D0
    have s0 : Same H (upd H d (DLo P w d [])) := upd_new hd
    have hl0 := s0 _ _ hl
    refine ⟨V.ref l, rfl, l, _, rfl, .inl (.inl hl0), for_it walk_enum (fun i σ G => ∃ (x3 x4 : Option V), σ = [some v, some (.ref l), some (.ref d), x3, x4] ∧ Same H G ∧ DL P w G d (lks (ps.take i)))
      ⟨none, none, rfl, s0, D0⟩ (fun i σ G _ q => .inl (.inl (by obtain ⟨x3, x4, _, s, _⟩ := q; exact s _ _ hl))) ?_ ?_⟩
    · rintro i x σ G G' hi ⟨x3, x4, rfl, sG, DG⟩ ⟨T, y, z, rfl, nT, rfl, hy, hz2⟩
      obtain ⟨p, hp, rfl⟩ := rfs_at hz2
      have hy := Option.some.inj hy
      subst hy
      have s1 := upd_new (o := .tup [V.int (i : Nat), V.ref p.1]) nT
      have hT : upd G T (.tup [V.int (i : Nat), V.ref p.1]) T = some (.tup [V.int (i : Nat), V.ref p.1]) := upd_same
      have DG1 := DG.same s1
      have sG1 := sG.trans s1
      generalize upd G T (.tup [V.int (i : Nat), V.ref p.1]) = G1 at s1 hT DG1 sG1
      have hpm := List.mem_of_getElem? hp
      have hk1 : KAt G1 p.1 p.2 := sG1 _ _ (hK p hpm)
      refine ⟨T, _, rfl, .inl (.inl hT), rfl, _, _, rfl, _, _, rfl, rfl, ?_⟩
      refine ⟨V.ref p.1, rfl, p.1, p.2, rfl, hk1, hok p hpm, fun G2 s2 => ⟨_, rfl, iteF ?_⟩⟩
      have hk2 : KAt G2 p.1 p.2 := s2 _ _ hk1
      have DG2 := DG1.same s2
      have nk : lfk p.2 ∉ (lks (ps.take i)).map (·.1) := fun z => by
        rw [lks_fst] at z
        obtain ⟨k2, hk2, e⟩ := List.mem_map.mp z
        have e := lfk_inj e
        subst e
        obtain ⟨j, hj⟩ := List.mem_iff_getElem?.mp hk2
        have hjl : j < i := by
          have z := (List.getElem?_eq_some_iff.mp hj).1
          unfold kds at z
          rw [List.length_map, List.length_take] at z
          omega
        have e1 : (kds ps)[j]? = some p.2 := by
          unfold kds at hj ⊢
          rw [List.getElem?_map, List.getElem?_take_of_lt hjl] at hj
          rw [List.getElem?_map]
          exact hj
        have e2 : (kds ps)[i]? = some p.2 := by
          unfold kds
          rw [List.getElem?_map, hp]
          rfl
        have hil := (List.getElem?_eq_some_iff.mp e2).1
        have z := (List.getElem?_inj (by omega) hnd).mp (e1.trans e2.symm)
        omega
      refine ⟨V.ref p.1, rfl, p.1, kdV p.2, rfl, .inr ⟨.inl (.inl hk2), V.ref d, rfl, d, _, lfk p.2, p.1, rfl, DG2, rfl, hk2.key, _, rfl, ?_⟩⟩
      rw [decide_eq_false nk]
      refine iteF ?_
      have ilt := (List.getElem?_eq_some_iff.mp hp).1
      refine ⟨V.ref d, rfl, V.ref p.1, rfl, p.1, kdV p.2, rfl, .inr ⟨.inl (.inl hk2), d, _, lfk p.2, p.1, rfl, DG2, rfl, hk2.key, rfl, nk, ?_, fun DG3 => ⟨_, _, rfl, ?_, ?_⟩⟩⟩
      · unfold lks
        rw [List.length_map, List.length_take]
        omega
      · intro b o e
        have nb : b ≠ d := fun z => by
          rw [z, hd] at e
          cases e
        rw [upd_ne nb]
        exact s2 _ _ (sG1 _ _ e)
      · have e : lks (ps.take (i + 1)) = lks (ps.take i) ++ [(lfk p.2, p.1)] := by
          unfold lks
          rw [take_snoc hp, List.map_append]
          rfl
        rw [e]
        exact DG3
    · rintro σ G ⟨x3, x4, rfl, sG, DG⟩
      have el : (rfs ps).length = ps.length := by
        unfold rfs
        rw [List.length_map]
      rw [el, List.take_length] at DG
      have hKG : KsAt G ps := hK.same fun c xs e => sG _ _ e
      refine ⟨V.ref d, rfl, d, lks ps, encH G, rfl, DG, ?_, ?_, ?_, ?_, fun p np => ?_⟩
      · intro q hq
        obtain ⟨p, hp, rfl⟩ := List.mem_map.mp hq
        show De K G (.ref p.1) (encH G p.1)
        rw [(hKG p hp).enc]
        exact (hKG p hp).de
      · intro x hx y hy
        rw [lks_snd, List.map_map] at hx hy
        obtain ⟨p, hp, rfl⟩ := List.mem_map.mp hx
        obtain ⟨q, hq, rfl⟩ := List.mem_map.mp hy
        show PySem.W.alike (encH G p.1) (encH G q.1) = true
        rw [(hKG p hp).enc, (hKG q hq).enc]
        exact kd_alike _ _
      · refine .inl fun x hx => ?_
        rw [lks_snd, List.map_map] at hx
        obtain ⟨p, hp, rfl⟩ := List.mem_map.mp hx
        refine ⟨.bool p.2.1, [.bool p.2.2.1, .int p.2.2.2], ?_⟩
        show encH G p.1 = _
        rw [(hKG p hp).enc]
        rfl
      · intro q hq
        obtain ⟨p, hp, rfl⟩ := List.mem_map.mp hq
        show (encH G p.1).depth ≤ 8
        rw [(hKG p hp).enc]
        exact (kd_lay _).2
      · rw [lks_snd, srt_refs hKG]
        have sp := upd_new (o := .lst (rfs (srtK ps))) np
        refine ⟨p, _, rfl, .inl ⟨.inl (.inl upd_same), fun r nr => ?_⟩⟩
        exact kk _ r ((sG.trans sp).trans (upd_new nr)) upd_same
/-! ### Rule -/
def spInitR (CT : Addr) : Sp := fun vs H Q _ => ∃ (x dx lr lo : Addr) (pr po : PK), vs = [.ref x, .ref lr, .ref lo] ∧ H x = some (.ins CT dx []) ∧ H lr = some (.lst (rfs pr)) ∧ H lo = some (.lst (rfs po)) ∧ KsAt H pr ∧ KsAt H po ∧ (∀ p ∈ pr, OkK p.2) ∧ (∀ p ∈ po, OkK p.2) ∧ (kds pr).Nodup ∧ (kds po).Nodup ∧ pr.length ≤ 100 ∧ po.length ≤ 100 ∧
  ∀ (H' : Hp) (fs : List (Str × V)) (tr to' : Addr), (∀ b o, b ≠ x → H b = some o → H' b = some o) → H' x = some (.ins CT dx fs) → fs.lookup ("root" : Str) = some (.ref tr) → fs.lookup ("others" : Str) = some (.ref to') → H' tr = some (.tup (rfs (srtK pr))) → H' to' = some (.tup (rfs (srtK po))) → Q .non H'
theorem ok_initR (F : Fun K "__init__" "Rule.__init__" (inClass (top 15) 0) f fd) (cT : Cls K CT) (n1 : NoAttr K CT "root") (n2 : NoAttr K CT "others")
    (gC : mg "checked_kinds" = some (.ref fC)) (kC : PySem.W.keepIn K (.ref fC) = true) (GC : FnOk P w K mg base CX0 2 fC fdC ["side", "kinds"] spCk) (bC : Binds K fdC ["side", "kinds"] []) : FnOk P w K mg base CX0 3 f fd ["self", "root", "others"] (spInitR CT) := by
  have S0 : FnScope ["self", "root", "others"] ["self", "root", "others"] (defScope (inClass (top 15) 0)) := ⟨rfl, rfl, rfl, by decide +kernel, rfl, by decide +kernel, by decide +kernel⟩
  have nd := S0.nd
  refine F.ok S0 (fun vs H Q E h => ?_) (fun cdv A outer s H vs Q E hr h => ?_)
  · obtain ⟨x, dx, lr, lo, pr, po, rfl, _⟩ := h
    rfl
  · obtain ⟨x, dx, lr, lo, pr, po, rfl, hx, hlr, hlo, k1, k2, o1, o2, d1, d2, z1, z2, kk⟩ := h
    refine ⟨_, pss_cons (ps_fld (pv 0) (pe_call GC hr (by rfl) gC kC bC .nil pass0 (pa_cons pe_str (pa_cons (pv 1) pa_nil))) rfl)
      (pss_one (ps_fld (pv 0) (pe_call GC hr (by rfl) gC kC bC .nil pass0 (pa_cons pe_str (pa_cons (pv 2) pa_nil))) rfl)), ?_⟩
    refine ⟨V.ref lr, rfl, .str "root", lr, pr, rfl, hlr, k1, o1, d1, z1, fun H1 tr s1 h1 => ⟨V.ref x, rfl, x, CT, dx, _, rfl, s1 _ _ hx, cT, n1, (by decide), ?_⟩⟩
    have hx1 := s1 _ _ hx
    have nl : lo ≠ x := ne_of (s1 _ _ hlo) hx1 (by intro z; cases z)
    have nt : tr ≠ x := ne_of h1 hx1 (by intro z; cases z)
    have g2 : ∀ b o, b ≠ x → H b = some o → upd H1 x (.ins CT dx (putF "root" (.ref tr) [])) b = some o := fun b o hb e => by
      rw [upd_ne hb]
      exact s1 _ _ e
    have hx2 : upd H1 x (.ins CT dx (putF "root" (.ref tr) [])) x = some (.ins CT dx (putF "root" (.ref tr) [])) := upd_same
    have ht2 : upd H1 x (.ins CT dx (putF "root" (.ref tr) [])) tr = some (.tup (rfs (srtK pr))) := by
      rw [upd_ne nt]
      exact h1
    generalize upd H1 x (.ins CT dx (putF "root" (.ref tr) [])) = H2 at g2 hx2 ht2
    have k2' : KsAt H2 po := k2.same fun c xs e => g2 _ _ (ne_of e hx (by intro z; cases z)) e
    refine ⟨V.ref lo, rfl, .str "others", lo, po, rfl, g2 _ _ nl hlo, k2', o2, d2, z2, fun H3 to' s3 h3 => ⟨V.ref x, rfl, x, CT, dx, _, rfl, s3 _ _ hx2, cT, n2, (by show 1 < 1000; decide), ?_⟩⟩
    have hx3 := s3 _ _ hx2
    have nt3 : to' ≠ x := ne_of h3 hx3 (by intro z; cases z)
    refine kk _ _ tr to' (fun b o hb e => ?_) upd_same ?_ ?_ ?_ ?_
    · rw [upd_ne hb]
      exact s3 _ _ (g2 _ _ hb e)
    · rw [lookup_putF, if_neg (by decide), lookup_putF, if_pos rfl]
    · rw [lookup_putF, if_pos rfl]
    · rw [upd_ne nt]
      exact s3 _ _ ht2
    · rw [upd_ne nt3]
      exact h3
end
end SK
namespace SK
open PySem PySem.Spec PyProof.Rows L2 LamX NdefX
open K0 (De DeAll XCl spX withX)
/-! ### rules, read -/
structure RuleC (K : PySem.W.Frag) (CT : Addr) : Prop where
  cl : Cls K CT
  n1 : NoAttr K CT "root"
  n2 : NoAttr K CT "others"
def RuleR (CT : Addr) (H : Hp) (x : V) (pr po : PK) : Prop := ∃ (a dx : Addr) (fs : List (Str × V)) (tr to' : Addr), x = .ref a ∧ H a = some (.ins CT dx fs) ∧ fs.lookup ("root" : Str) = some (.ref tr) ∧ fs.lookup ("others" : Str) = some (.ref to') ∧ H tr = some (.tup (rfs pr)) ∧ H to' = some (.tup (rfs po)) ∧ KsAt H pr ∧ KsAt H po ∧ pr.length < 64 ∧ po.length < 64
theorem RuleR.same {CT : Addr} {H H' : Hp} {x : V} {pr po : PK} (h : RuleR CT H x pr po) (s : Same H H') : RuleR CT H' x pr po := by
  obtain ⟨a, dx, fs, tr, to', e, h1, h2, h3, h4, h5, h6, h7, h8⟩ := h
  exact ⟨a, dx, fs, tr, to', e, s _ _ h1, h2, h3, s _ _ h4, s _ _ h5, h6.same fun c xs e => s _ _ e, h7.same fun c xs e => s _ _ e, h8⟩
def childL (O : List Kd) (b : Bool) : List Int := (O.filter fun k => decide (k.1 = b)).map (·.2.2)
theorem child_perm {O O' : List Kd} (h : O.Perm O') (b : Bool) : (childL O b).Perm (childL O' b) := (h.filter _).map _
def bareB (O : List Kd) : Bool := decide (0 ∈ childL O false)
def leastP (O : List Kd) (w : Bool) : Option Int := if w = true then (if 0 ∈ childL O true then some 1 else if bareB O = true then (childL O true).min?.map (1 + ·) else none) else if bareB O = true then some 1 else none
def optV : Option Int → V
  | none => .non
  | some i => .int i
theorem inV_int (i : Int) (ns : List Int) : inV (.int i) (ns.map V.int) = decide (i ∈ ns) := by
  unfold inV
  rw [List.any_map, Bool.eq_iff_iff, List.any_eq_true, decide_eq_true_eq]
  constructor
  · rintro ⟨n, hn, e⟩
    have e : eqV (.int n) (.int i) = true := e
    have e : n = i := by simpa [eqV] using e
    exact e ▸ hn
  · intro h
    exact ⟨i, h, by show eqV (.int i) (.int i) = true; simp [eqV]⟩
theorem flat_ints (ns : List Int) : (ns.map V.int).all flatV = true := by
  rw [List.all_map, List.all_eq_true]
  intro n _
  rfl
theorem head_min : ∀ {ns ms : List Int}, ns.Perm ms → ns.Pairwise (· ≤ ·) → ns.head? = ms.min?
  | [], ms, h, _ => by
    have e : ms = [] := h.symm.eq_nil
    rw [e]
    rfl
  | n :: ns, ms, h, p => by
    have m : n ∈ ms := h.mem_iff.mp (by simp)
    have le : ∀ x ∈ ms, n ≤ x := fun x hx => by
      rcases List.mem_cons.mp (h.mem_iff.mpr hx) with rfl | hx
      · exact Int.le_refl _
      · exact (List.pairwise_cons.mp p).1 x hx
    exact (List.min?_eq_some_iff.mpr ⟨m, le⟩).symm
def spChild (CT : Addr) : Sp := fun vs H Q _ => ∃ (x : V) (b : Bool) (pr po : PK), vs = [x, .bl b] ∧ RuleR CT H x pr po ∧ ∀ (H' : Hp) (l : Addr) (ns : List Int), Same H H' → ns.Perm (childL (kds po) b) → ns.Pairwise (· ≤ ·) → H' l = some (.lst (ns.map V.int)) → Q (.ref l) H'
def spLeast (CT : Addr) : Sp := fun vs H Q _ => ∃ (x : V) (b : Bool) (pr po : PK), vs = [x, .bl b] ∧ RuleR CT H x pr po ∧ ∀ H' : Hp, Same H H' → Q (optV (leastP (kds po) b)) H'
section
variable {P : Program} {w : World} {K : PySem.W.Frag} {mg : Str → Option Value} {base : Heap} {f fCh fCt fCe fLe CT : Addr} {fd fdCh fdCt fdCe fdLe : FuncData}
theorem ok_child (F : Fun K "children_let" "children_let" (top 7) f fd) (R : RuleC K CT) (gS : mg "sorted" = none) : FnOk P w K mg base CX0 1 f fd ["rule", "mark"] (spChild CT) := by
  have S0 : FnScope ["rule", "mark", "kind"] ["rule", "mark"] (defScope (top 7)) := ⟨rfl, rfl, rfl, by decide +kernel, rfl, by decide +kernel, by decide +kernel⟩
  have nd := S0.nd
  refine F.ok S0 (fun vs H Q E h => ?_) (fun cdv A outer s H vs Q E hr h => ?_)
  · obtain ⟨x, b, pr, po, rfl, _⟩ := h
    rfl
  · obtain ⟨x, b, pr, po, rfl, hR, kk⟩ := h
    obtain ⟨a, dx, fs, tr, to', rfl, ha, e1, e2, h1, h2, k1, k2, z1, z2⟩ := hR
    refine ⟨_, pss_one (ps_ret (pe_callB (r := rSorted K) cr_sorted (by rfl) gS PyProof.Rows.boot_sorted (pa_cons (pe_lc (own := [("kind", 2)]) (g := gName 2) rfl nd (pi_tup (pe_fld (pv 0) rfl)) (blkOk_by (N := ["rule", "mark", "kind"]) (sc := defScope (top 7)) (by decide +kernel)) (fun _ _ _ _ _ => pg_name (i := 2) nd rfl (Or.inl rfl))
      (fun _ _ _ _ _ => pts_one (pt_cmpR op_eq (pe_ix (r := rIxT K) ix_tup (pv 2) pe_int (fun _ _ => rfl)) (pv 1) (nomark _))) (fun _ _ _ _ _ => pe_ix (r := rIxT K) ix_tup (pv 2) pe_int (fun _ _ => rfl))) pa_nil))), ?_⟩
    refine ⟨V.ref a, rfl, a, CT, dx, _, _, rfl, ha, R.cl, R.n2, e2, to', rfl, ⟨_, .inl (.inl h2)⟩, fun D nD => lcF_tup (K := K) (ws := po) (fun p => V.ref p.1) nD (fun p => V.int p.2.2.2) (fun p => decide (p.2.1 = b)) (.inl (.inl h2)) (Nat.lt_of_lt_of_le z2 (by decide)) (fun i p G hp sG A B kA kB => ?_) fun G sG hD => ?_⟩
    · have hk : G p.1 = some (.tup (kdV p.2)) := sG _ _ (k2 p (List.mem_of_getElem? hp))
      refine ⟨rfl, V.ref p.1, rfl, p.1, _, 0, .bl p.2.1, rfl, rfl, .inl (.inl hk), rfl, V.bl b, rfl, rfl, _, rfl, ?_⟩
      by_cases c : p.2.1 = b
      · rw [decide_eq_true (show V.bl p.2.1 = V.bl b by rw [c])]
        exact iteT ⟨V.ref p.1, rfl, p.1, _, 2, .int p.2.2.2, rfl, rfl, .inl (.inl hk), rfl, kA (decide_eq_true c)⟩
      · rw [decide_eq_false (show ¬ V.bl p.2.1 = V.bl b from fun z => c (by injection z))]
        exact iteF (kB (decide_eq_false c))
    · have e : (po.filter fun p => decide (p.2.1 = b)).map (fun p => V.int p.2.2.2) = (childL (kds po) b).map V.int := by
        unfold childL kds
        rw [List.filter_map, List.map_map, List.map_map]
        rfl
      rw [e] at hD
      refine ⟨D, childL (kds po) b, rfl, .inl (.inl hD), ?_, fun ns l pm ps nl => kk _ l ns (sG.trans (upd_new nl)) pm ps upd_same⟩
      unfold childL
      rw [List.length_map]
      refine Nat.lt_of_le_of_lt (List.length_filter_le _ _) ?_
      unfold kds
      rw [List.length_map]
      exact z2
theorem ok_least (F : Fun K "least_part" "least_part" (top 8) f fd) (gC : mg "children_let" = some (.ref fCh)) (kC : PySem.W.keepIn K (.ref fCh) = true) (GC : FnOk P w K mg base CX0 1 fCh fdCh ["rule", "mark"] (spChild CT)) (bC : Binds K fdCh ["rule", "mark"] []) : FnOk P w K mg base CX0 2 f fd ["rule", "words"] (spLeast CT) := by
  have S0 : FnScope ["rule", "words", "bare", "marked"] ["rule", "words"] (defScope (top 8)) := ⟨rfl, rfl, rfl, by decide +kernel, rfl, by decide +kernel, by decide +kernel⟩
  have nd := S0.nd
  refine F.ok S0 (fun vs H Q E h => ?_) (fun cdv A outer s H vs Q E hr h => ?_)
  · obtain ⟨x, b, pr, po, rfl, _⟩ := h
    rfl
  · obtain ⟨x, b, pr, po, rfl, hR, kk⟩ := h
    refine ⟨_, pss_cons (ps_set (i := 2) nd rfl (Or.inl rfl) (pe_ifExp (pt_cmpR (r := rIn K false) op_in_seq pe_int (pe_call GC hr (by rfl) gC kC bC .nil pass0 (pa_cons (pv 0) (pa_cons pe_bl pa_nil))) (by rfl)) pe_int pe_non))
      (pss_cons (ps_if (pt_not (pt_val (pv 1))) (pss_one (ps_ret (pv 2))) pss_nil)
      (pss_cons (ps_set (i := 3) nd rfl (Or.inl rfl) (pe_call GC hr (by rfl) gC kC bC .nil pass0 (pa_cons (pv 0) (pa_cons pe_bl pa_nil))))
      (pss_cons (ps_if (pt_cmpR (r := rIn K false) op_in_seq pe_int (pv 3) (by rfl)) (pss_one (ps_ret pe_int)) pss_nil)
      (pss_one (ps_ret (pe_ifExp (PW.pt (pw_and (pt_truth (pv 3) (by intro _; rfl)) (pw_and1 (pt_cmpR op_notN (pv 2) pe_non (nomark _))))) (pe_op op_add pe_int (pe_ix ix_list (pv 3) pe_int (fun _ _ => rfl))) pe_non)))))), ?_⟩
    refine ⟨x, rfl, x, false, pr, po, rfl, hR, fun H1 l1 n1 s1 p1 q1 h1 => ⟨l1, _, rfl, .inl (.inl (.inl h1)), rfl, flat_ints _, _, rfl, ?_⟩⟩
    dsimp only
    rw [inV_int, show decide ((0 : Int) ∈ n1) = bareB (kds po) from decide_eq_decide.mpr p1.mem_iff]
    have hR1 := hR.same s1
    refine if_val (z := optV (if bareB (kds po) = true then some 1 else none)) (fun c Q q => ?_) (fun c Q q => ?_) ?_
    · have c : bareB (kds po) = true := c
      rw [c] at q
      exact q
    · have c : bareB (kds po) = false := c
      rw [c] at q
      exact q
    refine ⟨.bl b, rfl, _, rfl, ?_⟩
    cases b with
    | false =>
      refine iteT ⟨_, rfl, ?_⟩
      have z := kk H1 s1
      unfold leastP at z
      rw [if_neg Bool.false_ne_true] at z
      exact z
    | true =>
      refine iteF ⟨x, rfl, x, true, pr, po, rfl, hR1, fun H2 l2 n2 s2 p2 q2 h2 => ⟨V.ref l2, rfl, l2, _, rfl, .inl (.inl (.inl h2)), rfl, flat_ints _, _, rfl, ?_⟩⟩
      have z := kk H2 (s1.trans s2)
      unfold leastP at z
      rw [if_pos rfl] at z
      dsimp only
      rw [inV_int, show decide ((0 : Int) ∈ n2) = decide (0 ∈ childL (kds po) true) from decide_eq_decide.mpr p2.mem_iff]
      by_cases c0 : (0 : Int) ∈ childL (kds po) true
      · rw [decide_eq_true c0]
        rw [if_pos c0] at z
        exact iteT z
      · rw [decide_eq_false c0]
        rw [if_neg c0] at z
        refine iteF ⟨V.ref l2, rfl, !(n2.map V.int).isEmpty, .inl ⟨_, .inl (.inl h2), rfl⟩, ?_⟩
        have hm := head_min p2 q2
        cases n2 with
        | nil =>
          refine iteF ?_
          rw [← hm] at z
          have e : (if bareB (kds po) = true then ([] : List Int).head?.map (1 + ·) else none) = none := by split <;> rfl
          rw [e] at z
          exact z
        | cons n n2 =>
          refine iteT ⟨optV (if bareB (kds po) = true then some 1 else none), rfl, rfl, _, rfl, ?_⟩
          rw [← hm] at z
          by_cases cb : bareB (kds po) = true
          · rw [if_pos cb] at z ⊢
            rw [decide_eq_false (show ¬ optV (some 1) = V.non from fun q => nomatch q)]
            refine iteT ⟨V.ref l2, rfl, l2, _, 0, .int n, rfl, rfl, .inl (.inl h2), (atI_nat (show ((n :: n2).map V.int)[0]? = some (V.int n) from rfl)), 1, n, rfl, rfl, ?_⟩
            exact z
          · rw [if_neg cb] at z ⊢
            exact iteF z
end
end SK
namespace SK
open PySem PySem.Spec PyProof.Rows L2 LamX NdefX
open K0 (De DeAll XCl spX withX)
/-! ### cells -/
def tyN : PyData → String
  | .none => "NoneType"
  | .bool _ => "bool"
  | .int _ => "int"
  | .str _ => "str"
  | .list _ => "list"
  | .tuple _ => "tuple"
  | .dict _ => "dict"
theorem de_ty {K : PySem.W.Frag} {H : Hp} {v : V} {d : PyData} (h : De K H v d) : TyX K H v (.type (tyN d)) := by
  cases h with
  | non => exact .base .non
  | bl b => exact .base (.bl b)
  | int i => exact .base (.int i)
  | str x => exact .base (.str x)
  | lst ha hd => exact .base (.lst ha)
  | tup ha hd => exact .base (.tup ha)
  | dic ha => exact .base (.dK ha)
def isI : PyData → Bool
  | .int _ => true
  | .bool _ => true
  | _ => false
def isTu : PyData → Bool
  | .tuple _ => true
  | _ => false
theorem kit_bool (d : PyData) : kitB (tyN d) "bool" = some (isB d) := by cases d <;> (simp only [tyN, isB]; decide +kernel)
theorem kit_int (d : PyData) : kitB (tyN d) "int" = some (isI d) := by cases d <;> (simp only [tyN, isI]; decide +kernel)
theorem kit_tup (d : PyData) : kitB (tyN d) "tuple" = some (isTu d) := by cases d <;> (simp only [tyN, isTu]; decide +kernel)
def okC : PyData → Bool
  | .int i => decide (0 ≤ i) && decide (i ≤ 2)
  | _ => false
def spCount (K : PySem.W.Frag) : Sp := fun vs H Q _ => ∃ (v : V) (d : PyData), vs = [v] ∧ De K H v d ∧ Q (.bl (okC d)) H
def okCell : PyData → Bool
  | .tuple [m, f, o, w] => isB m && (isB f && (okC o && isB w))
  | _ => false
def spIsCell (K : PySem.W.Frag) : Sp := fun vs H Q _ => ∃ (v : V) (d : PyData), vs = [v] ∧ De K H v d ∧ Q (.bl (okCell d)) H
def nextC (g : Bool) (o : Int) : Int := if g = true then (if o + 1 < 2 then o + 1 else 2) else o
def letC (R O : List Kd) (r g : Bool) (m f : Bool) (o : Int) (w : Bool) : Bool := if (m, f, nextC g o) ∈ (if r = true then R else O) then (if o = 0 then !w else (leastP O w).isSome) else false
def letD (R O : List Kd) (r g : Bool) : PyData → Bool
  | .tuple [.bool m, .bool f, .int o, .bool w] => okC (.int o) && letC R O r g m f o w
  | _ => false
theorem letD_no {R O : List Kd} {r g : Bool} {d : PyData} (h : okCell d = false) : letD R O r g d = false := by
  unfold letD
  split
  · rename_i m f o w
    have h : (isB (.bool m) && (isB (.bool f) && (okC (.int o) && isB (.bool w)))) = false := h
    have z : okC (.int o) = false := by simpa [isB] using h
    rw [z]
    rfl
  · rfl
theorem cell_yes' {d : PyData} (h : okCell d = true) : ∃ m f o w, d = .tuple [.bool m, .bool f, .int o, .bool w] ∧ okC (.int o) = true := by
  unfold okCell at h
  split at h
  · rename_i m f o w
    simp only [Bool.and_eq_true] at h
    obtain ⟨h1, h2, h3, h4⟩ := h
    cases m <;> first | (cases h1; done) | skip
    cases f <;> first | (cases h2; done) | skip
    cases o <;> first | (cases h3; done) | skip
    cases w <;> first | (cases h4; done) | skip
    exact ⟨_, _, _, _, rfl, h3⟩
  · cases h
def spLet (K : PySem.W.Frag) (CT : Addr) : Sp := fun vs H Q _ => ∃ (x v : V) (r g : Bool) (d : PyData) (pr po : PK), vs = [x, v, .bl r, .bl g] ∧ RuleR CT H x pr po ∧ De K H v d ∧ ∀ H' : Hp, Same H H' → Q (.bl (letD (kds pr) (kds po) r g d)) H'
section
variable {P : Program} {w : World} {K : PySem.W.Frag} {mg : Str → Option Value} {base : Heap} {f fCt fCe fLe CT : Addr} {fd fdCt fdCe fdLe : FuncData}
theorem ok_count (F : Fun K "is_count" "is_count" (top 5) f fd) (gI : mg "isinstance" = none) (gB : mg "bool" = none) (gIn : mg "int" = none) : FnOk P w K mg base CX0 1 f fd ["value"] (spCount K) := by
  have S0 : FnScope ["value"] ["value"] (defScope (top 5)) := ⟨rfl, rfl, rfl, by decide +kernel, rfl, by decide +kernel, by decide +kernel⟩
  have nd := S0.nd
  refine F.ok S0 (fun vs H Q E h => ?_) (fun cdv A outer s H vs Q E hr h => ?_)
  · obtain ⟨v, d, rfl, _⟩ := h
    rfl
  · obtain ⟨v, d, rfl, hd, kk⟩ := h
    refine ⟨_, pss_one (ps_ret (pe_and (pe_callB (r := rIsi K) call_isi (by rfl) gI PyProof.Rows.boot_isinstance (pa_cons (pv 0) (pa_cons (pe_bltn (v := .ty "int") (by rfl) gIn PyProof.Rows.boot_int rfl) pa_nil)))
        (pe_and (pe_not (pe_callB (r := rIsi K) call_isi (by rfl) gI PyProof.Rows.boot_isinstance (pa_cons (pv 0) (pa_cons (pe_bltn (v := .ty "bool") (by rfl) gB PyProof.Rows.boot_bool rfl) pa_nil))))
          (pe_one (pe_chain op_le op_le pe_int (pv 0) pe_int))))), ?_⟩
    refine ⟨v, rfl, v, .ty "int", .type (tyN d), .type "int", isI d, rfl, .ty _, de_ty hd, kit_ty (kit_int d), isI d, rfl, ?_⟩
    cases e1 : isI d with
    | false =>
      refine iteF ?_
      have e : okC d = false := by cases d <;> first | rfl | cases e1
      rw [e] at kk
      exact kk
    | true =>
      refine iteT ⟨v, rfl, v, .ty "bool", .type (tyN d), .type "bool", isB d, rfl, .ty _, de_ty hd, kit_ty (kit_bool d), _, rfl, _, rfl, ?_⟩
      cases d with
      | bool b => exact iteF kk
      | int i =>
        cases hd
        refine iteT ⟨V.int i, rfl, 0, i, rfl, rfl, _, rfl, ?_⟩
        by_cases c1 : 0 ≤ i
        · rw [decide_eq_true c1]
          refine iteT ⟨i, 2, rfl, rfl, ?_⟩
          have kk : Q (.bl (decide (0 ≤ i) && decide (i ≤ 2))) H := kk
          rw [decide_eq_true c1] at kk
          exact kk
        · rw [decide_eq_false c1]
          have kk : Q (.bl (decide (0 ≤ i) && decide (i ≤ 2))) H := kk
          rw [decide_eq_false c1] at kk
          exact iteF kk
      | _ => cases e1
theorem ok_iscell (F : Fun K "is_cell" "is_cell" (top 9) f fd) (gI : mg "isinstance" = none) (gB : mg "bool" = none) (gT : mg "tuple" = none) (gN : mg "len" = none)
    (gC : mg "is_count" = some (.ref fCt)) (kC : PySem.W.keepIn K (.ref fCt) = true) (GC : FnOk P w K mg base CX0 1 fCt fdCt ["value"] (spCount K)) (bC : Binds K fdCt ["value"] []) : FnOk P w K mg base CX0 2 f fd ["value"] (spIsCell K) := by
  have S0 : FnScope ["value", "mark", "flag", "others", "words"] ["value"] (defScope (top 9)) := ⟨rfl, rfl, rfl, by decide +kernel, rfl, by decide +kernel, by decide +kernel⟩
  have nd := S0.nd
  refine F.ok S0 (fun vs H Q E h => ?_) (fun cdv A outer s H vs Q E hr h => ?_)
  · obtain ⟨v, d, rfl, _⟩ := h
    rfl
  · obtain ⟨v, d, rfl, hd, kk⟩ := h
    refine ⟨_, pss_cons (ps_if (PW.pt (pw_or (pt_not (pt_val (pe_callB (r := rIsi K) call_isi (by rfl) gI PyProof.Rows.boot_isinstance (pa_cons (pv 0) (pa_cons (pe_bltn (v := .ty "tuple") (by rfl) gT PyProof.Rows.boot_tuple rfl) pa_nil)))))
        (pw_or1 (pt_cmpR op_ne (pe_callB call_len_seq (by rfl) gN PySem.boot_len (pa_cons (pv 0) pa_nil)) pe_int (nomark _))))) (pss_one (ps_ret pe_bl)) pss_nil)
      (pss_cons (ps_asg (pv 0) (pg_tup rfl (pgs_cons (pg_name (i := 1) nd rfl (Or.inl rfl)) (pgs_cons (pg_name (i := 2) nd rfl (Or.inl rfl)) (pgs_cons (pg_name (i := 3) nd rfl (Or.inl rfl)) (pgs_cons (pg_name (i := 4) nd rfl (Or.inl rfl)) pgs_nil))))))
      (pss_one (ps_ret (pe_and (pe_callB (r := rIsi K) call_isi (by rfl) gI PyProof.Rows.boot_isinstance (pa_cons (pv 1) (pa_cons (pe_bltn (v := .ty "bool") (by rfl) gB PyProof.Rows.boot_bool rfl) pa_nil)))
        (pe_and (pe_callB (r := rIsi K) call_isi (by rfl) gI PyProof.Rows.boot_isinstance (pa_cons (pv 2) (pa_cons (pe_bltn (v := .ty "bool") (by rfl) gB PyProof.Rows.boot_bool rfl) pa_nil)))
        (pe_and (pe_call GC hr (by rfl) gC kC bC .nil pass0 (pa_cons (pv 3) pa_nil))
          (pe_one (pe_callB (r := rIsi K) call_isi (by rfl) gI PyProof.Rows.boot_isinstance (pa_cons (pv 4) (pa_cons (pe_bltn (v := .ty "bool") (by rfl) gB PyProof.Rows.boot_bool rfl) pa_nil)))))))))), ?_⟩
    refine ⟨v, rfl, v, .ty "tuple", .type (tyN d), .type "tuple", isTu d, rfl, .ty _, de_ty hd, kit_ty (kit_tup d), _, rfl, ?_⟩
    by_cases e1 : isTu d = true
    · obtain ⟨ds, rfl⟩ : ∃ ds, d = .tuple ds := by
        cases d with
        | tuple ds => exact ⟨ds, rfl⟩
        | _ => cases e1
      cases hd with
      | @tup a vs ds ha hds =>
      have hl := deAll_len hds
      refine iteF ⟨V.ref a, rfl, a, vs, rfl, .inr (.inl (.inl ha)), rfl, _, rfl, ?_⟩
      refine ifne (fun c => ?_) (fun c => ?_)
      · have n4 : ds.length ≠ 4 := fun z => c (by rw [hl, z]; rfl)
        have e : okCell (.tuple ds) = false := by
          match ds, n4 with
          | [], _ => rfl
          | [_], _ => rfl
          | [_, _], _ => rfl
          | [_, _, _], _ => rfl
          | [_, _, _, _], n => exact absurd rfl n
          | _ :: _ :: _ :: _ :: _ :: _, _ => rfl
        rw [e] at kk
        exact kk
      · have l4 : ds.length = 4 := by
          injection c with c
          have c : (vs.length : Int) = 4 := c
          omega
        match ds, l4, hds, ha, kk with
        | [d1, d2, d3, d4], _, .cons (v := v1) h1 (.cons (v := v2) h2 (.cons (v := v3) h3 (.cons (v := v4) h4 .nil))), ha, kk =>
        have kk : Q (.bl (isB d1 && (isB d2 && (okC d3 && isB d4)))) H := kk
        refine ⟨V.ref a, rfl, a, _, rfl, .inl (.inl ha), rfl, _, _, rfl, _, _, rfl, _, _, rfl, _, _, rfl, rfl, ?_⟩
        refine ⟨v1, rfl, v1, .ty "bool", .type (tyN d1), .type "bool", isB d1, rfl, .ty _, de_ty h1, kit_ty (kit_bool d1), _, rfl, ?_⟩
        by_cases c1 : isB d1 = true
        · rw [c1] at kk ⊢
          refine iteT ⟨v2, rfl, v2, .ty "bool", .type (tyN d2), .type "bool", isB d2, rfl, .ty _, de_ty h2, kit_ty (kit_bool d2), _, rfl, ?_⟩
          by_cases c2 : isB d2 = true
          · rw [c2] at kk ⊢
            refine iteT ⟨v3, rfl, v3, d3, rfl, h3, _, rfl, ?_⟩
            by_cases c3 : okC d3 = true
            · rw [c3] at kk ⊢
              exact iteT ⟨v4, rfl, v4, .ty "bool", .type (tyN d4), .type "bool", isB d4, rfl, .ty _, de_ty h4, kit_ty (kit_bool d4), kk⟩
            · have c3 : okC d3 = false := by simpa using c3
              rw [c3] at kk ⊢
              exact iteF kk
          · have c2 : isB d2 = false := by simpa using c2
            rw [c2] at kk ⊢
            exact iteF kk
        · have c1 : isB d1 = false := by simpa using c1
          rw [c1] at kk ⊢
          exact iteF kk
    · have e1 : isTu d = false := by simpa using e1
      rw [e1]
      refine iteT (iteT ?_)
      have e : okCell d = false := by
        cases d with
        | tuple ds => cases e1
        | _ => rfl
      rw [e] at kk
      exact kk
theorem ok_islet (F : Fun K "is_let" "is_let" (top 10) f fd) (R : RuleC K CT) (gM : mg "min" = none)
    (gCe : mg "is_cell" = some (.ref fCe)) (kCe : PySem.W.keepIn K (.ref fCe) = true) (GCe : FnOk P w K mg base CX0 2 fCe fdCe ["value"] (spIsCell K)) (bCe : Binds K fdCe ["value"] [])
    (gL : mg "least_part" = some (.ref fLe)) (kL : PySem.W.keepIn K (.ref fLe) = true) (GL : FnOk P w K mg base CX0 2 fLe fdLe ["rule", "words"] (spLeast CT)) (bL : Binds K fdLe ["rule", "words"] []) : FnOk P w K mg base CX0 3 f fd ["rule", "cell", "root", "goes_on"] (spLet K CT) := by
  have S0 : FnScope ["rule", "cell", "root", "goes_on", "mark", "flag", "others", "words", "children"] ["rule", "cell", "root", "goes_on"] (defScope (top 10)) := ⟨rfl, rfl, rfl, by decide +kernel, rfl, by decide +kernel, by decide +kernel⟩
  have nd := S0.nd
  refine F.ok S0 (fun vs H Q E h => ?_) (fun cdv A outer s H vs Q E hr h => ?_)
  · obtain ⟨x, v, r, g, d, pr, po, rfl, _⟩ := h
    rfl
  · obtain ⟨x, v, r, g, d, pr, po, rfl, hR, hd, kk⟩ := h
    have hu64 := hr.units
    refine ⟨_, pss_cons (ps_if (pt_not (pt_val (pe_call GCe hr (by rfl) gCe kCe bCe .nil pass0 (pa_cons (pv 1) pa_nil)))) (pss_one (ps_ret pe_bl)) pss_nil)
      (pss_cons (ps_asg (pv 1) (pg_tup rfl (pgs_cons (pg_name (i := 4) nd rfl (Or.inl rfl)) (pgs_cons (pg_name (i := 5) nd rfl (Or.inl rfl)) (pgs_cons (pg_name (i := 6) nd rfl (Or.inl rfl)) (pgs_cons (pg_name (i := 7) nd rfl (Or.inl rfl)) pgs_nil))))))
      (pss_cons (ps_set (i := 8) nd rfl (Or.inl rfl) (pe_ifExp (pt_val (pv 3)) (pe_callB (call_min2 rfl) (by rfl) gM PyProof.Rows.boot_min (pa_cons pe_int (pa_cons (pe_op op_add (pv 6) pe_int) pa_nil))) (pv 6)))
      (pss_cons (ps_if (pt_cmpR (r := rInD K true) (op_notInD hu64) (pe_tup (pa_cons (pv 4) (pa_cons (pv 5) (pa_cons (pv 8) pa_nil)))) (pe_ifExp (pt_val (pv 2)) (pe_fld (pv 0) rfl) (pe_fld (pv 0) rfl)) (by rfl)) (pss_one (ps_ret pe_bl)) pss_nil)
      (pss_one (ps_ret (pe_ifExp (pt_cmpR op_eq (pv 6) pe_int (nomark _)) (pe_not (pv 7)) (pe_cmpR op_notN (pe_call GL hr (by rfl) gL kL bL .nil pass0 (pa_cons (pv 0) (pa_cons (pv 7) pa_nil))) pe_non (nomark _)))))))), ?_⟩
    refine ⟨v, rfl, v, d, rfl, hd, _, rfl, ?_⟩
    by_cases e1 : okCell d = true
    · rw [e1]
      refine iteF ?_
      obtain ⟨m, f, o, w, rfl, oC⟩ := cell_yes' e1
      cases hd with
      | @tup a vs ds ha hds =>
      match hds, ha with
      | .cons (.bl _) (.cons (.bl _) (.cons (.int _) (.cons (.bl _) .nil))), ha =>
      have kk : ∀ H' : Hp, Same H H' → Q (.bl (letC (kds pr) (kds po) r g m f o w)) H' := fun H' s => by
        have z := kk H' s
        have e : letD (kds pr) (kds po) r g (.tuple [.bool m, .bool f, .int o, .bool w]) = letC (kds pr) (kds po) r g m f o w := by
          show (okC (.int o) && letC _ _ _ _ _ _ _ _) = _
          rw [oC, Bool.true_and]
        rw [e] at z
        exact z
      refine ⟨V.ref a, rfl, a, _, rfl, .inl (.inl ha), rfl, _, _, rfl, _, _, rfl, _, _, rfl, _, _, rfl, rfl, ?_⟩
      refine ⟨.bl g, rfl, _, rfl, ?_⟩
      refine if_val (z := V.int (nextC g o)) (fun c Q q => ?_) (fun c Q q => ?_) ?_
      · have c : g = true := c
        subst c
        refine ⟨V.int o, rfl, o, 1, rfl, rfl, 2, o + 1, rfl, ?_⟩
        have q : Q (.int (if o + 1 < 2 then o + 1 else 2)) H := q
        exact q
      · have c : g = false := c
        subst c
        exact ⟨V.int o, rfl, q⟩
      obtain ⟨ax, dx, fs, tr, to', rfl, hx, e1, e2, h1, h2, k1, k2, z1, z2⟩ := hR
      refine ⟨.bl m, rfl, .bl f, rfl, .int (nextC g o), rfl, (by show 3 ≤ sizeLine; decide), fun t nt => ?_⟩
      have sT := upd_new (o := .tup [V.bl m, V.bl f, V.int (nextC g o)]) nt
      have hT : KAt (upd H t (.tup [V.bl m, V.bl f, V.int (nextC g o)])) t (m, f, nextC g o) := upd_same
      generalize upd H t (.tup [V.bl m, V.bl f, V.int (nextC g o)]) = H1 at sT hT
      refine ⟨.bl r, rfl, _, rfl, ?_⟩
      refine if_val (z := V.ref (if r = true then tr else to')) (fun c Q q => ?_) (fun c Q q => ?_) ?_
      · have c : r = true := c
        subst c
        exact ⟨V.ref ax, rfl, ax, CT, dx, _, _, rfl, sT _ _ hx, R.cl, R.n1, e1, q⟩
      · have c : r = false := c
        subst c
        exact ⟨V.ref ax, rfl, ax, CT, dx, _, _, rfl, sT _ _ hx, R.cl, R.n2, e2, q⟩
      have hsel : H1 (if r = true then tr else to') = some (.tup (rfs (if r = true then pr else po))) := by
        cases r
        · exact sT _ _ h2
        · exact sT _ _ h1
      have ksel : KsAt H1 (if r = true then pr else po) := by
        cases r
        · exact k2.same fun c xs e => sT _ _ e
        · exact k1.same fun c xs e => sT _ _ e
      have esel : kds (if r = true then pr else po) = (if r = true then kds pr else kds po) := by cases r <;> rfl
      refine ⟨_, _, (kds (if r = true then pr else po)).map kdD, kdD (m, f, nextC g o), rfl, .inr (.inl (.inl hsel)), ksel.dp, hT.dp, (kd_lay _).1, kds_lay _, Nat.le_trans (kd_lay _).2 (by decide), _, rfl, ?_⟩
      dsimp only
      rw [kds_any, esel]
      have kk1 := kk H1 sT
      unfold letC at kk1
      by_cases cm : (m, f, nextC g o) ∈ (if r = true then kds pr else kds po)
      · rw [decide_eq_true cm]
        rw [if_pos cm] at kk1
        refine iteF ⟨.int o, rfl, rfl, _, rfl, ?_⟩
        refine ite2 (fun c0 => ?_) (fun c0 => ?_)
        · have c0 : o = 0 := by
            have c0 := of_decide_eq_true c0
            injection c0
          rw [if_pos c0] at kk1
          exact ⟨.bl w, rfl, _, rfl, kk1⟩
        · have c0 : ¬ o = 0 := fun z => c0 (decide_eq_true (by rw [z]))
          refine ⟨V.ref ax, rfl, .bl w, rfl, V.ref ax, w, pr, po, rfl, RuleR.same ⟨ax, dx, fs, tr, to', rfl, hx, e1, e2, h1, h2, k1, k2, z1, z2⟩ sT, fun H2 s2 => ⟨rfl, ?_⟩⟩
          have z := kk H2 (sT.trans s2)
          unfold letC at z
          rw [if_pos cm, if_neg c0] at z
          have e : (!decide (optV (leastP (kds po) w) = V.non)) = (leastP (kds po) w).isSome := by
            cases leastP (kds po) w with
            | none => rfl
            | some i => rfl
          rw [← e] at z
          exact z
      · rw [decide_eq_false cm]
        rw [if_neg cm] at kk1
        exact iteT kk1
    · have e1 : okCell d = false := by simpa using e1
      rw [e1]
      refine iteT ?_
      have z := kk H (Same.refl H)
      rw [letD_no e1] at z
      exact z
end
end SK
namespace SK
open PySem PySem.Spec PyProof.Rows L2 LamX NdefX
open K0 (De DeAll XCl spX withX)
/-! ### drawn rules -/
structure GoodK (ks : List Kd) : Prop where
  ok : ∀ k ∈ ks, OkK k
  nd : ks.Nodup
  sz : ks.length ≤ 12
def ToldAt (H : Hp) (q : Addr) (pr po : PK) : Prop := ∃ lr lo : Addr, H q = some (.tup [.ref lr, .ref lo]) ∧ H lr = some (.lst (rfs pr)) ∧ H lo = some (.lst (rfs po)) ∧ KsAt H pr ∧ KsAt H po
theorem ToldAt.same {H H' : Hp} {q : Addr} {pr po : PK} (h : ToldAt H q pr po) (s : Same H H') : ToldAt H' q pr po := by
  obtain ⟨lr, lo, h1, h2, h3, h4, h5⟩ := h
  exact ⟨lr, lo, s _ _ h1, s _ _ h2, s _ _ h3, h4.same fun c xs e => s _ _ e, h5.same fun c xs e => s _ _ e⟩
theorem rfs_app (a b : PK) : rfs (a ++ b) = rfs a ++ rfs b := List.map_append
theorem kds_app (a b : PK) : kds (a ++ b) = kds a ++ kds b := List.map_append
theorem rfs_len (a : PK) : (rfs a).length = a.length := List.length_map _
theorem kds_len (a : PK) : (kds a).length = a.length := List.length_map _
theorem KsAt.app {H : Hp} {a b : PK} (h1 : KsAt H a) (h2 : KsAt H b) : KsAt H (a ++ b) := fun p hp => (List.mem_append.mp hp).elim (h1 p) (h2 p)
theorem KsAt.lst {H : Hp} {ps : PK} {D : Addr} {xs : List V} {o : HO} (h : KsAt H ps) (hD : H D = some (.lst xs)) : KsAt (upd H D o) ps := h.same fun c ys e => by
  rw [upd_ne (ne_of e hD (by intro z; cases z))]
  exact e
def ev6 (at' : Nat) : Kd := (decide (2 < at'), false, ((at' % 3 : Nat) : Int))
def ev12 (at' : Nat) : Kd := (decide (6 ≤ at'), decide (at' % 2 = 1), ((at' / 2 % 3 : Nat) : Int))
def rootsOf (nm : Str) : List Kd := (List.range 6).map ev6
def othersOf (nm : Str) : List Kd := if nm = Str.ofString "bare" then (List.range 6).map ev6 else if nm = Str.ofString "joined" then (false, true, 1) :: ((List.range 6).map ev6).drop 2 else ((List.range 6).map ev6).drop 1
def knownN : List Str := [Str.ofString "plain", Str.ofString "joined", Str.ofString "bare"]
def spKnown : Sp := fun vs H Q _ => ∃ nm : Str, vs = [.str nm] ∧ nm ∈ knownN ∧ ∀ (H' : Hp) (q : Addr) (pr po : PK), Same H H' → ToldAt H' q pr po → kds pr = rootsOf nm → kds po = othersOf nm → Q (.ref q) H'
theorem cut_from (xs : List V) (n : Nat) (h : n ≤ xs.length) : cutV xs (some (n : Int)) none = xs.drop n := by
  unfold cutV
  rw [HT.sIx_none, HT.sIx_nat, Nat.min_eq_left h, List.take_of_length_le (by rw [List.length_drop]; exact Nat.le_refl _)]
section
variable {P : Program} {w : World} {K : PySem.W.Frag} {mg : Str → Option Value} {base : Heap} {f fD fKn fKs fI CT : Addr} {fd fdD fdKn fdKs fdI : FuncData}
theorem kd_new {G : Hp} {D t : Addr} {ps : PK} {k : Kd} {xs : List V} (e : xs = kdV k) (nt : G t = none) (hD : G D = some (.lst (rfs ps))) (hK : KsAt G ps) : ∃ acc, upd G t (.tup xs) D = some (.lst acc) ∧ acc = rfs ps ∧ upd (upd G t (.tup xs)) D (.lst (acc ++ [V.ref t])) D = some (.lst (rfs (ps ++ [(t, k)]))) ∧ KsAt (upd (upd G t (.tup xs)) D (.lst (acc ++ [V.ref t]))) (ps ++ [(t, k)]) := by
  have nDt : D ≠ t := ne_of_none hD nt
  have hD2 : upd G t (.tup xs) D = some (.lst (rfs ps)) := by
    rw [upd_ne nDt]
    exact hD
  have s := upd_new (o := .tup xs) nt
  refine ⟨_, hD2, rfl, by rw [upd_same, rfs_app]; rfl, KsAt.lst (KsAt.app (hK.same fun c ys e => s _ _ e) fun p hp => ?_) hD2⟩
  obtain rfl : p = (t, k) := by simpa using hp
  show upd G t (.tup xs) t = some (.tup (kdV k))
  rw [upd_same, e]
theorem ok_known (F : Fun K "_law_known" "_law_known" (top 19) f fd) (gR : mg "range" = none) (gIn : mg "int" = none) : FnOk P w K mg base CX0 1 f fd ["name"] spKnown := by
  have S0 : FnScope ["name", "every", "at"] ["name"] (defScope (top 19)) := ⟨rfl, rfl, rfl, by decide +kernel, rfl, by decide +kernel, by decide +kernel⟩
  have nd := S0.nd
  refine F.ok S0 (fun vs H Q E h => ?_) (fun cdv A outer s H vs Q E hr h => ?_)
  · obtain ⟨nm, rfl, _⟩ := h
    rfl
  · obtain ⟨nm, rfl, hnm, kk⟩ := h
    have hu := hu_of hr
    refine ⟨_, pss_cons (ps_setLc (i := 1) (own := [("at", 2)]) (g := gName 2) (tt := tYes) rfl nd rfl rfl (sw_true rfl rfl rfl (by decide +kernel)) (pi_range1 (by rfl) gR (pa_cons pe_int pa_nil)) (blkOk_by (N := ["name", "every", "at"]) (sc := defScope (top 19)) (by decide +kernel)) (fun _ _ _ _ _ => pg_name (i := 2) nd rfl (Or.inl rfl)) (fun _ _ _ _ _ => pts_nil)
        (fun _ _ _ _ _ => pe_tup (pa_cons (pe_cmpR op_gt (pv 2) pe_int (nomark _)) (pa_cons pe_bl (pa_cons (pe_op op_mod (pe_callTy call_int1 (by rfl) gIn PyProof.Rows.boot_int (pa_cons (pv 2) pa_nil)) pe_int) pa_nil)))))
      (pss_one (ps_ret (pe_tup (pa_cons (pv 1) (pa_cons (pe_dget hu (pe_disp (pps_cons pe_str (pv 1) (pps_cons pe_str (pe_op op_cat (pe_lst (pa_cons (pe_tup (pa_cons pe_bl (pa_cons pe_bl (pa_cons pe_int pa_nil)))) pa_nil)) (pe_slice sl_list (pv 1) (po_some pe_int) po_none)) (pps_cons pe_str (pe_slice sl_list (pv 1) (po_some pe_int) po_none) pps_nil))) (by rfl) (by rfl) (fun z => by cases z) (by decide)) (pv 0) (fun _ _ => rfl)) pa_nil))))), ?_⟩
    refine ⟨6, rfl, by decide, by decide, fun D nD => lc_it walk_range (fun i G => Same H G ∧ ∃ ps : PK, G D = some (.lst (rfs ps)) ∧ KsAt G ps ∧ kds ps = (List.range i).map ev6) ⟨upd_new nD, [], upd_same, fun p hp => absurd hp (by simp), rfl⟩ (fun _ _ _ _ => trivial) ?_ ?_⟩
    · rintro i y G G' hi ⟨sG, ps, hD, hK, hp⟩ ⟨rfl, rfl⟩
      have hi' : i < 6 := hi
      refine ⟨rfl, _, rfl, _, _, rfl, rfl, V.int (0 + (i : Int)), rfl, .inl ⟨_, rfl, _, 3, rfl, rfl, (by show (0 : Int) < 3; decide), (by show 3 ≤ sizeLine; decide), fun t nt => ?_⟩⟩
      have e : [V.bl (decide (2 < 0 + (i : Int))), V.bl false, V.int ((0 + (i : Int)) % 3)] = kdV (ev6 i) := by
        have : i = 0 ∨ i = 1 ∨ i = 2 ∨ i = 3 ∨ i = 4 ∨ i = 5 := by omega
        rcases this with rfl | rfl | rfl | rfl | rfl | rfl <;> rfl
      obtain ⟨acc, h1, ea, h2, h3⟩ := kd_new e nt hD hK
      refine ⟨acc, h1, ?_, ?_, ps ++ [(t, ev6 i)], h2, h3, ?_⟩
      · rw [ea, rfs_len, ← kds_len, hp, List.length_map, List.length_range]
        exact Nat.lt_of_le_of_lt (show i ≤ 1000 by omega) (by decide)
      · intro b o e
        rw [upd_ne (ne_of_none e nD)]
        exact upd_new nt _ _ (sG _ _ e)
      · rw [kds_app, hp, List.range_succ, List.map_append]
        rfl
    · rintro G ⟨sG, ps, hD, hK, hp⟩
      have hp : kds ps = (List.range 6).map ev6 := hp
      have hl : ps.length = 6 := by
        rw [← kds_len, hp]
        rfl
      refine ⟨.ref D, rfl, fun dd ndd => ?_⟩
      have s1 := upd_new (o := .dK []) ndd
      have hdd : upd G dd (.dK []) dd = some (.dK []) := upd_same
      generalize upd G dd (.dK []) = G1 at s1 hdd
      refine ⟨.ref D, rfl, (by show 3 ≤ sizeLine; decide), fun t nt => ⟨(by show 1 ≤ sizeLine; decide), fun l1 nl1 => ?_⟩⟩
      have s2 := upd_new (o := .tup [V.bl false, V.bl true, V.int 1]) nt
      have ht : KAt (upd G1 t (.tup [V.bl false, V.bl true, V.int 1])) t (false, true, 1) := upd_same
      generalize upd G1 t (.tup [V.bl false, V.bl true, V.int 1]) = G2 at s2 ht nl1 ⊢
      have s3 := upd_new (o := .lst [V.ref t]) nl1
      have hl1 : upd G2 l1 (.lst [V.ref t]) l1 = some (.lst [V.ref t]) := upd_same
      generalize upd G2 l1 (.lst [V.ref t]) = G3 at s3 hl1
      have hD3 := s3 _ _ (s2 _ _ (s1 _ _ hD))
      refine ⟨.ref D, rfl, 2, rfl, D, _, rfl, .inl (.inl hD3), fun l2 nl2 => ?_⟩
      have ec2 : cutV (rfs ps) (some 2) none = (rfs ps).drop 2 := cut_from (rfs ps) 2 (by rw [rfs_len, hl]; decide)
      have ec1 : cutV (rfs ps) (some 1) none = (rfs ps).drop 1 := cut_from (rfs ps) 1 (by rw [rfs_len, hl]; decide)
      have s4 := upd_new (o := .lst (cutV (rfs ps) (some 2) none)) nl2
      have hl2 : upd G3 l2 (.lst (cutV (rfs ps) (some 2) none)) l2 = some (.lst (cutV (rfs ps) (some 2) none)) := upd_same
      generalize upd G3 l2 (.lst (cutV (rfs ps) (some 2) none)) = G4 at s4 hl2
      rw [ec2] at hl2
      refine ⟨l1, l2, _, _, rfl, rfl, s4 _ _ hl1, hl2, ?_, fun l3 nl3 => ?_⟩
      · rw [List.length_drop, rfs_len, hl]
        exact Nat.le_trans (show 1 + (6 - 2) ≤ 5 by decide) (by decide)
      have s5 := upd_new (o := .lst ([V.ref t] ++ (rfs ps).drop 2)) nl3
      have hl3 : upd G4 l3 (.lst ([V.ref t] ++ (rfs ps).drop 2)) l3 = some (.lst ([V.ref t] ++ (rfs ps).drop 2)) := upd_same
      generalize upd G4 l3 (.lst ([V.ref t] ++ (rfs ps).drop 2)) = G5 at s5 hl3
      have hD5 := s5 _ _ (s4 _ _ hD3)
      refine ⟨.ref D, rfl, 1, rfl, D, _, rfl, .inl (.inl hD5), fun l4 nl4 => ?_⟩
      have s6 := upd_new (o := .lst (cutV (rfs ps) (some 1) none)) nl4
      have hl4 : upd G5 l4 (.lst (cutV (rfs ps) (some 1) none)) l4 = some (.lst (cutV (rfs ps) (some 1) none)) := upd_same
      generalize upd G5 l4 (.lst (cutV (rfs ps) (some 1) none)) = G6 at s6 hl4
      rw [ec1] at hl4
      have s26 := ((((s2.trans s3).trans s4).trans s5).trans s6)
      have hdd6 := s26 _ _ hdd
      refine ⟨hdd6, [(.inr "bare", .ref D), (.inr "joined", .ref l3), (.inr "plain", .ref l4)], rfl, by show 3 ≤ 15; decide, .str nm, rfl, ?_⟩
      have nnd : ∀ b o, G b = some o → b ≠ dd := fun b o e => ne_of_none e ndd
      have h16 := s1.trans s26
      have keep : ∀ b o, G b = some o → upd G6 dd (.dK (mergeK [] [((.inr "bare" : Key), V.ref D), (.inr "joined", .ref l3), (.inr "plain", .ref l4)])) b = some o := fun b o e => by
        rw [upd_ne (nnd b o e)]
        exact h16 _ _ e
      obtain ⟨l, po, e1, e2, e3, e4⟩ : ∃ (l : Addr) (po : PK), valV (mergeK [] [((.inr "bare" : Key), V.ref D), (.inr "joined", .ref l3), (.inr "plain", .ref l4)]) (.inr nm) = some (.ref l) ∧ G6 l = some (.lst (rfs po)) ∧ KsAt G6 po ∧ kds po = othersOf nm := by
        have hK6 : KsAt G6 ps := hK.same fun c xs e => h16 _ _ e
        simp only [knownN, List.mem_cons, List.mem_nil_iff, or_false] at hnm
        rcases hnm with rfl | rfl | rfl
        · refine ⟨l4, ps.drop 1, by kernel_rfl, ?_, fun p hp => hK6 p (List.mem_of_mem_drop hp), ?_⟩
          · rw [hl4]
            unfold rfs
            rw [List.map_drop]
          · unfold kds
            rw [List.map_drop]
            have z : ps.map (·.2) = (List.range 6).map ev6 := hp
            rw [z]
            decide +kernel
        · refine ⟨l3, (t, (false, true, 1)) :: ps.drop 2, by kernel_rfl, ?_, ?_, ?_⟩
          · rw [s6 _ _ hl3]
            unfold rfs
            rw [List.map_cons, List.map_drop]
            rfl
          · intro p hp
            rcases List.mem_cons.mp hp with rfl | hp
            · exact s6 _ _ (s5 _ _ (s4 _ _ (s3 _ _ ht)))
            · exact hK6 p (List.mem_of_mem_drop hp)
          · unfold kds
            rw [List.map_cons, List.map_drop]
            have z : ps.map (·.2) = (List.range 6).map ev6 := hp
            rw [z]
            show (false, true, (1 : Int)) :: List.drop 2 (List.map ev6 (List.range 6)) = othersOf (Str.ofString "joined")
            decide +kernel
        · refine ⟨D, ps, by kernel_rfl, s6 _ _ hD5, hK6, ?_⟩
          have z : kds ps = (List.range 6).map ev6 := hp
          rw [z]
          decide +kernel
      have nl : l ≠ dd := ne_of e2 hdd6 (by intro z; cases z)
      refine ⟨dd, .ref l, rfl, .inl ⟨_, _, .inl upd_same, rfl, e1.symm⟩, (by show 2 ≤ sizeLine; decide), fun q nq => ?_⟩
      have sq := upd_new (o := .tup [V.ref D, V.ref l]) nq
      refine kk _ q ps po (fun b o e => sq _ _ (keep _ _ (sG _ _ e))) ⟨D, l, upd_same, sq _ _ (keep _ _ hD), ?_, ?_, ?_⟩ hp e4
      · refine sq _ _ ?_
        rw [upd_ne nl]
        exact e2
      · exact hK.same fun c xs e => sq _ _ (keep _ _ e)
      · exact e3.same fun c xs e => sq _ _ (by rw [upd_ne (ne_of e hdd6 (by intro z; cases z))]; exact e)
end
end SK
namespace SK
open PySem PySem.Spec PyProof.Rows L2 LamX NdefX
open K0 (De DeAll XCl spX withX)
theorem PenAt.but {H H' : Hp} {p l : Addr} {ns : List Int} {k lf : Int} {c : Addr} {o : HO} (h : PenAt H p l ns k lf) (nc : c ≠ p) (nl : c ≠ l) : PenAt (upd H c o) p l ns k lf := ⟨by rw [upd_ne nc.symm]; exact h.dc, by rw [upd_ne nl.symm]; exact h.ls⟩
def K12 : List Kd := (List.range 12).map ev12
theorem K12_good : GoodK K12 := ⟨by unfold OkK; decide +kernel, by decide +kernel, by decide +kernel⟩
def spSome : Sp := fun vs H Q _ => ∃ (p l : Addr) (ns : List Int) (k lf : Int), vs = [.ref p] ∧ PenAt H p l ns k lf ∧ ns.length ≤ 63 ∧ 0 ≤ k ∧ k ≤ 90000 ∧ 0 ≤ lf ∧
  ∀ (H' : Hp) (k' lf' : Int) (r : Addr) (ps : PK), k' ≤ k + 13 → 0 ≤ k' → 0 ≤ lf' → SameBut p H H' → PenAt H' p l ns k' lf' → H r = none → H' r = some (.lst (rfs ps)) → KsAt H' ps → GoodK (kds ps) → Q (.ref r) H'
section
variable {P : Program} {w : World} {K : PySem.W.Frag} {mg : Str → Option Value} {base : Heap} {f fD fKn fKs fI CT : Addr} {fd fdD fdKn fdKs fdI : FuncData}
theorem ok_some (F : Fun K "_law_kinds_some" "_law_kinds_some" (top 20) f fd) (gR : mg "range" = none) (gIn : mg "int" = none) (gN : mg "len" = none) (gD : mg "_law_draw" = some (.ref fD)) (kD : PySem.W.keepIn K (.ref fD) = true) (GD : FnOk P w K mg base CX0 1 fD fdD ["pen", "many"] spDraw) (bD : Binds K fdD ["pen", "many"] []) :
    FnOk P w K mg base CX0 2 f fd ["pen"] spSome := by
  have S0 : FnScope ["pen", "left", "found", "at", "k"] ["pen"] (defScope (top 20)) := ⟨rfl, rfl, rfl, by decide +kernel, rfl, by decide +kernel, by decide +kernel⟩
  have nd := S0.nd
  refine F.ok S0 (fun vs H Q E h => ?_) (fun cdv A outer s H vs Q E hr h => ?_)
  · obtain ⟨p, l, ns, k, lf, rfl, _⟩ := h
    rfl
  · obtain ⟨p, l, ns, k, lf, rfl, hp, hn, hk0, hk1, hf, kk⟩ := h
    refine ⟨_, pss_cons (ps_par (i := 1) (j := 2) rfl nd rfl rfl (by decide) rfl rfl (pa_cons (pe_lc (own := [("at", 3)]) (g := gName 3) (tt := tYes) rfl nd (pi_range1 (by rfl) gR (pa_cons pe_int pa_nil)) (blkOk_by (N := ["pen", "left", "found", "at", "k"]) (sc := defScope (top 20)) (by decide +kernel)) (fun _ _ _ _ _ => pg_name (i := 3) nd rfl (Or.inl rfl)) (fun _ _ _ _ _ => pts_nil)
        (fun _ _ _ _ _ => pe_tup (pa_cons (pe_cmpR op_ge (pv 3) pe_int (nomark _)) (pa_cons (pe_cmpR op_eq (pe_op op_mod (pe_callTy call_int1 (by rfl) gIn PyProof.Rows.boot_int (pa_cons (pv 3) pa_nil)) pe_int) pe_int (nomark _)) (pa_cons (pe_op op_mod (pe_op op_fdiv (pe_callTy call_int1 (by rfl) gIn PyProof.Rows.boot_int (pa_cons (pv 3) pa_nil)) pe_int) pe_int) pa_nil))))) (pa_cons (pe_lst pa_nil) pa_nil)) rfl)
      (pss_cons (ps_for PassesOwn.never rfl (pi_range1 (by rfl) gR (pa_cons (pe_call GD hr (by rfl) gD kD bD .nil pass0 (pa_cons (pv 0) (pa_cons pe_int pa_nil))) pa_nil)) (pg_name (i := 4) nd rfl (Or.inl rfl))
        (pss_one (ps_expr (pe_bm PySem.F.plainAttrs_list PySem.F.slot_list_append PySem.F.type_list_append mt_append (pv 2) (pa_cons (pe_bm PySem.F.plainAttrs_list PySem.F.slot_list_pop PySem.F.type_list_pop mt_popAt (pv 1) (pa_cons (pe_call GD hr (by rfl) gD kD bD .nil pass0 (pa_cons (pv 0) (pa_cons (pe_callB call_len_seq (by rfl) gN PySem.boot_len (pa_cons (pv 1) pa_nil)) pa_nil))) pa_nil)) pa_nil)))))
      (pss_one (ps_ret (pv 2)))), ?_⟩
    refine ⟨12, rfl, by decide, by decide, fun D nD => lc_it walk_range (fun i G => Same H G ∧ ∃ ps : PK, G D = some (.lst (rfs ps)) ∧ KsAt G ps ∧ kds ps = (List.range i).map ev12) ⟨upd_new nD, [], upd_same, fun p hp => absurd hp (by simp), rfl⟩ (fun _ _ _ _ => trivial) ?_ ?_⟩
    · rintro i y G G' hi ⟨sG, ps, hD, hK, hp⟩ ⟨rfl, rfl⟩
      have hi' : i < 12 := hi
      refine ⟨rfl, _, rfl, _, _, rfl, rfl, V.int (0 + (i : Int)), rfl, .inl ⟨_, rfl, _, 2, rfl, rfl, (by show (0 : Int) < 2; decide), rfl, V.int (0 + (i : Int)), rfl, .inl ⟨_, rfl, _, 2, rfl, rfl, ⟨by decide, by decide⟩, _, 3, rfl, rfl, (by show (0 : Int) < 3; decide), (by show 3 ≤ sizeLine; decide), fun t nt => ?_⟩⟩⟩
      have e : [V.bl (decide (6 ≤ 0 + (i : Int))), V.bl (decide (V.int ((0 + (i : Int)) % 2) = V.int 1)), V.int ((0 + (i : Int)) / 2 % 3)] = kdV (ev12 i) := by
        have : i = 0 ∨ i = 1 ∨ i = 2 ∨ i = 3 ∨ i = 4 ∨ i = 5 ∨ i = 6 ∨ i = 7 ∨ i = 8 ∨ i = 9 ∨ i = 10 ∨ i = 11 := by omega
        rcases this with rfl | rfl | rfl | rfl | rfl | rfl | rfl | rfl | rfl | rfl | rfl | rfl <;> rfl
      obtain ⟨acc, h1, ea, h2, h3⟩ := kd_new e nt hD hK
      refine ⟨acc, h1, ?_, ?_, ps ++ [(t, ev12 i)], h2, h3, ?_⟩
      · rw [ea, rfs_len, ← kds_len, hp, List.length_map, List.length_range]
        exact Nat.lt_of_le_of_lt (show i ≤ 1000 by omega) (by decide)
      · intro b o e
        rw [upd_ne (ne_of_none e nD)]
        exact upd_new nt _ _ (sG _ _ e)
      · rw [kds_app, hp, List.range_succ, List.map_append]
        rfl
    · rintro G ⟨sG, ps, hD, hK, hp12⟩
      have hp12 : kds ps = K12 := hp12
      have hl : ps.length = 12 := by
        rw [← kds_len, hp12]
        rfl
      refine ⟨(by show 0 ≤ sizeLine; omega), fun fo nfo => ⟨.ref D, .ref fo, rfl, ?_⟩⟩
      have sF := upd_new (o := .lst []) nfo
      have hfo : upd G fo (.lst []) fo = some (.lst []) := upd_same
      have nHf : H fo = none := by
        cases e : H fo with
        | none => rfl
        | some o =>
          rw [sG _ _ e] at nfo
          cases nfo
      have nDf : D ≠ fo := ne_of_none hD nfo
      have P1 : PenAt (upd G fo (.lst [])) p l ns k lf := (hp.same sG).same sF
      have hD1 := sF _ _ hD
      have hK1 : KsAt (upd G fo (.lst [])) ps := hK.same fun c xs e => sF _ _ e
      have s1 := sG.trans sF
      generalize upd G fo (.lst []) = G1 at sF hfo P1 hD1 hK1 s1
      refine ⟨.ref p, rfl, p, l, ns, k, lf, 13, rfl, P1, hn, hk0, by omega, hf, by decide, by decide, fun G2 k2 lf2 m g1 g2 g3 g4 g5 s2 P2 => ?_⟩
      have nDp : D ≠ p := ne_of hD1 P1.dc (by intro z; cases z)
      have nfp : fo ≠ p := ne_of hfo P1.dc (by intro z; cases z)
      have nDl : D ≠ l := fun z => by
        rw [z, hp.ls] at nD
        cases nD
      have nfl : fo ≠ l := fun z => by
        rw [z, hp.ls] at nHf
        cases nHf
      have g5 : m < 13 := g5
      have ktup : ∀ {G G' : Hp}, PenAt G p l ns k2 lf2 → True := fun _ => trivial
      have hK2 : KsAt G2 ps := hK1.same fun c xs e => s2 _ _ (ne_of e P1.dc (by intro z; cases z)) e
      refine ⟨m, rfl, by omega, by omega, for_it walk_range (fun i σ G => ∃ (k3 lf3 : Int) (cs zs : PK) (x4 : Option V), σ = [some (.ref p), some (.ref D), some (.ref fo), none, x4] ∧ k3 ≤ k2 + i ∧ 0 ≤ k3 ∧ 0 ≤ lf3 ∧ PenAt G p l ns k3 lf3 ∧ SameBut p H G ∧ G D = some (.lst (rfs zs)) ∧ G fo = some (.lst (rfs cs)) ∧ KsAt G ps ∧ cs.length = i ∧ (cs ++ zs).Perm ps)
        ⟨k2, lf2, [], ps, none, rfl, by omega, g2, g3, P2, fun b o hb e => s2 _ _ hb (s1 _ _ e), s2 _ _ nDp hD1, s2 _ _ nfp hfo, hK2, rfl, List.Perm.refl _⟩ (fun _ _ _ _ _ => trivial) ?_ ?_⟩
      · rintro i y σ G3 G4 hi ⟨k3, lf3, cs, zs, x4, rfl, a1, a2, a3, P3, s3, hD3, hf3, hK3, hcl, hpm⟩ ⟨rfl, rfl⟩
        have hi2 : i < m.toNat := hi
        have zl : cs.length + zs.length = 12 := by
          have z := hpm.length_eq
          rw [List.length_append, hl] at z
          exact z
        refine ⟨.ref fo, rfl, .inl ⟨rfl, _, .inl (.inl hf3)⟩, .ref D, rfl, .inl ⟨rfl, _, .inl (.inl hD3)⟩, .ref p, rfl, .ref D, rfl, D, _, rfl, .inl (.inl (.inl hD3)), p, l, ns, k3, lf3, _, rfl, P3, hn, a2, by omega, a3, by rw [rfs_len]; omega, by rw [rfs_len]; omega, fun G5 k5 lf5 d q1 q2 q3 q4 q5 s5 P5 => ?_⟩
        rw [rfs_len] at q5
        obtain ⟨j, hj⟩ : ∃ j : Nat, d = (j : Int) := ⟨d.toNat, (Int.toNat_of_nonneg q4).symm⟩
        have hjl : j < zs.length := by omega
        obtain ⟨y, hy⟩ : ∃ y, zs[j]? = some y := ⟨_, List.getElem?_eq_getElem hjl⟩
        have hD5 := s5 _ _ nDp hD3
        have hf5 := s5 _ _ nfp hf3
        have hK5 : KsAt G5 ps := hK3.same fun c xs e => s5 _ _ (ne_of e P3.dc (by intro z; cases z)) e
        refine ⟨D, _, d, j, V.ref y.1, rfl, rfl, hD5, by omega, by omega, seq_ix hj (by rw [rfs_len]; exact hjl), (by unfold rfs; rw [List.getElem?_map, hy]; all_goals rfl), ?_⟩
        have hf6 : upd G5 D (.lst ((rfs zs).eraseIdx j)) fo = some (.lst (rfs cs)) := by
          rw [upd_ne nDf.symm]
          exact hf5
        refine ⟨fo, rfs cs, .ref y.1, rfl, rfl, hf6, ?_, ?_⟩
        · rw [rfs_len]
          exact Nat.lt_of_le_of_lt (show cs.length ≤ 12 by omega) (by decide)
        refine ⟨k5, lf5, cs ++ [y], zs.eraseIdx j, some (V.int (0 + (i : Int))), rfl, by omega, q2, q3, (P5.but (H' := G5) nDp nDl).but (H' := G5) nfp nfl, ?_, ?_, ?_, ?_, by rw [List.length_append, hcl]; rfl, ?_⟩
        · intro b o hb e
          have n1 : b ≠ D := ne_of_none e nD
          have n2 : b ≠ fo := ne_of_none e nHf
          rw [upd_ne n2, upd_ne n1]
          exact s5 _ _ hb (s3 _ _ hb e)
        · rw [upd_ne nDf, upd_same]
          unfold rfs
          rw [map_erase]
        · rw [upd_same, rfs_app]
          rfl
        · exact (hK5.lst hD5).lst hf6
        · have e : (y :: zs.eraseIdx j).Perm zs := erase_perm zs j y hy
          rw [List.append_assoc]
          exact (List.Perm.append_left cs e).trans hpm
      · rintro σ G3 ⟨k3, lf3, cs, zs, x4, rfl, a1, a2, a3, P3, s3, hD3, hf3, hK3, hcl, hpm⟩
        have sub : ∀ q ∈ cs, q ∈ ps := fun q hq => hpm.mem_iff.mp (List.mem_append_left _ hq)
        have kp : (kds cs ++ kds zs).Perm K12 := by
          rw [← kds_app, ← hp12]
          exact hpm.map _
        refine ⟨.ref fo, rfl, kk G3 k3 lf3 fo cs (by omega) a2 a3 s3 P3 nHf hf3 (fun q hq => hK3 q (sub q hq)) ⟨fun q hq => K12_good.ok q (kp.mem_iff.mp (List.mem_append_left _ hq)), ?_, ?_⟩⟩
        · exact (List.nodup_append.mp (kp.nodup_iff.mpr K12_good.nd)).1
        · have z := kp.length_eq
          rw [List.length_append] at z
          have z2 : K12.length = 12 := rfl
          omega
end
end SK
namespace SK
open PySem PySem.Spec PyProof.Rows L2 LamX NdefX
open K0 (De DeAll XCl spX withX)
theorem known_good {nm : Str} (h : nm ∈ knownN) : GoodK (rootsOf nm) ∧ GoodK (othersOf nm) := by
  simp only [knownN, List.mem_cons, List.mem_nil_iff, or_false] at h
  rcases h with rfl | rfl | rfl <;> exact ⟨⟨by unfold OkK; decide +kernel, by decide +kernel, by decide +kernel⟩, ⟨by unfold OkK; decide +kernel, by decide +kernel, by decide +kernel⟩⟩
theorem five_good (a : Bool) : GoodK [(false, a, 0), (false, a, 2)] := by
  cases a <;> exact ⟨by unfold OkK; decide +kernel, by decide +kernel, by decide +kernel⟩
theorem five_good2 (a b : Bool) : GoodK [(false, a, 0), (true, b, 1)] := by
  cases a <;> cases b <;> exact ⟨by unfold OkK; decide +kernel, by decide +kernel, by decide +kernel⟩
def spRuleOf : Sp := fun vs H Q _ => ∃ (p l : Addr) (ns : List Int) (k lf : Int), vs = [.ref p] ∧ PenAt H p l ns k lf ∧ ns.length ≤ 63 ∧ 0 ≤ k ∧ k ≤ 80000 ∧ 0 ≤ lf ∧
  ∀ (H' : Hp) (k' lf' : Int) (q : Addr) (pr po : PK), k' ≤ k + 30 → 0 ≤ k' → 0 ≤ lf' → SameBut p H H' → PenAt H' p l ns k' lf' → ToldAt H' q pr po → GoodK (kds pr) → GoodK (kds po) → Q (.ref q) H'
theorem KsAt.but {H H' : Hp} {p l : Addr} {ns : List Int} {k lf : Int} {ps : PK} (h : KsAt H ps) (hp : PenAt H p l ns k lf) (s : SameBut p H H') : KsAt H' ps := h.same fun c xs e => s _ _ (ne_of e hp.dc (by intro z; cases z)) e
section
variable {P : Program} {w : World} {K : PySem.W.Frag} {mg : Str → Option Value} {base : Heap} {f fD fKn fKs fI CT : Addr} {fd fdD fdKn fdKs fdI : FuncData}
theorem ok_ruleof (F : Fun K "_law_rule_of" "_law_rule_of" (top 21) f fd) (gR : mg "range" = none) (gD : mg "_law_draw" = some (.ref fD)) (kD : PySem.W.keepIn K (.ref fD) = true) (GD : FnOk P w K mg base CX0 1 fD fdD ["pen", "many"] spDraw) (bD : Binds K fdD ["pen", "many"] [])
    (gKn : mg "_law_known" = some (.ref fKn)) (kKn : PySem.W.keepIn K (.ref fKn) = true) (GKn : FnOk P w K mg base CX0 1 fKn fdKn ["name"] spKnown) (bKn : Binds K fdKn ["name"] [])
    (gKs : mg "_law_kinds_some" = some (.ref fKs)) (kKs : PySem.W.keepIn K (.ref fKs) = true) (GKs : FnOk P w K mg base CX0 2 fKs fdKs ["pen"] spSome) (bKs : Binds K fdKs ["pen"] []) : FnOk P w K mg base CX0 3 f fd ["pen"] spRuleOf := by
  have S0 : FnScope ["pen", "way", "flags", "k"] ["pen"] (defScope (top 21)) := ⟨rfl, rfl, rfl, by decide +kernel, rfl, by decide +kernel, by decide +kernel⟩
  have nd := S0.nd
  refine F.ok S0 (fun vs H Q E h => ?_) (fun cdv A outer s H vs Q E hr h => ?_)
  · obtain ⟨p, l, ns, k, lf, rfl, _⟩ := h
    rfl
  · obtain ⟨p, l, ns, k, lf, rfl, hp, hn, hk0, hk1, hf, kk⟩ := h
    have hr1 : Room 1 _ := hr.mono (by decide)
    refine ⟨_, pss_cons (ps_set (i := 1) nd rfl (Or.inl rfl) (pe_call GD hr1 (by rfl) gD kD bD .nil pass0 (pa_cons (pv 0) (pa_cons pe_int pa_nil))))
      (pss_cons (ps_if (pt_cmpR op_lt (pv 1) pe_int (nomark _)) (pss_one (ps_ret (pe_call GKn hr1 (by rfl) gKn kKn bKn .nil pass0 (pa_cons (pe_ix ix_list (pe_lst (pa_cons pe_str (pa_cons pe_str (pa_cons pe_str pa_nil)))) (pv 1) (fun _ _ => rfl)) pa_nil)))) pss_nil)
      (pss_cons (ps_if (pt_cmpR op_eq (pv 1) pe_int (nomark _))
        (pss_cons (ps_setLc (i := 2) (own := [("k", 3)]) (g := gName 3) (tt := tYes) rfl nd rfl rfl (sw_true rfl rfl rfl (by decide +kernel)) (pi_range1 (by rfl) gR (pa_cons pe_int pa_nil)) (blkOk_by (N := ["pen", "way", "flags", "k"]) (sc := defScope (top 21)) (by decide +kernel)) (fun _ _ _ _ _ => pg_name (i := 3) nd rfl (Or.inl rfl)) (fun _ _ _ _ _ => pts_nil)
          (fun _ _ _ _ _ => pe_cmpR op_eq (pe_call GD hr1 (by rfl) gD kD bD .nil pass0 (pa_cons (pv 0) (pa_cons pe_int pa_nil))) pe_int (nomark _)))
        (pss_one (ps_ret (pe_tup (pa_cons (pe_lst (pa_cons (pe_tup (pa_cons pe_bl (pa_cons (pe_ix ix_list (pv 2) pe_int (fun _ _ => rfl)) (pa_cons pe_int pa_nil)))) (pa_cons (pe_tup (pa_cons pe_bl (pa_cons (pe_ix ix_list (pv 2) pe_int (fun _ _ => rfl)) (pa_cons pe_int pa_nil)))) pa_nil)))
          (pa_cons (pe_lst (pa_cons (pe_tup (pa_cons pe_bl (pa_cons (pe_ix ix_list (pv 2) pe_int (fun _ _ => rfl)) (pa_cons pe_int pa_nil)))) (pa_cons (pe_tup (pa_cons pe_bl (pa_cons (pe_ix ix_list (pv 2) pe_int (fun _ _ => rfl)) (pa_cons pe_int pa_nil)))) pa_nil))) pa_nil)))))) pss_nil)
      (pss_one (ps_ret (pe_tup (pa_cons (pe_ifExp (pt_cmpR op_eq (pv 1) pe_int (nomark _)) (pe_call GKs hr (by rfl) gKs kKs bKs .nil pass0 (pa_cons (pv 0) pa_nil)) (pe_ix (r := rIxT K) ix_tup (pe_call GKn hr1 (by rfl) gKn kKn bKn .nil pass0 (pa_cons pe_str pa_nil)) pe_int (fun _ _ => rfl))) (pa_cons (pe_call GKs hr (by rfl) gKs kKs bKs .nil pass0 (pa_cons (pv 0) pa_nil)) pa_nil))))))), ?_⟩
    refine ⟨.ref p, rfl, p, l, ns, k, lf, 6, rfl, hp, hn, hk0, by omega, hf, by decide, by decide, fun G1 k1 lf1 m g1 g2 g3 g4 g5 s1 P1 => ?_⟩
    have g5 : m < 6 := g5
    refine ⟨.int m, rfl, m, 3, rfl, rfl, _, rfl, ?_⟩
    refine ite2 (fun c => ?_) (fun _ => ?_)
    · have c : m < 3 := of_decide_eq_true c
      refine ⟨(by show 3 ≤ sizeLine; decide), fun t nt => ?_⟩
      have sT := upd_new (o := .lst [V.str "plain", V.str "joined", V.str "bare"]) nt
      have hT : upd G1 t (.lst [V.str "plain", V.str "joined", V.str "bare"]) t = some (.lst [V.str "plain", V.str "joined", V.str "bare"]) := upd_same
      have P2 := P1.same sT
      generalize upd G1 t (.lst [V.str "plain", V.str "joined", V.str "bare"]) = G2 at sT hT P2
      obtain ⟨nm, hnm, hat⟩ : ∃ nm : Str, nm ∈ knownN ∧ atI [V.str "plain", V.str "joined", V.str "bare"] m = some (.str nm) := by
        have : m = 0 ∨ m = 1 ∨ m = 2 := by omega
        rcases this with rfl | rfl | rfl
        · exact ⟨"plain", by decide +kernel, atI_nat (show [V.str "plain", V.str "joined", V.str "bare"][0]? = some (V.str "plain") from rfl)⟩
        · exact ⟨"joined", by decide +kernel, atI_nat (show [V.str "plain", V.str "joined", V.str "bare"][1]? = some (V.str "joined") from rfl)⟩
        · exact ⟨"bare", by decide +kernel, atI_nat (show [V.str "plain", V.str "joined", V.str "bare"][2]? = some (V.str "bare") from rfl)⟩
      refine ⟨.int m, rfl, t, _, m, .str nm, rfl, rfl, .inl (.inl hT), hat, nm, rfl, hnm, fun G3 q pr po s3 hq e1 e2 => ?_⟩
      obtain ⟨z1, z2⟩ := known_good hnm
      exact kk G3 k1 lf1 q pr po (by omega) g2 g3 (fun b o hb e => s3 _ _ (sT _ _ (s1 _ _ hb e))) (P2.same s3) hq (by rw [e1]; exact z1) (by rw [e2]; exact z2)
    refine ⟨.int m, rfl, rfl, _, rfl, ?_⟩
    refine ite2 (fun c => ?_) (fun _ => ?_)
    · refine ⟨3, rfl, by decide, by decide, fun D nD => lc_it walk_range (fun i G => ∃ (k2 lf2 : Int) (bs : List Bool), k2 ≤ k1 + i ∧ 0 ≤ k2 ∧ 0 ≤ lf2 ∧ SameBut p G1 G ∧ PenAt G p l ns k2 lf2 ∧ G D = some (.lst (bs.map V.bl)) ∧ bs.length = i) ⟨k1, lf1, [], by omega, g2, g3, .of (upd_new nD), P1.same (upd_new nD), upd_same, rfl⟩ (fun _ _ _ _ => trivial) ?_ ?_⟩
      · rintro i y G G' hi ⟨k2, lf2, bs, a1, a2, a3, s2, P2, hD, hbl⟩ ⟨rfl, rfl⟩
        have hi' : i < 3 := hi
        have nDp : D ≠ p := ne_of hD P2.dc (by intro z; cases z)
        have nDl : D ≠ l := fun z => by
          rw [z, P1.ls] at nD
          cases nD
        refine ⟨rfl, .ref p, rfl, p, l, ns, k2, lf2, 2, rfl, P2, hn, a2, by omega, a3, by decide, by decide, fun G3 k3 lf3 d b1 b2 b3 b4 b5 s3 P3 => ⟨rfl, bs.map V.bl, s3 _ _ nDp hD, ?_, k3, lf3, bs ++ [decide (V.int d = V.int 0)], by omega, b2, b3, ?_, P3.but (H' := G3) nDp nDl, ?_, by rw [List.length_append, hbl]; rfl⟩⟩
        · rw [List.length_map, hbl]
          exact Nat.lt_of_le_of_lt (show i ≤ 1000 by omega) (by decide)
        · intro b o hb e
          rw [upd_ne (ne_of_none e nD)]
          exact s3 _ _ hb (s2 _ _ hb e)
        · rw [upd_same, List.map_append]
          rfl
      · rintro G ⟨k2, lf2, bs, a1, a2, a3, s2, P2, hD, hbl⟩
        obtain ⟨b0, b1, b2, rfl⟩ : ∃ b0 b1 b2, bs = [b0, b1, b2] := by
          match bs, (show bs.length = 3 from hbl) with
          | [a, b, c], _ => exact ⟨a, b, c, rfl⟩
        have hD : G D = some (.lst [V.bl b0, V.bl b1, V.bl b2]) := hD
        refine ⟨.ref D, rfl, D, _, 0, .bl b0, rfl, rfl, .inl (.inl hD), (atI_nat (show [V.bl b0, V.bl b1, V.bl b2][0]? = some (V.bl b0) from rfl)), (by show 3 ≤ sizeLine; decide), fun t1 n1 => ?_⟩
        have s3 := upd_new (o := .tup [V.bl false, V.bl b0, V.int 0]) n1
        have h1 : KAt (upd G t1 (.tup [V.bl false, V.bl b0, V.int 0])) t1 (false, b0, 0) := upd_same
        generalize upd G t1 (.tup [V.bl false, V.bl b0, V.int 0]) = G3 at s3 h1
        have hD3 := s3 _ _ hD
        refine ⟨.ref D, rfl, D, _, 0, .bl b0, rfl, rfl, .inl (.inl hD3), (atI_nat (show [V.bl b0, V.bl b1, V.bl b2][0]? = some (V.bl b0) from rfl)), (by show 3 ≤ sizeLine; decide), fun t2 n2 => ?_⟩
        have s4 := upd_new (o := .tup [V.bl false, V.bl b0, V.int 2]) n2
        have h2 : KAt (upd G3 t2 (.tup [V.bl false, V.bl b0, V.int 2])) t2 (false, b0, 2) := upd_same
        generalize upd G3 t2 (.tup [V.bl false, V.bl b0, V.int 2]) = G4 at s4 h2
        refine ⟨(by show 2 ≤ sizeLine; decide), fun lr nlr => ?_⟩
        have s5 := upd_new (o := .lst [V.ref t1, V.ref t2]) nlr
        have h3 : upd G4 lr (.lst [V.ref t1, V.ref t2]) lr = some (.lst [V.ref t1, V.ref t2]) := upd_same
        generalize upd G4 lr (.lst [V.ref t1, V.ref t2]) = G5 at s5 h3
        have hD5 := s5 _ _ (s4 _ _ hD3)
        refine ⟨.ref D, rfl, D, _, 1, .bl b1, rfl, rfl, .inl (.inl hD5), (atI_nat (show [V.bl b0, V.bl b1, V.bl b2][1]? = some (V.bl b1) from rfl)), (by show 3 ≤ sizeLine; decide), fun t3 n3 => ?_⟩
        have s6 := upd_new (o := .tup [V.bl false, V.bl b1, V.int 0]) n3
        have h4 : KAt (upd G5 t3 (.tup [V.bl false, V.bl b1, V.int 0])) t3 (false, b1, 0) := upd_same
        generalize upd G5 t3 (.tup [V.bl false, V.bl b1, V.int 0]) = G6 at s6 h4
        have hD6 := s6 _ _ hD5
        refine ⟨.ref D, rfl, D, _, 2, .bl b2, rfl, rfl, .inl (.inl hD6), (atI_nat (show [V.bl b0, V.bl b1, V.bl b2][2]? = some (V.bl b2) from rfl)), (by show 3 ≤ sizeLine; decide), fun t4 n4 => ?_⟩
        have s7 := upd_new (o := .tup [V.bl true, V.bl b2, V.int 1]) n4
        have h5 : KAt (upd G6 t4 (.tup [V.bl true, V.bl b2, V.int 1])) t4 (true, b2, 1) := upd_same
        generalize upd G6 t4 (.tup [V.bl true, V.bl b2, V.int 1]) = G7 at s7 h5
        refine ⟨(by show 2 ≤ sizeLine; decide), fun lo nlo => ⟨(by show 2 ≤ sizeLine; decide), fun q nq => ?_⟩⟩
        have s8 := upd_new (o := .lst [V.ref t3, V.ref t4]) nlo
        have h6 : upd G7 lo (.lst [V.ref t3, V.ref t4]) lo = some (.lst [V.ref t3, V.ref t4]) := upd_same
        generalize upd G7 lo (.lst [V.ref t3, V.ref t4]) = G8 at s8 h6 nq ⊢
        have s9 := upd_new (o := .tup [V.ref lr, V.ref lo]) nq
        have h7 : upd G8 q (.tup [V.ref lr, V.ref lo]) q = some (.tup [V.ref lr, V.ref lo]) := upd_same
        generalize upd G8 q (.tup [V.ref lr, V.ref lo]) = G9 at s9 h7
        have s49 := ((((s5.trans s6).trans s7).trans s8).trans s9)
        have s79 := s8.trans s9
        refine kk G9 k2 lf2 q [(t1, (false, b0, 0)), (t2, (false, b0, 2))] [(t3, (false, b1, 0)), (t4, (true, b2, 1))] (by have : k2 ≤ k1 + (3 : Nat) := a1; omega) a2 a3 (fun b o hb e => s49 _ _ (s4 _ _ (s3 _ _ (s2 _ _ hb (s1 _ _ hb e))))) (((P2.same s3).same s4).same s49) ⟨lr, lo, h7, ?_, s9 _ _ h6, ?_, ?_⟩ (five_good b0) (five_good2 b1 b2)
        · exact s9 _ _ (s8 _ _ (s7 _ _ (s6 _ _ h3)))
        · intro z hz
          simp only [List.mem_cons, List.mem_nil_iff, or_false] at hz
          rcases hz with rfl | rfl
          · exact s49 _ _ (s4 _ _ h1)
          · exact s49 _ _ h2
        · intro z hz
          simp only [List.mem_cons, List.mem_nil_iff, or_false] at hz
          rcases hz with rfl | rfl
          · exact s79 _ _ (s7 _ _ h4)
          · exact s79 _ _ h5
    · -- two lists
      suffices rest : ∀ (G : Hp) (lr : Addr) (pr : PK) (k2 lf2 : Int), k2 ≤ k1 + 13 → 0 ≤ k2 → 0 ≤ lf2 → SameBut p H G → PenAt G p l ns k2 lf2 → G lr = some (.lst (rfs pr)) → KsAt G pr → GoodK (kds pr) → _ by
        refine ⟨.int m, rfl, rfl, _, rfl, ?_⟩
        refine ite2 (fun _ => ?_) (fun _ => ?_)
        · exact ⟨.ref p, rfl, p, l, ns, k1, lf1, rfl, P1, hn, g2, by omega, g3, fun G2 k2 lf2 r ps a1 a2 a3 s2 P2 _ h1 h2 h3 => rest G2 r ps k2 lf2 a1 a2 a3 (s1.trans s2) P2 h1 h2 h3⟩
        · refine ⟨"plain", rfl, by decide +kernel, fun G3 q pr po s3 hq e1 e2 => ?_⟩
          obtain ⟨lr, lo, t1, t2, t3, t4, t5⟩ := hq
          refine ⟨q, _, 0, .ref lr, rfl, rfl, .inl (.inl t1), rfl, rest G3 lr pr k1 lf1 (by omega) g2 g3 (fun b o hb e => s3 _ _ (s1 _ _ hb e)) (P1.same s3) t2 t4 ?_⟩
          rw [e1]
          exact (known_good (by decide +kernel)).1
      intro G lr pr k2 lf2 a1 a2 a3 sG PG h1 h2 h3
      refine ⟨.ref p, rfl, p, l, ns, k2, lf2, rfl, PG, hn, a2, by omega, a3, fun G2 k3 lf3 lo po b1 b2 b3 s2 P2 _ q1 q2 q3 => ⟨(by show 2 ≤ sizeLine; decide), fun q nq => ?_⟩⟩
      have s3 := upd_new (o := .tup [V.ref lr, V.ref lo]) nq
      have nlp : lr ≠ p := ne_of h1 PG.dc (by intro z; cases z)
      refine kk _ k3 lf3 q pr po (by omega) b2 b3 (fun b o hb e => s3 _ _ (s2 _ _ hb (sG _ _ hb e))) (P2.same s3) ⟨lr, lo, upd_same, s3 _ _ (s2 _ _ nlp h1), s3 _ _ q1, ?_, ?_⟩ h3 q3
      · exact (h2.but PG s2).same fun c xs e => s3 _ _ e
      · exact q2.same fun c xs e => s3 _ _ e
/-! ### the program's rule -/
def spRMade (CT : Addr) : Sp := fun vs H Q _ => ∃ (q : Addr) (pr po : PK), vs = [.ref q] ∧ ToldAt H q pr po ∧ GoodK (kds pr) ∧ GoodK (kds po) ∧ ∀ (H' : Hp) (x : Addr), Same H H' → RuleR CT H' (.ref x) (srtK pr) (srtK po) → Q (.ref x) H'
theorem ok_rmade (F : Fun K "_law_rule_made" "_law_rule_made" (top 22) f fd) (gL : mg "list" = none) (gRu : mg "Rule" = some (.ref CT)) (M : Mk K CT fI) (GI : FnOk P w K mg base CX0 3 fI fdI ["self", "root", "others"] (spInitR CT)) (bI : Binds K fdI ["self", "root", "others"] []) : FnOk P w K mg base CX0 5 f fd ["rule"] (spRMade CT) := by
  have S0 : FnScope ["rule"] ["rule"] (defScope (top 22)) := ⟨rfl, rfl, rfl, by decide +kernel, rfl, by decide +kernel, by decide +kernel⟩
  have nd := S0.nd
  refine F.ok S0 (fun vs H Q E h => ?_) (fun cdv A outer s H vs Q E hr h => ?_)
  · obtain ⟨q, pr, po, rfl, _⟩ := h
    rfl
  · obtain ⟨q, pr, po, rfl, ⟨lr, lo, h1, h2, h3, h4, h5⟩, g1, g2, kk⟩ := h
    refine ⟨_, pss_one (ps_ret (pe_make M GI hr rfl gRu bI .nil pass0 (pa_cons (pe_callTy call_list_of (by rfl) gL PyProof.Rows.boot_list (pa_cons (pe_ix (r := rIxT K) ix_tup (pv 0) pe_int (fun _ _ => rfl)) pa_nil)) (pa_cons (pe_callTy call_list_of (by rfl) gL PyProof.Rows.boot_list (pa_cons (pe_ix (r := rIxT K) ix_tup (pv 0) pe_int (fun _ _ => rfl)) pa_nil)) pa_nil)))), ?_⟩
    refine ⟨.ref q, rfl, q, _, 0, .ref lr, rfl, rfl, .inl (.inl h1), rfl, lr, _, rfl, .inl (.inl (.inl h2)), fun l1 n1 => ?_⟩
    have s1 := upd_new (o := .lst (rfs pr)) n1
    have e1 : upd H l1 (.lst (rfs pr)) l1 = some (.lst (rfs pr)) := upd_same
    generalize upd H l1 (.lst (rfs pr)) = H1 at s1 e1
    refine ⟨.ref q, rfl, q, _, 1, .ref lo, rfl, rfl, .inl (.inl (s1 _ _ h1)), rfl, lo, _, rfl, .inl (.inl (.inl (s1 _ _ h3))), fun l2 n2 => ?_⟩
    have s2 := upd_new (o := .lst (rfs po)) n2
    have e2 : upd H1 l2 (.lst (rfs po)) l2 = some (.lst (rfs po)) := upd_same
    generalize upd H1 l2 (.lst (rfs po)) = H2 at s2 e2
    intro x dx nx ndx ne
    have s3 : Same H2 (upd (upd H2 dx (.own x)) x (.ins CT dx [])) := fun b o e => by
      rw [upd_ne (ne_of_none e nx), upd_ne (ne_of_none e ndx)]
      exact e
    have hx : upd (upd H2 dx (.own x)) x (.ins CT dx []) x = some (.ins CT dx []) := upd_same
    generalize upd (upd H2 dx (.own x)) x (.ins CT dx []) = H3 at s3 hx
    have sA := (s1.trans s2).trans s3
    have lp : pr.length ≤ 12 := by
      rw [← kds_len]
      exact g1.sz
    have lq : po.length ≤ 12 := by
      rw [← kds_len]
      exact g2.sz
    refine ⟨x, dx, l1, l2, pr, po, rfl, hx, s3 _ _ (s2 _ _ e1), s3 _ _ e2, h4.same fun c xs e => sA _ _ e, h5.same fun c xs e => sA _ _ e, fun p hp => g1.ok _ (List.mem_map.mpr ⟨p, hp, rfl⟩), fun p hp => g2.ok _ (List.mem_map.mpr ⟨p, hp, rfl⟩), g1.nd, g2.nd, by omega, by omega, fun H4 fs tr to' k4 hx4 f1 f2 t1 t2 => ⟨rfl, ?_⟩⟩
    have xn : H x = none := by
      cases e : H x with
      | none => rfl
      | some o =>
        have z := s2 _ _ (s1 _ _ e)
        rw [nx] at z
        cases z
    have s4 : Same H H4 := fun b o e => k4 _ _ (ne_of_none e xn) (sA _ _ e)
    refine kk H4 x s4 ⟨x, dx, fs, tr, to', rfl, hx4, f1, f2, t1, t2, ?_, ?_, ?_, ?_⟩
    · exact fun p hp => s4 _ _ (h4 p ((srtK_perm pr).mem_iff.mp hp))
    · exact fun p hp => s4 _ _ (h5 p ((srtK_perm po).mem_iff.mp hp))
    · rw [(srtK_perm pr).length_eq]
      omega
    · rw [(srtK_perm po).length_eq]
      omega
end
end SK
namespace SK
open PySem PySem.Spec PyProof.Rows L2 LamX NdefX
/-! ### the least parts, by laps -/
abbrev LS := Option Int × Option Int
def sel (s : LS) (b : Bool) : Option Int := if b = true then s.2 else s.1
def put2 (s : LS) (b : Bool) (x : Int) : LS := if b = true then (s.1, some x) else (some x, s.2)
def minI (x y : Int) : Int := if y < x then y else x
def subL (s : LS) (m : Bool) (bs : List Bool) : LS :=
  if (bs.all fun b => (sel s b).isSome) = true then
    put2 s (m || bs.any id) (minI (1 + (bs.map fun b => (sel s b).getD 0).sum) ((sel s (m || bs.any id)).getD (1 + (bs.map fun b => (sel s b).getD 0).sum)))
  else s
def combos : List (Bool × Bool) := [(false, false), (false, true), (true, false), (true, true)]
def bels (c : Bool × Bool) (n : Int) : List Bool := [c.1, c.2].take n.toNat
def stepK (s : LS) (k : Kd) (c : Bool × Bool) : LS := subL s k.1 (bels c k.2.2)
structure InvL (O : List Kd) (s : LS) : Prop where
  a : s.1 = none ∨ (s.1 = some 1 ∧ bareB O = true)
  b : ∀ x, s.2 = some x → ∃ t, leastP O true = some t ∧ t ≤ x ∧ 1 ≤ t
def Mono (s s' : LS) : Prop := (s.1 = some 1 → s'.1 = some 1) ∧ ∀ x, s.2 = some x → ∃ y, s'.2 = some y ∧ y ≤ x
theorem Mono.refl (s : LS) : Mono s s := ⟨id, fun x h => ⟨x, h, Int.le_refl _⟩⟩
theorem Mono.trans {a b c : LS} (h1 : Mono a b) (h2 : Mono b c) : Mono a c := ⟨fun h => h2.1 (h1.1 h), fun x h => by
  obtain ⟨y, e1, l1⟩ := h1.2 x h
  obtain ⟨z, e2, l2⟩ := h2.2 y e1
  exact ⟨z, e2, by omega⟩⟩
theorem mem_child {O : List Kd} {k : Kd} (h : k ∈ O) {b : Bool} (e : k.1 = b) : k.2.2 ∈ childL O b := List.mem_map.mpr ⟨k, List.mem_filter.mpr ⟨h, decide_eq_true e⟩, rfl⟩
theorem child_mem {O : List Kd} {b : Bool} {c : Int} (h : c ∈ childL O b) : ∃ k ∈ O, k.1 = b ∧ k.2.2 = c := by
  obtain ⟨k, hk, e⟩ := List.mem_map.mp h
  obtain ⟨h1, h2⟩ := List.mem_filter.mp hk
  exact ⟨k, h1, of_decide_eq_true h2, e⟩
theorem least_zero {O : List Kd} (h : (0 : Int) ∈ childL O true) : leastP O true = some 1 := by
  unfold leastP
  rw [if_pos rfl, if_pos h]
theorem least_le {O : List Kd} (ok : ∀ k ∈ O, OkK k) (hb : bareB O = true) {c : Int} (h : c ∈ childL O true) : ∃ t, leastP O true = some t ∧ t ≤ 1 + c ∧ 1 ≤ t := by
  obtain ⟨k, hk, _, e⟩ := child_mem h
  have hc := ok k hk
  unfold OkK at hc
  rw [e] at hc
  unfold leastP
  rw [if_pos rfl]
  by_cases z : (0 : Int) ∈ childL O true
  · rw [if_pos z]
    exact ⟨1, rfl, by omega, Int.le_refl _⟩
  · rw [if_neg z, if_pos hb]
    cases q : (childL O true).min? with
    | none =>
      rw [List.min?_eq_none_iff] at q
      rw [q] at h
      cases h
    | some m =>
      obtain ⟨m1, m2⟩ := List.min?_eq_some_iff.mp q
      obtain ⟨k2, hk2, _, e2⟩ := child_mem m1
      have hm := ok k2 hk2
      unfold OkK at hm
      rw [e2] at hm
      have := m2 c h
      exact ⟨1 + m, rfl, by omega, by omega⟩
theorem put_ok {O : List Kd} {s : LS} (I : InvL O s) (b : Bool) (z : Int) (h0 : b = false → bareB O = true ∧ 1 ≤ z ∧ (s.1 = none → z = 1)) (h1 : b = true → ∃ t, leastP O true = some t ∧ t ≤ z ∧ 1 ≤ t) :
    InvL O (put2 s b (minI z ((sel s b).getD z))) ∧ Mono s (put2 s b (minI z ((sel s b).getD z))) ∧ (b = false → (put2 s b (minI z ((sel s b).getD z))).1 = some 1) ∧ (b = true → ∃ y, (put2 s b (minI z ((sel s b).getD z))).2 = some y ∧ y ≤ z) := by
  obtain ⟨lf, lt⟩ := s
  obtain ⟨Ia, Ib⟩ := I
  cases b with
  | false =>
    obtain ⟨hb, hz, hn⟩ := h0 rfl
    have e : minI z ((sel (lf, lt) false).getD z) = 1 := by
      unfold minI
      rcases Ia with Ia | ⟨Ia, _⟩
      · have Ia : lf = none := Ia
        subst Ia
        have := hn rfl
        show (if z < z then z else z) = 1
        split <;> omega
      · have Ia : lf = some 1 := Ia
        subst Ia
        show (if (1 : Int) < z then 1 else z) = 1
        split <;> omega
    rw [e]
    refine ⟨⟨.inr ⟨rfl, hb⟩, Ib⟩, ⟨fun _ => rfl, fun x h => ⟨x, h, Int.le_refl _⟩⟩, fun _ => rfl, fun h => nomatch h⟩
  | true =>
    obtain ⟨t, ht, hle, ht1⟩ := h1 rfl
    have key : ∀ x, lt = some x → t ≤ x := fun x h => by
      obtain ⟨t2, e2, l2, _⟩ := Ib x h
      rw [ht] at e2
      have := Option.some.inj e2
      omega
    refine ⟨⟨Ia, fun x h => ?_⟩, ⟨fun h => h, fun x h => ?_⟩, (fun h => nomatch h), fun _ => ⟨_, rfl, ?_⟩⟩
    · have h : some (minI z (lt.getD z)) = some x := h
      have h := Option.some.inj h
      refine ⟨t, ht, ?_, ht1⟩
      rw [← h]
      unfold minI
      cases lt with
      | none =>
        show t ≤ if z < z then z else z
        split <;> omega
      | some y =>
        have := key y rfl
        show t ≤ if y < z then y else z
        split <;> omega
    · have h : lt = some x := h
      subst h
      refine ⟨_, rfl, ?_⟩
      show (if x < z then x else z) ≤ x
      split <;> omega
    · unfold minI
      split <;> omega
/-- one kind with two parts below -/
theorem step_ok {O : List Kd} (ok : ∀ k ∈ O, OkK k) {s : LS} (I : InvL O s) {k : Kd} (hk : k ∈ O) (c : Bool × Bool) : InvL O (stepK s k c) ∧ Mono s (stepK s k c) ∧ (k.1 = false → k.2.2 = 0 → (stepK s k c).1 = some 1) ∧ (k.1 = true → k.2.2 = 0 → ∃ y, (stepK s k c).2 = some y ∧ y ≤ 1) ∧
    (k.1 = true → s.1 = some 1 → c = (false, false) → ∃ y, (stepK s k c).2 = some y ∧ y ≤ 1 + k.2.2) := by
  have hc := ok k hk
  have h0 : k.1 = false → k.2.2 = 0 → bareB O = true := fun e1 e2 => decide_eq_true (by rw [← e2]; exact mem_child hk e1)
  have hm : k.1 = true → k.2.2 ∈ childL O true := fun e => mem_child hk e
  obtain ⟨m, g, n⟩ := k
  obtain ⟨b1, b2⟩ := c
  obtain ⟨lf, lt⟩ := s
  have hc : 0 ≤ n ∧ n ≤ 2 := hc
  have hn : n = 0 ∨ n = 1 ∨ n = 2 := by omega
  have v1 : lf.isSome = true → lf = some 1 ∧ bareB O = true := fun h => by
    rcases I.a with z | z
    · have z : lf = none := z
      rw [z] at h
      cases h
    · exact z
  have v2 : lt.isSome = true → ∃ x t, lt = some x ∧ leastP O true = some t ∧ t ≤ x ∧ 1 ≤ t := fun h => by
    obtain ⟨x, hx⟩ := Option.isSome_iff_exists.mp h
    obtain ⟨t, h1, h2, h3⟩ := I.b x hx
    exact ⟨x, t, hx, h1, h2, h3⟩
  have cl : m = true → lf = some 1 → bareB O = true → ∃ t, leastP O true = some t ∧ t ≤ 1 + n ∧ 1 ≤ t := fun e1 e2 e3 => least_le ok e3 (hm e1)
  have cz : m = true → n = 0 → ∃ t, leastP O true = some t ∧ t ≤ 1 ∧ 1 ≤ t := fun e1 e2 => ⟨1, least_zero (by have z := hm e1; dsimp only at z; rw [e2] at z; exact z), by omega, by omega⟩
  dsimp only at h0
  by_cases hall : ((bels (b1, b2) n).all fun b => (sel (lf, lt) b).isSome) = true
  · have est : stepK (lf, lt) (m, g, n) (b1, b2) = put2 (lf, lt) (m || (bels (b1, b2) n).any id) (minI (1 + ((bels (b1, b2) n).map fun b => (sel (lf, lt) b).getD 0).sum) ((sel (lf, lt) (m || (bels (b1, b2) n).any id)).getD (1 + ((bels (b1, b2) n).map fun b => (sel (lf, lt) b).getD 0).sum))) := by
      show subL _ _ _ = _
      unfold subL
      rw [if_pos hall]
    have c1 : (m || (bels (b1, b2) n).any id) = false → bareB O = true ∧ 1 ≤ (1 + ((bels (b1, b2) n).map fun b => (sel (lf, lt) b).getD 0).sum) ∧ (lf = none → (1 + ((bels (b1, b2) n).map fun b => (sel (lf, lt) b).getD 0).sum) = 1) := by
      intro hq
      rcases hn with rfl | rfl | rfl <;> cases m <;> cases b1 <;> cases b2 <;> simp [bels, sel] at hall hq h0 ⊢ <;> (try exact h0) <;> (obtain ⟨r1, r2⟩ := v1 (by simp_all)) <;> (subst r1) <;> simp_all
    have c2 : (m || (bels (b1, b2) n).any id) = true → ∃ t, leastP O true = some t ∧ t ≤ (1 + ((bels (b1, b2) n).map fun b => (sel (lf, lt) b).getD 0).sum) ∧ 1 ≤ t := by
      intro hq
      rcases hn with rfl | rfl | rfl <;> cases m <;> cases b1 <;> cases b2 <;> simp [bels, sel] at hall hq ⊢ <;>
        first
        | exact cz rfl rfl
        | (obtain ⟨r1, r2⟩ := v1 (by simp_all)
           obtain ⟨x, t, q1, q2, q3, q4⟩ := v2 (by simp_all)
           refine ⟨t, q2, ?_, q4⟩
           rw [r1, q1]
           simp
           omega)
        | (obtain ⟨x, t, q1, q2, q3, q4⟩ := v2 (by simp_all)
           refine ⟨t, q2, ?_, q4⟩
           rw [q1]
           simp
           omega)
        | (obtain ⟨r1, r2⟩ := v1 (by simp_all)
           obtain ⟨t, q2, q3, q4⟩ := cl rfl r1 r2
           refine ⟨t, q2, ?_, q4⟩
           rw [r1]
           simp
           omega)
    have P := put_ok I _ _ c1 c2
    rw [est]
    refine ⟨P.1, P.2.1, fun e1 e2 => ?_, fun e1 e2 => ?_, fun e1 e2 e3 => ?_⟩
    · have e1 : m = false := e1
      have e2 : n = 0 := e2
      subst e1 e2
      exact P.2.2.1 rfl
    · have e1 : m = true := e1
      have e2 : n = 0 := e2
      subst e1 e2
      exact P.2.2.2 rfl
    · have e1 : m = true := e1
      have e2 : lf = some 1 := e2
      injection e3 with e3 e4
      subst e1 e2 e3 e4
      obtain ⟨y, hy, hle⟩ := P.2.2.2 rfl
      refine ⟨y, hy, Int.le_trans hle ?_⟩
      rcases hn with rfl | rfl | rfl <;> simp [bels, sel]
  · have est : stepK (lf, lt) (m, g, n) (b1, b2) = (lf, lt) := by
      show subL _ _ _ = _
      unfold subL
      rw [if_neg hall]
    rw [est]
    have nz : n ≠ 0 := fun z => hall (by rw [z]; rfl)
    refine ⟨I, Mono.refl _, fun _ e2 => absurd e2 nz, fun _ e2 => absurd e2 nz, fun e1 e2 e3 => absurd ?_ hall⟩
    have e2 : lf = some 1 := e2
    injection e3 with e3 e4
    subst e2 e3 e4
    rcases hn with rfl | rfl | rfl <;> rfl
/-- all four below one kind -/
def four (s : LS) (k : Kd) : LS := combos.foldl (fun s c => stepK s k c) s
theorem fold_ok {O : List Kd} (ok : ∀ k ∈ O, OkK k) {k : Kd} (hk : k ∈ O) : ∀ (cs : List (Bool × Bool)) (s : LS), InvL O s → InvL O (cs.foldl (fun s c => stepK s k c) s) ∧ Mono s (cs.foldl (fun s c => stepK s k c) s)
  | [], s, I => ⟨I, Mono.refl s⟩
  | c :: cs, s, I => by
    obtain ⟨a1, a2, _⟩ := step_ok ok I hk c
    obtain ⟨b1, b2⟩ := fold_ok ok hk cs _ a1
    exact ⟨b1, a2.trans b2⟩
theorem four_ok {O : List Kd} (ok : ∀ k ∈ O, OkK k) {k : Kd} (hk : k ∈ O) {s : LS} (I : InvL O s) : InvL O (four s k) ∧ Mono s (four s k) ∧ (k.1 = false → k.2.2 = 0 → (four s k).1 = some 1) ∧ (k.1 = true → k.2.2 = 0 → ∃ y, (four s k).2 = some y ∧ y ≤ 1) ∧ (k.1 = true → s.1 = some 1 → ∃ y, (four s k).2 = some y ∧ y ≤ 1 + k.2.2) := by
  obtain ⟨a1, a2, a3, a4, a5⟩ := step_ok ok I hk (false, false)
  obtain ⟨b1, b2⟩ := fold_ok ok hk [(false, true), (true, false), (true, true)] _ a1
  refine ⟨b1, a2.trans b2, fun e1 e2 => b2.1 (a3 e1 e2), fun e1 e2 => ?_, fun e1 e2 => ?_⟩
  · obtain ⟨y, h1, h2⟩ := a4 e1 e2
    obtain ⟨z, h3, h4⟩ := b2.2 y h1
    exact ⟨z, h3, by omega⟩
  · obtain ⟨y, h1, h2⟩ := a5 e1 e2 rfl
    obtain ⟨z, h3, h4⟩ := b2.2 y h1
    exact ⟨z, h3, by omega⟩
structure Lap (O A1 A2 : List Kd) (s : LS) : Prop where
  I : InvL O s
  p : ∀ k ∈ A1, (k.1 = false → k.2.2 = 0 → s.1 = some 1) ∧ (k.1 = true → k.2.2 = 0 → ∃ y, s.2 = some y ∧ y ≤ 1)
  q : ∀ k ∈ A2, k.1 = true → bareB O = true → ∃ y, s.2 = some y ∧ y ≤ 1 + k.2.2
theorem Lap.one {O A1 A2 : List Kd} (ok : ∀ k ∈ O, OkK k) {s : LS} (h : Lap O A1 A2 s) {k : Kd} (hk : k ∈ O) (full : A2 ≠ [] ∨ True → True) : Lap O (A1 ++ [k]) A2 (four s k) := by
  obtain ⟨a1, a2, a3, a4, a5⟩ := four_ok ok hk h.I
  refine ⟨a1, fun c hc => ?_, fun c hc e1 e2 => ?_⟩
  · rcases List.mem_append.mp hc with hc | hc
    · obtain ⟨q1, q2⟩ := h.p c hc
      refine ⟨fun e1 e2 => a2.1 (q1 e1 e2), fun e1 e2 => ?_⟩
      obtain ⟨y, h1, h2⟩ := q2 e1 e2
      obtain ⟨z, h3, h4⟩ := a2.2 y h1
      exact ⟨z, h3, by omega⟩
    · obtain rfl : c = k := by simpa using hc
      exact ⟨a3, a4⟩
  · obtain ⟨y, h1, h2⟩ := h.q c hc e1 e2
    obtain ⟨z, h3, h4⟩ := a2.2 y h1
    exact ⟨z, h3, by omega⟩
theorem bare_one {O A2 : List Kd} {s : LS} (h : Lap O O A2 s) (hb : bareB O = true) : s.1 = some 1 := by
  obtain ⟨k, hk, e1, e2⟩ := child_mem (of_decide_eq_true hb)
  exact (h.p k hk).1 e1 e2
theorem Lap.two {O A2 : List Kd} (ok : ∀ k ∈ O, OkK k) {s : LS} (h : Lap O O A2 s) {k : Kd} (hk : k ∈ O) : Lap O O (A2 ++ [k]) (four s k) := by
  obtain ⟨a1, a2, a3, a4, a5⟩ := four_ok ok hk h.I
  refine ⟨a1, fun c hc => ?_, fun c hc e1 e2 => ?_⟩
  · obtain ⟨q1, q2⟩ := h.p c hc
    refine ⟨fun e1 e2 => a2.1 (q1 e1 e2), fun e1 e2 => ?_⟩
    obtain ⟨y, h1, h2⟩ := q2 e1 e2
    obtain ⟨z, h3, h4⟩ := a2.2 y h1
    exact ⟨z, h3, by omega⟩
  · rcases List.mem_append.mp hc with hc | hc
    · obtain ⟨y, h1, h2⟩ := h.q c hc e1 e2
      obtain ⟨z, h3, h4⟩ := a2.2 y h1
      exact ⟨z, h3, by omega⟩
    · obtain rfl : c = k := by simpa using hc
      exact a5 e1 (bare_one h e2)
/-- behind two laps all is told -/
theorem lap_end {O : List Kd} {s : LS} (h : Lap O O O s) (b : Bool) : sel s b = leastP O b := by
  cases b with
  | false =>
    show s.1 = _
    unfold leastP
    rw [if_neg Bool.false_ne_true]
    by_cases hb : bareB O = true
    · rw [if_pos hb, bare_one h hb]
    · rw [if_neg hb]
      rcases h.I.a with z | ⟨_, z⟩
      · exact z
      · exact absurd z hb
  | true =>
    show s.2 = _
    have ex : ∀ t, leastP O true = some t → ∃ y, s.2 = some y ∧ y ≤ t := fun t ht => by
      unfold leastP at ht
      rw [if_pos rfl] at ht
      by_cases z : (0 : Int) ∈ childL O true
      · rw [if_pos z] at ht
        obtain ⟨k, hk, e1, e2⟩ := child_mem z
        obtain ⟨y, h1, h2⟩ := (h.p k hk).2 e1 e2
        have := Option.some.inj ht
        exact ⟨y, h1, by omega⟩
      · rw [if_neg z] at ht
        by_cases hb : bareB O = true
        · rw [if_pos hb] at ht
          cases q : (childL O true).min? with
          | none =>
            rw [q] at ht
            cases ht
          | some m =>
            rw [q] at ht
            have ht : some (1 + m) = some t := ht
            obtain ⟨m1, _⟩ := List.min?_eq_some_iff.mp q
            obtain ⟨k, hk, e1, e2⟩ := child_mem m1
            obtain ⟨y, h1, h2⟩ := h.q k hk e1 hb
            have := Option.some.inj ht
            exact ⟨y, h1, by omega⟩
        · rw [if_neg hb] at ht
          cases ht
    cases e : leastP O true with
    | none =>
      cases e2 : s.2 with
      | none => rfl
      | some x =>
        obtain ⟨t, ht, _⟩ := h.I.b x e2
        rw [e] at ht
        cases ht
    | some t =>
      obtain ⟨y, h1, h2⟩ := ex t e
      obtain ⟨t2, ht, h3, _⟩ := h.I.b y h1
      rw [e] at ht
      have := Option.some.inj ht
      rw [h1]
      congr 1
      omega
end SK
namespace SK
open PySem PySem.Spec PyProof.Rows L2 LamX NdefX
open K0 (De DeAll XCl spX withX)
/-! ### the law's least parts -/
def lb (b : Bool) : Lf := .num (if b = true then 1 else 0)
theorem lb_inj {a b : Bool} (h : lb a = lb b) : a = b := by
  cases a <;> cases b <;> first | rfl | (injection h with h; simp at h; done)
def StL (P : Program) (w : World) (G : Hp) (d : Addr) (s : LS) (n : Nat) : Prop := ∃ kvs : List (Lf × V), DB P w G d kvs ∧ (∀ b, valV kvs (lb b) = (sel s b).map V.int) ∧ kvs.length ≤ n
theorem StL.same {P : Program} {w : World} {G G' : Hp} {d : Addr} {s : LS} {n : Nat} (h : StL P w G d s n) (e : Same G G') : StL P w G' d s n := by
  obtain ⟨kvs, h1, h2, h3⟩ := h
  exact ⟨kvs, h1.same e, h2, h3⟩
theorem put_val {kvs : List (Lf × V)} {s : LS} (h : ∀ b, valV kvs (lb b) = (sel s b).map V.int) (c : Bool) (x : Int) (b : Bool) : valV (putK kvs (lb c) (.int x)) (lb b) = (sel (put2 s c x) b).map V.int := by
  rw [valV_put]
  by_cases e : b = c
  · subst e
    rw [if_pos rfl]
    cases b <;> rfl
  · rw [if_neg (fun z => e (lb_inj z)), h]
    cases b <;> cases c <;> first | rfl | exact absurd rfl e
theorem inV_true (bs : List Bool) : inV (.bl true) (bs.map V.bl) = bs.any id := by
  unfold inV
  rw [List.any_map]
  refine congrArg (fun f => bs.any f) (funext fun b => ?_)
  cases b <;> rfl
theorem flat_bls (bs : List Bool) : (bs.map V.bl).all flatV = true := by
  rw [List.all_map, List.all_eq_true]
  intro n _
  rfl
theorem cut_bels (c : Bool × Bool) {n : Int} (h : 0 ≤ n ∧ n ≤ 2) : cutV [V.bl c.1, V.bl c.2] none (some n) = (bels c n).map V.bl := by
  obtain ⟨a, b⟩ := c
  have : n = 0 ∨ n = 1 ∨ n = 2 := by omega
  rcases this with rfl | rfl | rfl <;> rfl
theorem bels_len (c : Bool × Bool) (n : Int) : (bels c n).length ≤ 2 := by
  unfold bels
  rw [List.length_take]
  exact Nat.min_le_right _ _
theorem Lap.mono {O A1 A2 B1 B2 : List Kd} {s : LS} (h : Lap O A1 A2 s) (h1 : ∀ k ∈ B1, k ∈ A1) (h2 : ∀ k ∈ B2, k ∈ A2) : Lap O B1 B2 s := ⟨h.I, fun k hk => h.p k (h1 k hk), fun k hk => h.q k (h2 k hk)⟩
def a1 (O : List Kd) (i j : Nat) : List Kd := if i = 0 then O.take j else O
def a2 (O : List Kd) (i j : Nat) : List Kd := if i = 0 then [] else if i = 1 then O.take j else O
theorem lap_next {O : List Kd} (ok : ∀ k ∈ O, OkK k) {i j : Nat} {s : LS} (h : Lap O (a1 O i j) (a2 O i j) s) {k : Kd} (hk : O[j]? = some k) : Lap O (a1 O i (j + 1)) (a2 O i (j + 1)) (four s k) := by
  have hm := List.mem_of_getElem? hk
  unfold a1 a2 at h ⊢
  by_cases c0 : i = 0
  · rw [if_pos c0, if_pos c0] at h ⊢
    rw [take_snoc hk]
    exact h.one ok hm (fun _ => trivial)
  · rw [if_neg c0, if_neg c0] at h ⊢
    by_cases c1 : i = 1
    · rw [if_pos c1] at h ⊢
      rw [take_snoc hk]
      exact h.two ok hm
    · rw [if_neg c1] at h ⊢
      exact (h.two ok hm).mono (fun _ z => z) (fun _ z => List.mem_append_left _ z)
theorem lap_turn {O : List Kd} {i : Nat} {s : LS} (h : Lap O (a1 O i O.length) (a2 O i O.length) s) : Lap O (a1 O (i + 1) 0) (a2 O (i + 1) 0) s := by
  unfold a1 a2 at h ⊢
  rw [if_neg (Nat.succ_ne_zero i), if_neg (Nat.succ_ne_zero i)]
  by_cases c0 : i = 0
  · subst c0
    rw [if_pos rfl, if_pos rfl, List.take_length] at h
    rw [if_pos rfl, List.take_zero]
    exact h
  · rw [if_neg c0, if_neg c0] at h
    rw [if_neg (by omega)]
    by_cases c1 : i = 1
    · rw [if_pos c1, List.take_length] at h
      exact h
    · rw [if_neg c1] at h
      exact h
theorem lap_start (O : List Kd) : Lap O (a1 O 0 0) (a2 O 0 0) (none, none) := ⟨⟨.inl rfl, fun x h => nomatch h⟩, fun k hk => absurd hk (by simp [a1]), fun k hk => absurd hk (by simp [a2])⟩
theorem lap_last {O : List Kd} {s : LS} (h : Lap O (a1 O 9 0) (a2 O 9 0) s) (b : Bool) : sel s b = leastP O b := lap_end (by simpa [a1, a2] using h) b
def PartsAt (P : Program) (w : World) (H : Hp) (d : Addr) (O : List Kd) : Prop := ∃ kvs : List (Lf × V), DB P w H d kvs ∧ ∀ b, valV kvs (lb b) = (leastP O b).map V.int
theorem PartsAt.same {P : Program} {w : World} {H H' : Hp} {d : Addr} {O : List Kd} (h : PartsAt P w H d O) (e : Same H H') : PartsAt P w H' d O := by
  obtain ⟨kvs, h1, h2⟩ := h
  exact ⟨kvs, h1.same e, h2⟩
def spParts (P : Program) (w : World) : Sp := fun vs H Q _ => ∃ (q : Addr) (pr po : PK), vs = [.ref q] ∧ ToldAt H q pr po ∧ GoodK (kds po) ∧ ∀ (H' : Hp) (d : Addr), Same H H' → PartsAt P w H' d (kds po) → Q (.ref d) H'
abbrev NP2 : List Str := ["rule", "least", "lap", "mark", "flag", "many", "below", "one", "keeps", "size"]
theorem keepsR {K : PySem.W.Frag} {σ : L2.St} {H : Hp} {Q : VK} {m : Bool} {lc : Addr} {n : Int} {c : Bool × Bool} (h3 : σ[3]? = some (some (V.bl m))) (h6 : σ[6]? = some (some (V.ref lc))) (h5 : σ[5]? = some (some (V.int n))) (hl : H lc = some (.lst [V.bl c.1, V.bl c.2])) (hn : 0 ≤ n ∧ n ≤ 2)
    (k : ∀ G, Same H G → Q (.bl (m || (bels c n).any id)) G) : tOrV (tVar 3) (tOp (rIn K false) (tC (.bl true)) (tSl (rSlL K) (tVar 6) tNoPart (tPart (tVar 5)))) σ H Q := by
  refine ⟨.bl m, h3, m, rfl, ?_⟩
  cases m with
  | true => exact iteT (k H (Same.refl H))
  | false =>
    refine iteF ⟨.ref lc, h6, .int n, h5, n, rfl, lc, _, rfl, .inl (.inl hl), fun l nl => ?_⟩
    have s := upd_new (o := .lst (cutV [V.bl c.1, V.bl c.2] none (some n))) nl
    have e : upd H l (.lst (cutV [V.bl c.1, V.bl c.2] none (some n))) l = some (.lst (cutV [V.bl c.1, V.bl c.2] none (some n))) := upd_same
    generalize upd H l (.lst (cutV [V.bl c.1, V.bl c.2] none (some n))) = G at s e
    rw [cut_bels c hn] at e
    refine ⟨l, _, rfl, .inl (.inl (.inl e)), rfl, flat_bls _, ?_⟩
    have z := k G s
    rw [← inV_true] at z
    exact z
section
variable {P : Program} {w : World} {K : PySem.W.Frag} {mg : Str → Option Value} {base : Heap} {f : Addr} {fd : FuncData}
abbrev teIn (P : Program) (w : World) : TE := tLIn P w (tVar 7) (tVar 1)
abbrev teGet (P : Program) (w : World) : TE := tLGet P w (tVar 1) (tVar 7)
theorem ok_parts (F : Fun K "_law_parts" "_law_parts" (top 23) f fd) (gR : mg "range" = none) (gA : mg "all" = none) (gSu : mg "sum" = none) (gM : mg "min" = none) : FnOk P w K mg base CX0 1 f fd ["rule"] (spParts P w) := by
  have S0 : FnScope NP2 ["rule"] (defScope (top 23)) := ⟨rfl, rfl, rfl, by decide +kernel, rfl, by decide +kernel, by decide +kernel⟩
  have nd := S0.nd
  refine F.ok S0 (fun vs H Q E h => ?_) (fun cdv A outer s H vs Q E hr h => ?_)
  · obtain ⟨q, pr, po, rfl, _⟩ := h
    rfl
  · obtain ⟨q, pr, po, rfl, ⟨lr, lo, t1, t2, t3, t4, t5⟩, gk, kk⟩ := h
    refine ⟨_, pss_cons (ps_set (i := 1) nd rfl (Or.inr rfl) pe_dnewB)
      (pss_cons (ps_for PassesOwn.never rfl (pi_range1 (by rfl) gR (pa_cons pe_int pa_nil)) (pg_name (i := 2) nd rfl (Or.inl rfl))
        (pss_one (ps_for PassesOwn.never rfl (pi_list (pe_ix (r := rIxT K) ix_tup (pv 0) pe_int (fun _ _ => rfl))) (pg_tup rfl (pgs_cons (pg_name (i := 3) nd rfl (Or.inl rfl)) (pgs_cons (pg_name (i := 4) nd rfl (Or.inl rfl)) (pgs_cons (pg_name (i := 5) nd rfl (Or.inl rfl)) pgs_nil))))
          (pss_one (ps_for PassesOwn.never rfl (pi_list (pe_lst (pa_cons (pe_lst (pa_cons pe_bl (pa_cons pe_bl pa_nil))) (pa_cons (pe_lst (pa_cons pe_bl (pa_cons pe_bl pa_nil))) (pa_cons (pe_lst (pa_cons pe_bl (pa_cons pe_bl pa_nil))) (pa_cons (pe_lst (pa_cons pe_bl (pa_cons pe_bl pa_nil))) pa_nil)))))) (pg_name (i := 6) nd rfl (Or.inl rfl))
            (pss_one (ps_if (pt_val (pe_callB (r := rAll K) (cr_all rfl) (by rfl) gA PyProof.Rows.boot_all (pa_cons (pe_lc (own := [("one", 7)]) (g := gName 7) (tt := tYes) (te := teIn P w) rfl nd (pi_list (pe_slice sl_list (pv 6) po_none (po_some (pv 5)))) (blkOk_by (N := NP2) (sc := defScope (top 23)) (by decide +kernel)) (fun _ _ _ _ _ => pg_name (i := 7) nd rfl (Or.inl rfl)) (fun _ _ _ _ _ => pts_nil)
                (fun _ _ _ _ _ => pe_cmp (pc_lin (pv 7) (pv 1)) rfl)) pa_nil)))
              (pss_cons (ps_set (i := 8) nd rfl (Or.inl rfl) (pe_or (pv 3) (pe_one (pe_cmpR (r := rIn K false) op_in_seq pe_bl (pe_slice sl_list (pv 6) po_none (po_some (pv 5))) (by rfl)))))
              (pss_cons (ps_set (i := 9) nd rfl (Or.inl rfl) (pe_op op_add pe_int (pe_callB (r := rSum K) (cr_sum rfl) (by rfl) gSu PyProof.Rows.boot_sum (pa_cons (pe_lc (own := [("one", 7)]) (g := gName 7) (tt := tYes) (te := teGet P w) rfl nd (pi_list (pe_slice sl_list (pv 6) po_none (po_some (pv 5)))) (blkOk_by (N := NP2) (sc := defScope (top 23)) (by decide +kernel)) (fun _ _ _ _ _ => pg_name (i := 7) nd rfl (Or.inl rfl)) (fun _ _ _ _ _ => pts_nil)
                (fun _ _ _ _ _ => pe_lget (pv 1) (pv 7) (fun _ _ => rfl))) pa_nil))))
              (pss_one (ps_lput (pv 1) (pv 8) (pe_callB (call_min2 rfl) (by rfl) gM PyProof.Rows.boot_min (pa_cons (pv 9) (pa_cons (pe_lget2 (pv 1) (pv 8) (pv 9) ⟨rfl, rfl, rfl, rfl⟩) pa_nil))) rfl)))) pss_nil)))))))
      (pss_one (ps_ret (pv 1)))), ?_⟩
    intro d nd0 D0
    refine ⟨9, rfl, by decide, by decide, for_it walk_range (fun i σ G => ∃ (x2 x3 x4 x5 x6 x8 x9 : Option V) (s : LS), σ = [some (.ref q), some (.ref d), x2, x3, x4, x5, x6, none, x8, x9] ∧ Same H G ∧ StL P w G d s (48 * i) ∧ Lap (kds po) (a1 (kds po) i 0) (a2 (kds po) i 0) s)
      ⟨none, none, none, none, none, none, none, (none, none), rfl, upd_new nd0, ⟨[], D0, fun b => by cases b <;> rfl, Nat.zero_le _⟩, lap_start _⟩ (fun _ _ _ _ _ => trivial) ?_ ?_⟩
    · rintro i x σ G G' hi ⟨x2, x3, x4, x5, x6, x8, x9, s, rfl, sG, hS, hL⟩ ⟨rfl, rfl⟩
      have hi' : i < 9 := hi
      refine ⟨.ref q, rfl, q, _, 1, .ref lo, rfl, rfl, .inl (.inl (sG _ _ t1)), rfl, lo, rfl, ⟨_, .inl (.inl (sG _ _ t3))⟩, for_it (walk_list (K := K) (a := lo) (xs := rfs po)) (fun j σ G => ∃ (x3 x4 x5 x6 x8 x9 : Option V) (s : LS), σ = [some (.ref q), some (.ref d), some (.int (0 + (i : Int))), x3, x4, x5, x6, none, x8, x9] ∧ Same H G ∧ StL P w G d s (48 * i + 4 * j) ∧ Lap (kds po) (a1 (kds po) i j) (a2 (kds po) i j) s)
        ⟨x3, x4, x5, x6, x8, x9, s, rfl, sG, hS, hL⟩ (fun j σ G _ z => by obtain ⟨_, _, _, _, _, _, _, _, s, _⟩ := z; exact .inl (.inl (s _ _ t3))) ?_ ?_⟩
      · rintro j y σ G1 G2 hj ⟨y3, y4, y5, y6, y8, y9, s1, rfl, sG1, hS1, hL1⟩ ⟨rfl, hy⟩
        obtain ⟨pp, hp, rfl⟩ := rfs_at hy
        have hkO : (kds po)[j]? = some pp.2 := by
          unfold kds
          rw [List.getElem?_map, hp]
          rfl
        have jl : j < 12 := by
          have z := (List.getElem?_eq_some_iff.mp hkO).1
          have z2 := gk.sz
          omega
        have okk := gk.ok _ (List.mem_of_getElem? hkO)
        have hLn := lap_next gk.ok hL1 hkO
        obtain ⟨pa, m, g, n⟩ := pp
        have okk : 0 ≤ n ∧ n ≤ 2 := okk
        have hk : G2 pa = some (.tup [.bl m, .bl g, .int n]) := sG1 _ _ (t5 _ (List.mem_of_getElem? hp))
        refine ⟨pa, _, rfl, .inl (.inl hk), rfl, _, _, rfl, _, _, rfl, _, _, rfl, rfl, ?_⟩
        -- the four lists
        refine ⟨(by show 2 ≤ sizeLine; decide), fun l1 n1 => ⟨(by show 2 ≤ sizeLine; decide), fun l2 n2 => ⟨(by show 2 ≤ sizeLine; decide), fun l3 n3 => ⟨(by show 2 ≤ sizeLine; decide), fun l4 n4 => ⟨(by show 4 ≤ sizeLine; decide), fun L nL => ?_⟩⟩⟩⟩⟩
        have q1 := upd_new (o := .lst [V.bl false, V.bl false]) n1
        have e1 : upd G2 l1 (.lst [V.bl false, V.bl false]) l1 = some (.lst [V.bl false, V.bl false]) := upd_same
        generalize upd G2 l1 (.lst [V.bl false, V.bl false]) = G3 at q1 e1 n2 n3 n4 nL ⊢
        have q2 := upd_new (o := .lst [V.bl false, V.bl true]) n2
        have e2 : upd G3 l2 (.lst [V.bl false, V.bl true]) l2 = some (.lst [V.bl false, V.bl true]) := upd_same
        generalize upd G3 l2 (.lst [V.bl false, V.bl true]) = G4 at q2 e2 n3 n4 nL ⊢
        have q3 := upd_new (o := .lst [V.bl true, V.bl false]) n3
        have e3 : upd G4 l3 (.lst [V.bl true, V.bl false]) l3 = some (.lst [V.bl true, V.bl false]) := upd_same
        generalize upd G4 l3 (.lst [V.bl true, V.bl false]) = G5 at q3 e3 n4 nL ⊢
        have q4 := upd_new (o := .lst [V.bl true, V.bl true]) n4
        have e4 : upd G5 l4 (.lst [V.bl true, V.bl true]) l4 = some (.lst [V.bl true, V.bl true]) := upd_same
        generalize upd G5 l4 (.lst [V.bl true, V.bl true]) = G6 at q4 e4 nL ⊢
        have q5 := upd_new (o := .lst [V.ref l1, V.ref l2, V.ref l3, V.ref l4]) nL
        have e5 : upd G6 L (.lst [V.ref l1, V.ref l2, V.ref l3, V.ref l4]) L = some (.lst [V.ref l1, V.ref l2, V.ref l3, V.ref l4]) := upd_same
        generalize upd G6 L (.lst [V.ref l1, V.ref l2, V.ref l3, V.ref l4]) = G7 at q5 e5
        have q35 := (q3.trans q4).trans q5
        have q15 := (q1.trans q2).trans q35
        have h1 := q35 _ _ (q2 _ _ e1)
        have h2 := q35 _ _ e2
        have h3 := q5 _ _ (q4 _ _ e3)
        have h4 := q5 _ _ e4
        have items : ∀ (b : Nat) (v : V), [V.ref l1, V.ref l2, V.ref l3, V.ref l4][b]? = some v → ∃ (l : Addr) (c : Bool × Bool), v = .ref l ∧ combos[b]? = some c ∧ G7 l = some (.lst [V.bl c.1, V.bl c.2]) := fun b v hb => by
          have hb4 : b < 4 := (List.getElem?_eq_some_iff.mp hb).1
          have : b = 0 ∨ b = 1 ∨ b = 2 ∨ b = 3 := by omega
          rcases this with rfl | rfl | rfl | rfl <;> have hb := Option.some.inj hb <;> subst hb
          · exact ⟨l1, (false, false), rfl, rfl, h1⟩
          · exact ⟨l2, (false, true), rfl, rfl, h2⟩
          · exact ⟨l3, (true, false), rfl, rfl, h3⟩
          · exact ⟨l4, (true, true), rfl, rfl, h4⟩
        have sG7 := sG1.trans q15
        refine ⟨L, rfl, ⟨_, .inl (.inl e5)⟩, for_it (walk_list (K := K) (a := L) (xs := [V.ref l1, V.ref l2, V.ref l3, V.ref l4])) (fun b σ G => ∃ (x6 x8 x9 : Option V), σ = [some (.ref q), some (.ref d), some (.int (0 + (i : Int))), some (.bl m), some (.bl g), some (.int n), x6, none, x8, x9] ∧ Same H G ∧ (∀ (b : Addr) (xs : List V), b ≠ d → G7 b = some (.lst xs) → G b = some (.lst xs)) ∧ StL P w G d ((combos.take b).foldl (fun s c => stepK s (m, g, n) c) s1) (48 * i + 4 * j + b))
          ⟨y6, y8, y9, rfl, sG7, (fun _ _ _ e => e), hS1.same q15⟩ (fun b σ G _ z => ?_) ?_ ?_⟩
        · obtain ⟨_, _, _, _, _, kl, _⟩ := z
          obtain ⟨kvs, z1, _⟩ := hS1.same q15
          exact .inl (.inl (kl _ _ (ne_of e5 z1.o (fun z => nomatch z)) e5))
        · rintro b v σ G G' hb ⟨x6, x8, x9, rfl, sG, kl, ⟨kvs, z1, z2, z3⟩⟩ ⟨rfl, hv⟩
          obtain ⟨lc, c, rfl, hc, hlc7⟩ := items b v hv
          obtain ⟨kvs0, z0, _⟩ := hS1.same q15
          have nlc : lc ≠ d := ne_of hlc7 z0.o (fun z => nomatch z)
          have hlc := kl _ _ nlc hlc7
          have hb4 : b < 4 := hb
          have en : (combos.take (b + 1)).foldl (fun s c => stepK s (m, g, n) c) s1 = stepK ((combos.take b).foldl (fun s c => stepK s (m, g, n) c) s1) (m, g, n) c := by
            rw [take_snoc hc, List.foldl_append]
            rfl
          rw [en]
          generalize (combos.take b).foldl (fun s c => stepK s (m, g, n) c) s1 = sb at z2
          have es : ∀ x, (valV kvs (lb x)).isSome = (sel sb x).isSome := fun x => by rw [z2, Option.isSome_map]
          have ec := cut_bels c okk
          have bz : (bels c n).length < sizeLine := Nat.lt_of_le_of_lt (bels_len c n) (by decide)
          refine ⟨.ref lc, rfl, .int n, rfl, n, rfl, lc, _, rfl, .inl (.inl hlc), fun l nl => ?_⟩
          have r1 := upd_new (o := .lst (cutV [V.bl c.1, V.bl c.2] none (some n))) nl
          have e1 : upd G' l (.lst (cutV [V.bl c.1, V.bl c.2] none (some n))) l = some (.lst (cutV [V.bl c.1, V.bl c.2] none (some n))) := upd_same
          generalize upd G' l (.lst (cutV [V.bl c.1, V.bl c.2] none (some n))) = Ga at r1 e1
          rw [ec] at e1
          refine ⟨l, rfl, ⟨_, .inl (.inl e1)⟩, fun D nD => lcF_list (K := K) (ws := bels c n) V.bl nD (fun x => V.bl (sel sb x).isSome) (fun _ => true) (.inl (.inl e1)) bz (fun i x Gx hx sx A B hA hB => ⟨rfl, .bl x, rfl, .ref d, rfl, d, _, rfl, ⟨kvs, lb x, (z1.same r1).same sx, .bl x, rfl⟩, ?_⟩) fun Gb sb1 hD => ?_⟩
          · have z := hA rfl
            rw [← es] at z
            exact z
          have dB : DB P w Gb d kvs := (z1.same r1).same sb1
          have sGb := (sG.trans r1).trans sb1
          have hlcB := sb1 _ _ (r1 _ _ hlc)
          have keep : ∀ {Gx : Hp} {o : HO}, Same Gb Gx → Same H (upd Gx d o) ∧ ∀ (b : Addr) (xs : List V), b ≠ d → G7 b = some (.lst xs) → upd Gx d o b = some (.lst xs) := fun {Gx o} sx => ⟨fun b o e => by
            have nb : b ≠ d := ne_of_none e nd0
            rw [upd_ne nb]
            exact sx _ _ (sGb _ _ e), fun b xs hb e => by
            rw [upd_ne hb]
            exact sx _ _ (sb1 _ _ (r1 _ _ (kl _ _ hb e)))⟩
          refine ⟨D, (bels c n).map fun x => (sel sb x).isSome, rfl, .inl (.inl ?_), _, rfl, ?_⟩
          · rw [hD, List.map_map, List.filter_eq_self.mpr fun _ _ => rfl]
            rfl
          have ea : ((bels c n).map fun x => (sel sb x).isSome).all id = (bels c n).all fun x => (sel sb x).isSome := by
            rw [List.all_map]
            rfl
          rw [ea]
          cases hall : (bels c n).all fun x => (sel sb x).isSome with
          | false =>
            refine iteF ⟨_, _, _, rfl, sGb, fun b xs hb e => sb1 _ _ (r1 _ _ (kl _ _ hb e)), kvs, dB, ?_, by omega⟩
            have est : stepK sb (m, g, n) c = sb := by
              show subL _ _ _ = _
              unfold subL
              rw [if_neg (by rw [hall]; simp)]
            rw [est]
            exact z2
          | true =>
            have est : stepK sb (m, g, n) c = put2 sb (m || (bels c n).any id) (minI (1 + ((bels c n).map fun b => (sel sb b).getD 0).sum) ((sel sb (m || (bels c n).any id)).getD (1 + ((bels c n).map fun b => (sel sb b).getD 0).sum))) := by
              show subL _ _ _ = _
              unfold subL
              rw [if_pos hall]
            rw [est]
            refine iteT ?_
            apply keepsR (m := m) (lc := lc) (n := n) (c := c) rfl rfl rfl hlcB okk
            intro Gc sc
            generalize (m || (bels c n).any id) = kp
            have hlcC := sc _ _ hlcB
            refine ⟨.ref lc, rfl, .int n, rfl, n, rfl, lc, _, rfl, .inl (.inl hlcC), fun l6 nl6 => ?_⟩
            have r2 := upd_new (o := .lst (cutV [V.bl c.1, V.bl c.2] none (some n))) nl6
            have e6 : upd Gc l6 (.lst (cutV [V.bl c.1, V.bl c.2] none (some n))) l6 = some (.lst (cutV [V.bl c.1, V.bl c.2] none (some n))) := upd_same
            generalize upd Gc l6 (.lst (cutV [V.bl c.1, V.bl c.2] none (some n))) = Gd at r2 e6
            rw [ec] at e6
            have dD := (dB.same sc).same r2
            refine ⟨l6, rfl, ⟨_, .inl (.inl e6)⟩, fun D6 nD6 => lcF_list (K := K) (ws := bels c n) V.bl nD6 (fun x => V.int ((sel sb x).getD 0)) (fun _ => true) (.inl (.inl e6)) bz (fun i x Gx hx sx A B hA hB => ⟨rfl, .ref d, rfl, .bl x, rfl, d, .int ((sel sb x).getD 0), rfl, ⟨kvs, lb x, dD.same sx, .bl x, ?_⟩, hA rfl⟩) fun Ge se hD6 => ?_⟩
            · have hxs := List.all_eq_true.mp hall x (List.mem_of_getElem? hx)
              obtain ⟨y, hy⟩ := Option.isSome_iff_exists.mp hxs
              rw [z2, hy]
              rfl
            have dE := dD.same se
            refine ⟨D6, (bels c n).map fun x => (sel sb x).getD 0, rfl, .inl (.inl ?_), 1, _, rfl, rfl, ?_⟩
            · rw [hD6, List.map_map, List.filter_eq_self.mpr fun _ _ => rfl]
              rfl
            generalize ((bels c n).map fun x => (sel sb x).getD 0).sum = su
            obtain ⟨kp1, kp2⟩ := keep (o := DBo P w d (putK kvs (lb kp) (.int (minI (1 + su) ((sel sb kp).getD (1 + su)))))) ((sc.trans r2).trans se)
            have ev : (valV kvs (lb kp)).getD (.int (1 + su)) = .int ((sel sb kp).getD (1 + su)) := by
              rw [z2]
              cases sel sb kp <;> rfl
            refine ⟨.int (1 + su), rfl, .ref d, rfl, d, rfl, ⟨kvs, dE⟩, .bl kp, rfl, .int (1 + su), rfl, _, ⟨kvs, lb kp, dE, .bl kp, rfl⟩, 1 + su, (sel sb kp).getD (1 + su), (by rw [ev]), .ref d, rfl, .bl kp, rfl, d, kvs, lb kp, rfl, dE, .bl kp, (by have z4 := gk.sz; omega), fun dF => ?_⟩
            have hlen := length_putK kvs (lb kp) (.int (minI (1 + su) ((sel sb kp).getD (1 + su))))
            exact ⟨_, _, _, rfl, kp1, kp2, putK kvs (lb kp) (.int (minI (1 + su) ((sel sb kp).getD (1 + su)))), dF, put_val z2 kp _, by omega⟩
        · rintro σ G ⟨x6, x8, x9, rfl, sG, _, hS⟩
          exact ⟨_, _, _, _, _, _, _, rfl, sG, hS, hLn⟩
      · rintro σ G1 ⟨y3, y4, y5, y6, y8, y9, s1, rfl, sG1, hS1, hL1⟩
        have el : (rfs po).length = (kds po).length := by rw [rfs_len, kds_len]
        rw [el] at hL1 hS1
        refine ⟨_, _, _, _, _, _, _, s1, rfl, sG1, ?_, lap_turn hL1⟩
        obtain ⟨kvs, z1, z2, z3⟩ := hS1
        have z4 := gk.sz
        exact ⟨kvs, z1, z2, by omega⟩
    · rintro σ G ⟨x2, x3, x4, x5, x6, x8, x9, s, rfl, sG, ⟨kvs, z1, z2, _⟩, hL⟩
      exact ⟨.ref d, rfl, kk G d sG ⟨kvs, z1, fun b => by rw [z2, lap_last hL]⟩⟩
end
end SK
namespace SK
open PySem PySem.Spec PyProof.Rows L2 LamX NdefX
open K0 (De DeAll XCl spX withX)
/-! ### expressions that make data -/
def Al (K : PySem.W.Frag) (H0 : Hp) (σ : St) (te : TE) (d : PyData) : Prop := ∀ (H : Hp) (R : VK), Same H0 H → (∀ H' v, Same H H' → De K H' v d → R v H') → te σ H R
def AlAll (K : PySem.W.Frag) (H0 : Hp) (σ : St) (ta : TA) (ds : List PyData) : Prop := ∀ (H : Hp) (R : List V → Hp → Prop), Same H0 H → (∀ H' vs, Same H H' → DeAll K H' vs ds → R vs H') → ta σ H R
section
variable {K : PySem.W.Frag} {H0 : Hp} {σ : St}
theorem Al.mono {H1 : Hp} {te : TE} {d : PyData} (h : Al K H0 σ te d) (s : Same H0 H1) : Al K H1 σ te d := fun H R s1 k => h H R (s.trans s1) k
theorem al_non : Al K H0 σ (tC .non) .none := fun H R _ k => k H _ (Same.refl _) .non
theorem al_bl {b : Bool} : Al K H0 σ (tC (.bl b)) (.bool b) := fun H R _ k => k H _ (Same.refl _) (.bl b)
theorem al_int {i : Int} : Al K H0 σ (tC (.int i)) (.int i) := fun H R _ k => k H _ (Same.refl _) (.int i)
theorem al_str {x : Str} : Al K H0 σ (tC (.str x)) (.str x) := fun H R _ k => k H _ (Same.refl _) (.str x)
theorem al_var {i : Nat} {v : V} {d : PyData} (h : σ[i]? = some (some v)) (hd : De K H0 v d) : Al K H0 σ (tVar i) d := fun H R s k => ⟨v, h, k H v (Same.refl _) (de_mono s _ _ hd)⟩
theorem al_new : Al K H0 σ tDNewK (.dict []) := fun H R s k p np => k _ _ (upd_new np) (.dic upd_same)
theorem al_nil : AlAll K H0 σ tNil [] := fun H R s k => k H [] (Same.refl _) .nil
theorem al_cons {te : TE} {ta : TA} {d : PyData} {ds : List PyData} (h1 : Al K H0 σ te d) (h2 : AlAll K H0 σ ta ds) : AlAll K H0 σ (tCons te ta) (d :: ds) := fun H R s k => by
  refine h1 H _ s fun H1 v s1 hd => ?_
  exact h2 H1 _ (s.trans s1) fun H2 vs s2 hds => k H2 (v :: vs) (s1.trans s2) (.cons (de_mono s2 _ _ hd) hds)
theorem al_tup {ta : TA} {ds : List PyData} (h : AlAll K H0 σ ta ds) (hz : ds.length ≤ 1000) : Al K H0 σ (tTup ta) (.tuple ds) := fun H R s k => by
  refine h H _ s fun H1 vs s1 hds => ⟨?_, fun p np => ?_⟩
  · rw [deAll_len hds]
    exact Nat.le_trans hz (by decide)
  · exact k _ _ (s1.trans (upd_new np)) (.tup upd_same (de_monoAll (upd_new np) _ _ hds))
theorem al_lst {ta : TA} {ds : List PyData} (h : AlAll K H0 σ ta ds) (hz : ds.length ≤ 1000) : Al K H0 σ (tLst ta) (.list ds) := fun H R s k => by
  refine h H _ s fun H1 vs s1 hds => ⟨?_, fun p np => ?_⟩
  · rw [deAll_len hds]
    exact Nat.le_trans hz (by decide)
  · exact k _ _ (s1.trans (upd_new np)) (.lst upd_same (de_monoAll (upd_new np) _ _ hds))
theorem deAll_app {H : Hp} : ∀ {xs ys : List V} {ds es : List PyData}, DeAll K H xs ds → DeAll K H ys es → DeAll K H (xs ++ ys) (ds ++ es)
  | _, _, _, _, .nil, h => h
  | _, _, _, _, .cons h t, h2 => .cons h (deAll_app t h2)
theorem al_cat {t1 t2 : TE} {ds es : List PyData} (h1 : Al K H0 σ t1 (.list ds)) (h2 : Al K H0 σ t2 (.list es)) (hz : ds.length + es.length ≤ 1000) : Al K H0 σ (tOp rCat t1 t2) (.list (ds ++ es)) := fun H R s k => by
  refine h1 H _ s fun H1 v s1 hd => ?_
  refine h2 H1 _ (s.trans s1) fun H2 u s2 he => ?_
  cases de_mono s2 _ _ hd with
  | @lst a xs _ ha hx =>
    cases he with
    | @lst b ys _ hb hy =>
      refine ⟨a, b, xs, ys, rfl, rfl, ha, hb, ?_, fun p np => ?_⟩
      · rw [deAll_len hx, deAll_len hy]
        exact Nat.le_trans hz (by decide)
      · exact k _ _ ((s1.trans s2).trans (upd_new np)) (.lst upd_same (de_monoAll (upd_new np) _ _ (deAll_app hx hy)))
theorem al_neg {i : Int} : Al K H0 σ (tUn (rU fun i => .int (-i)) (tC (.int i))) (.int (-i)) := fun H R s k => ⟨i, rfl, k H _ (Same.refl _) (.int _)⟩
end
theorem Al.go {K : PySem.W.Frag} {H0 H : Hp} {σ : St} {te : TE} {d : PyData} {R : VK} (h : Al K H0 σ te d) (s : Same H0 H) (k : ∀ H' v, Same H H' → De K H' v d → R v H') : te σ H R := h H R s k
theorem Al.set {K : PySem.W.Frag} {H0 H : Hp} {σ : St} {te : TE} {i : Nat} {u : TS} {D : Ends} {d : PyData} (h : Al K H0 σ te d) (s : Same H0 H) (k : ∀ H' v, Same H H' → De K H' v d → u D (σ.set i (some v)) H') : tSeq (tAsg te (gName i)) u D σ H := h H _ s k
theorem op_isnot_bl {X : Cx} : OpR X (compareOp .IsNot) (fun x y H Q => ∃ a b, x = .bl a ∧ y = .bl b ∧ Q (.bl (!decide (a = b))) H) := by
  intro pins s σ H x y v u Q I rx ry h
  obtain ⟨a, b, rfl, rfl, q⟩ := h
  obtain rfl : v = Value.bool a := rx
  obtain rfl : u = Value.bool b := ry
  refine wpAny_isNot_plain (by cases a <;> cases b <;> rfl) ⟨.bl _, H, I, ?_, q⟩
  show Value.bool _ = Value.bool _
  cases a <;> cases b <;> decide
/-! ### cells that are none -/
def odd0 : List PyData := [.none, .tuple [], .list [], .int 0, .str "cell", .tuple [.bool false, .bool false, .int 0], .list [.bool false, .bool false, .int 0, .bool false], .tuple [.bool false, .bool false, .int 3, .bool false]]
def odd1 : List PyData := [.tuple [.bool false, .bool false, .int (-1), .bool false], .tuple [.bool false, .bool false, .bool true, .bool false], .tuple [.int 0, .bool false, .int 0, .bool false], .tuple [.bool false, .int 1, .int 0, .bool false]]
def odd2 : List PyData := [.tuple [.bool false, .bool false, .int 0, .int 0], .tuple [.bool false, .bool false, .str "0", .bool false], .tuple [.none, .none, .int 0, .none]]
def odd3 : List PyData := [.tuple [.bool false, .bool false, .int 0, .bool false, .bool false]]
def odds : List PyData := ((odd0 ++ odd1) ++ odd2) ++ odd3
theorem odds_no : ∀ d ∈ odds, okCell d = false := by
  have z : odds.all (fun d => !okCell d) = true := by decide +kernel
  intro d hd
  have z2 := List.all_eq_true.mp z d hd
  simpa using z2
def spOdd (K : PySem.W.Frag) : Sp := fun vs H Q _ => vs = [] ∧ ∀ (H' : Hp) (l : Addr) (xs : List V), Same H H' → H' l = some (.lst xs) → DeAll K H' xs odds → Q (.ref l) H'
/-! ### all cells -/
abbrev Cl := Bool × Bool × Int × Bool
def clV (c : Cl) : List V := [.bl c.1, .bl c.2.1, .int c.2.2.1, .bl c.2.2.2]
def clD (c : Cl) : PyData := .tuple [.bool c.1, .bool c.2.1, .int c.2.2.1, .bool c.2.2.2]
def OkCl (c : Cl) : Prop := 0 ≤ c.2.2.1 ∧ c.2.2.1 ≤ 2
def ev24 (at' : Nat) : Cl := (decide (12 ≤ at'), decide (at' / 6 % 2 = 1), ((at' / 2 % 3 : Nat) : Int), decide (at' % 2 = 1))
def spAll : Sp := fun vs H Q _ => vs = [] ∧ ∀ (H' : Hp) (l : Addr) (cs : List (Addr × Cl)), Same H H' → H' l = some (.lst (cs.map fun p => V.ref p.1)) → (∀ p ∈ cs, H' p.1 = some (.tup (clV p.2)) ∧ OkCl p.2) → cs.length ≤ 24 → Q (.ref l) H'
def spLets (P : Program) (w : World) : Sp := fun vs H Q _ => ∃ (q d t : Addr) (r g : Bool) (pr po : PK) (c : Cl), vs = [.ref q, .ref d, .ref t, .bl r, .bl g] ∧ ToldAt H q pr po ∧ PartsAt P w H d (kds po) ∧ H t = some (.tup (clV c)) ∧ OkCl c ∧ ∀ H', Same H H' → Q (.bl (letC (kds pr) (kds po) r g c.1 c.2.1 c.2.2.1 c.2.2.2)) H'
section
variable {P : Program} {w : World} {K : PySem.W.Frag} {mg : Str → Option Value} {base : Heap} {f : Addr} {fd : FuncData}
theorem ok_odd (F : Fun K "_law_odd_cells" "_law_odd_cells" (top 26) f fd) : FnOk P w K mg base CX0 1 f fd [] (spOdd K) := by
  have S0 : FnScope ["found"] [] (defScope (top 26)) := ⟨rfl, rfl, rfl, by decide +kernel, rfl, by decide +kernel, by decide +kernel⟩
  have nd := S0.nd
  refine F.ok S0 (fun vs H Q E h => ?_) (fun cdv A outer s H vs Q E hr h => ?_)
  · obtain ⟨rfl, _⟩ := h
    rfl
  · obtain ⟨rfl, kk⟩ := h
    refine ⟨_, pss_cons (ps_set (i := 0) nd rfl (Or.inl rfl) (pe_lst (pa_cons pe_non (pa_cons (pe_tup pa_nil) (pa_cons (pe_lst pa_nil) (pa_cons pe_int (pa_cons pe_str (pa_cons (pe_tup (pa_cons pe_bl (pa_cons pe_bl (pa_cons pe_int pa_nil)))) (pa_cons (pe_lst (pa_cons pe_bl (pa_cons pe_bl (pa_cons pe_int (pa_cons pe_bl pa_nil))))) (pa_cons (pe_tup (pa_cons pe_bl (pa_cons pe_bl (pa_cons pe_int (pa_cons pe_bl pa_nil))))) pa_nil))))))))))
      (pss_cons (ps_set (i := 0) nd rfl (Or.inl rfl) (pe_op op_cat (pv 0) (pe_lst (pa_cons (pe_tup (pa_cons pe_bl (pa_cons pe_bl (pa_cons (pe_un un_neg pe_int) (pa_cons pe_bl pa_nil))))) (pa_cons (pe_tup (pa_cons pe_bl (pa_cons pe_bl (pa_cons pe_bl (pa_cons pe_bl pa_nil))))) (pa_cons (pe_tup (pa_cons pe_int (pa_cons pe_bl (pa_cons pe_int (pa_cons pe_bl pa_nil))))) (pa_cons (pe_tup (pa_cons pe_bl (pa_cons pe_int (pa_cons pe_int (pa_cons pe_bl pa_nil))))) pa_nil)))))))
      (pss_cons (ps_set (i := 0) nd rfl (Or.inl rfl) (pe_op op_cat (pv 0) (pe_lst (pa_cons (pe_tup (pa_cons pe_bl (pa_cons pe_bl (pa_cons pe_int (pa_cons pe_int pa_nil))))) (pa_cons (pe_tup (pa_cons pe_bl (pa_cons pe_bl (pa_cons pe_str (pa_cons pe_bl pa_nil))))) (pa_cons (pe_tup (pa_cons pe_non (pa_cons pe_non (pa_cons pe_int (pa_cons pe_non pa_nil))))) pa_nil))))))
      (pss_one (ps_ret (pe_op op_cat (pv 0) (pe_lst (pa_cons (pe_tup (pa_cons pe_bl (pa_cons pe_bl (pa_cons pe_int (pa_cons pe_bl (pa_cons pe_bl pa_nil)))))) pa_nil))))))), ?_⟩
    refine Al.set (K := K) (H0 := H) (d := .list odd0) (al_lst (al_cons al_non (al_cons (al_tup al_nil (Nat.le_of_ble_eq_true rfl)) (al_cons (al_lst al_nil (Nat.le_of_ble_eq_true rfl)) (al_cons al_int (al_cons al_str (al_cons (al_tup (al_cons al_bl (al_cons al_bl (al_cons al_int al_nil))) (Nat.le_of_ble_eq_true rfl)) (al_cons (al_lst (al_cons al_bl (al_cons al_bl (al_cons al_int (al_cons al_bl al_nil)))) (Nat.le_of_ble_eq_true rfl)) (al_cons (al_tup (al_cons al_bl (al_cons al_bl (al_cons al_int (al_cons al_bl al_nil)))) (Nat.le_of_ble_eq_true rfl)) al_nil)))))))) (Nat.le_of_ble_eq_true rfl)) (Same.refl _) fun H1 v1 s1 hd1 => ?_
    refine Al.set (K := K) (H0 := H1) (d := .list (odd0 ++ odd1)) (al_cat (al_var (i := 0) rfl hd1) (al_lst (al_cons (al_tup (al_cons al_bl (al_cons al_bl (al_cons al_neg (al_cons al_bl al_nil)))) (Nat.le_of_ble_eq_true rfl)) (al_cons (al_tup (al_cons al_bl (al_cons al_bl (al_cons al_bl (al_cons al_bl al_nil)))) (Nat.le_of_ble_eq_true rfl)) (al_cons (al_tup (al_cons al_int (al_cons al_bl (al_cons al_int (al_cons al_bl al_nil)))) (Nat.le_of_ble_eq_true rfl)) (al_cons (al_tup (al_cons al_bl (al_cons al_int (al_cons al_int (al_cons al_bl al_nil)))) (Nat.le_of_ble_eq_true rfl)) al_nil)))) (Nat.le_of_ble_eq_true rfl)) (Nat.le_of_ble_eq_true rfl)) (Same.refl _) fun H2 v2 s2 hd2 => ?_
    refine Al.set (K := K) (H0 := H2) (d := .list ((odd0 ++ odd1) ++ odd2)) (al_cat (al_var (i := 0) rfl hd2) (al_lst (al_cons (al_tup (al_cons al_bl (al_cons al_bl (al_cons al_int (al_cons al_int al_nil)))) (Nat.le_of_ble_eq_true rfl)) (al_cons (al_tup (al_cons al_bl (al_cons al_bl (al_cons al_str (al_cons al_bl al_nil)))) (Nat.le_of_ble_eq_true rfl)) (al_cons (al_tup (al_cons al_non (al_cons al_non (al_cons al_int (al_cons al_non al_nil)))) (Nat.le_of_ble_eq_true rfl)) al_nil))) (Nat.le_of_ble_eq_true rfl)) (Nat.le_of_ble_eq_true rfl)) (Same.refl _) fun H3 v3 s3 hd3 => ?_
    refine Al.go (K := K) (H0 := H3) (d := .list odds) (al_cat (al_var (i := 0) rfl hd3) (al_lst (al_cons (al_tup (al_cons al_bl (al_cons al_bl (al_cons al_int (al_cons al_bl (al_cons al_bl al_nil))))) (Nat.le_of_ble_eq_true rfl)) al_nil) (Nat.le_of_ble_eq_true rfl)) (Nat.le_of_ble_eq_true rfl)) (Same.refl _) fun H4 v4 s4 hd4 => ?_
    cases hd4 with
    | @lst l xs _ hl hx => exact kk H4 l xs (((s1.trans s2).trans s3).trans s4) hl hx
theorem ok_all (F : Fun K "_law_all_cells" "_law_all_cells" (top 25) f fd) (gR : mg "range" = none) (gIn : mg "int" = none) : FnOk P w K mg base CX0 1 f fd [] spAll := by
  have S0 : FnScope ["at"] [] (defScope (top 25)) := ⟨rfl, rfl, rfl, by decide +kernel, rfl, by decide +kernel, by decide +kernel⟩
  have nd := S0.nd
  refine F.ok S0 (fun vs H Q E h => ?_) (fun cdv A outer s H vs Q E hr h => ?_)
  · obtain ⟨rfl, _⟩ := h
    rfl
  · obtain ⟨rfl, kk⟩ := h
    refine ⟨_, pss_one (ps_ret (pe_lc (own := [("at", 0)]) (g := gName 0) (tt := tYes) rfl nd (pi_range1 (by rfl) gR (pa_cons pe_int pa_nil)) (blkOk_by (N := ["at"]) (sc := defScope (top 25)) (by decide +kernel)) (fun _ _ _ _ _ => pg_name (i := 0) nd rfl (Or.inl rfl)) (fun _ _ _ _ _ => pts_nil)
        (fun _ _ _ _ _ => pe_tup (pa_cons (pe_cmpR op_ge (pv 0) pe_int (nomark _)) (pa_cons (pe_cmpR op_eq (pe_op op_mod (pe_op op_fdiv (pe_callTy call_int1 (by rfl) gIn PyProof.Rows.boot_int (pa_cons (pv 0) pa_nil)) pe_int) pe_int) pe_int (nomark _)) (pa_cons (pe_op op_mod (pe_op op_fdiv (pe_callTy call_int1 (by rfl) gIn PyProof.Rows.boot_int (pa_cons (pv 0) pa_nil)) pe_int) pe_int) (pa_cons (pe_cmpR op_eq (pe_op op_mod (pe_callTy call_int1 (by rfl) gIn PyProof.Rows.boot_int (pa_cons (pv 0) pa_nil)) pe_int) pe_int (nomark _)) pa_nil))))))), ?_⟩
    refine ⟨24, rfl, by decide, by decide, fun D nD => lc_it walk_range (fun i G => Same H G ∧ ∃ cs : List (Addr × Cl), G D = some (.lst (cs.map fun p => V.ref p.1)) ∧ (∀ p ∈ cs, G p.1 = some (.tup (clV p.2)) ∧ OkCl p.2) ∧ cs.length = i) ⟨upd_new nD, [], upd_same, fun p hp => absurd hp (by simp), rfl⟩ (fun _ _ _ _ => trivial) ?_ ?_⟩
    · rintro i y G G' hi ⟨sG, cs, hD, hK, hp⟩ ⟨rfl, rfl⟩
      have hi' : i < 24 := hi
      refine ⟨rfl, _, rfl, _, _, rfl, rfl, V.int (0 + (i : Int)), rfl, .inl ⟨_, rfl, _, 6, rfl, rfl, ⟨by decide, by decide⟩, _, 2, rfl, rfl, (by show (0 : Int) < 2; decide), rfl, V.int (0 + (i : Int)), rfl, .inl ⟨_, rfl, _, 2, rfl, rfl, ⟨by decide, by decide⟩, _, 3, rfl, rfl, (by show (0 : Int) < 3; decide), V.int (0 + (i : Int)), rfl, .inl ⟨_, rfl, _, 2, rfl, rfl, (by show (0 : Int) < 2; decide), rfl, (by show 4 ≤ sizeLine; decide), fun t nt => ?_⟩⟩⟩⟩
      have e : [V.bl (decide (12 ≤ 0 + (i : Int))), V.bl (decide (V.int ((0 + (i : Int)) / 6 % 2) = V.int 1)), V.int ((0 + (i : Int)) / 2 % 3), V.bl (decide (V.int ((0 + (i : Int)) % 2) = V.int 1))] = clV (ev24 i) := by
        have z : ∀ n : Nat, n < 24 → [V.bl (decide (12 ≤ 0 + (n : Int))), V.bl (decide (V.int ((0 + (n : Int)) / 6 % 2) = V.int 1)), V.int ((0 + (n : Int)) / 2 % 3), V.bl (decide (V.int ((0 + (n : Int)) % 2) = V.int 1))] = clV (ev24 n) := by decide +kernel
        exact z i hi'
      have o : OkCl (ev24 i) := by
        have z : ∀ n : Nat, n < 24 → 0 ≤ (ev24 n).2.2.1 ∧ (ev24 n).2.2.1 ≤ 2 := by decide +kernel
        exact z i hi'
      have nDt : D ≠ t := ne_of_none hD nt
      have sT := upd_new (o := .tup [V.bl (decide (12 ≤ 0 + (i : Int))), V.bl (decide (V.int ((0 + (i : Int)) / 6 % 2) = V.int 1)), V.int ((0 + (i : Int)) / 2 % 3), V.bl (decide (V.int ((0 + (i : Int)) % 2) = V.int 1))]) nt
      have hT : upd G' t (.tup [V.bl (decide (12 ≤ 0 + (i : Int))), V.bl (decide (V.int ((0 + (i : Int)) / 6 % 2) = V.int 1)), V.int ((0 + (i : Int)) / 2 % 3), V.bl (decide (V.int ((0 + (i : Int)) % 2) = V.int 1))]) t = some (.tup (clV (ev24 i))) := by rw [upd_same, e]
      generalize upd G' t (.tup [V.bl (decide (12 ≤ 0 + (i : Int))), V.bl (decide (V.int ((0 + (i : Int)) / 6 % 2) = V.int 1)), V.int ((0 + (i : Int)) / 2 % 3), V.bl (decide (V.int ((0 + (i : Int)) % 2) = V.int 1))]) = G2 at sT hT
      have hD2 := sT _ _ hD
      refine ⟨_, hD2, ?_, ?_, cs ++ [(t, ev24 i)], ?_, ?_, by rw [List.length_append, hp]; rfl⟩
      · rw [List.length_map, hp]
        exact Nat.lt_of_le_of_lt (show i ≤ 1000 by omega) (by decide)
      · intro b o e
        rw [upd_ne (ne_of_none e nD)]
        exact sT _ _ (sG _ _ e)
      · rw [upd_same, List.map_append]
        rfl
      · intro p hp
        rcases List.mem_append.mp hp with hp | hp
        · obtain ⟨h1, h2⟩ := hK p hp
          refine ⟨?_, h2⟩
          have h3 := sT _ _ h1
          rw [upd_ne (ne_of h3 hD2 (by intro z; cases z))]
          exact h3
        · obtain rfl : p = (t, ev24 i) := by simpa using hp
          refine ⟨?_, o⟩
          rw [upd_ne (ne_of hT hD2 (by intro z; cases z))]
          exact hT
    · rintro G ⟨sG, cs, hD, hK, hp⟩
      have hp : cs.length = 24 := hp
      exact kk G D cs sG hD hK (by omega)
theorem ok_lets (F : Fun K "_law_lets" "_law_lets" (top 24) f fd) (gM : mg "min" = none) (gIn : mg "int" = none) : FnOk P w K mg base CX0 1 f fd ["rule", "parts", "cell", "at_root", "goes_on"] (spLets P w) := by
  have S0 : FnScope ["rule", "parts", "cell", "at_root", "goes_on"] ["rule", "parts", "cell", "at_root", "goes_on"] (defScope (top 24)) := ⟨rfl, rfl, rfl, by decide +kernel, rfl, by decide +kernel, by decide +kernel⟩
  have nd := S0.nd
  refine F.ok S0 (fun vs H Q E h => ?_) (fun cdv A outer s H vs Q E hr h => ?_)
  · obtain ⟨q, d, t, r, g, pr, po, c, rfl, _⟩ := h
    rfl
  · obtain ⟨q, d, t, r, g, pr, po, ⟨m, fl, o, wo⟩, rfl, ⟨lr, lo, t1, t2, t3, t4, t5⟩, ⟨kvs, z1, z2⟩, ht, oc, kk⟩ := h
    have hu64 := hr.units
    have ht : H t = some (.tup [.bl m, .bl fl, .int o, .bl wo]) := ht
    have oc : 0 ≤ o ∧ o ≤ 2 := oc
    refine ⟨_, pss_cons (ps_if (pt_cmpR (r := rInD K true) (op_notInD hu64) (pe_tup (pa_cons (pe_ix (r := rIxT K) ix_tup (pv 2) pe_int (fun _ _ => rfl)) (pa_cons (pe_ix (r := rIxT K) ix_tup (pv 2) pe_int (fun _ _ => rfl)) (pa_cons (pe_callB (call_min2 rfl) (by rfl) gM PyProof.Rows.boot_min (pa_cons pe_int (pa_cons (pe_op op_add (pe_ix (r := rIxT K) ix_tup (pv 2) pe_int (fun _ _ => rfl)) (pe_callTy call_int1 (by rfl) gIn PyProof.Rows.boot_int (pa_cons (pv 4) pa_nil))) pa_nil))) pa_nil))))
        (pe_ix (r := rIxT K) ix_tup (pv 0) (pe_callTy call_int1 (by rfl) gIn PyProof.Rows.boot_int (pa_cons (pe_not (pv 3)) pa_nil)) (fun _ _ => rfl)) (by rfl)) (pss_one (ps_ret pe_bl)) pss_nil)
      (pss_one (ps_ret (pe_ifExp (pt_cmpR op_eq (pe_ix (r := rIxT K) ix_tup (pv 2) pe_int (fun _ _ => rfl)) pe_int (nomark _)) (pe_not (pe_ix (r := rIxT K) ix_tup (pv 2) pe_int (fun _ _ => rfl))) (pe_cmp (pc_lin (pe_ix (r := rIxT K) ix_tup (pv 2) pe_int (fun _ _ => rfl)) (pv 1)) rfl)))), ?_⟩
    refine ⟨.ref t, rfl, t, _, 0, .bl m, rfl, rfl, .inl (.inl ht), rfl, .ref t, rfl, t, _, 1, .bl fl, rfl, rfl, .inl (.inl ht), rfl, .ref t, rfl, t, _, 2, .int o, rfl, rfl, .inl (.inl ht), rfl, .bl g, rfl, .inr ⟨g, rfl, o, (if g = true then 1 else 0), rfl, rfl, 2, _, rfl, (by show 3 ≤ sizeLine; decide), fun u nu => ?_⟩⟩
    have en : (if o + (if g = true then 1 else 0) < 2 then o + (if g = true then 1 else 0) else 2) = nextC g o := by
      unfold nextC
      cases g with
      | true => rfl
      | false =>
        show (if o + 0 < 2 then o + 0 else 2) = o
        split <;> omega
    have sU := upd_new (o := .tup [V.bl m, V.bl fl, V.int (if o + (if g = true then 1 else 0) < 2 then o + (if g = true then 1 else 0) else 2)]) nu
    have hU : KAt (upd H u (.tup [V.bl m, V.bl fl, V.int (if o + (if g = true then 1 else 0) < 2 then o + (if g = true then 1 else 0) else 2)])) u (m, fl, nextC g o) := by
      unfold KAt
      rw [upd_same, en]
      rfl
    generalize upd H u (.tup [V.bl m, V.bl fl, V.int (if o + (if g = true then 1 else 0) < 2 then o + (if g = true then 1 else 0) else 2)]) = H1 at sU hU
    have hsel : H1 (if r = true then lr else lo) = some (.lst (rfs (if r = true then pr else po))) := by
      cases r
      · exact sU _ _ t3
      · exact sU _ _ t2
    have ksel : KsAt H1 (if r = true then pr else po) := by
      cases r
      · exact t5.same fun c xs e => sU _ _ e
      · exact t4.same fun c xs e => sU _ _ e
    have esel : kds (if r = true then pr else po) = (if r = true then kds pr else kds po) := by cases r <;> rfl
    refine ⟨.ref q, rfl, .bl r, rfl, r, rfl, .inr ⟨!r, rfl, q, _, (if (!r) = true then 1 else 0), .ref (if r = true then lr else lo), rfl, rfl, .inl (.inl (sU _ _ t1)), (by cases r <;> rfl), ?_⟩⟩
    refine ⟨_, _, (kds (if r = true then pr else po)).map kdD, kdD (m, fl, nextC g o), rfl, .inl (.inl (.inl hsel)), ksel.dp, hU.dp, (kd_lay _).1, kds_lay _, Nat.le_trans (kd_lay _).2 (by decide), _, rfl, ?_⟩
    dsimp only
    rw [kds_any, esel]
    have kk1 := kk H1 sU
    unfold letC at kk1
    by_cases cm : (m, fl, nextC g o) ∈ (if r = true then kds pr else kds po)
    · rw [decide_eq_true cm]
      rw [if_pos cm] at kk1
      refine iteF ⟨.ref t, rfl, t, _, 2, .int o, rfl, rfl, .inl (.inl (sU _ _ ht)), rfl, rfl, _, rfl, ?_⟩
      refine ite2 (fun c0 => ?_) (fun c0 => ?_)
      · have c0 : o = 0 := by
          have c0 := of_decide_eq_true c0
          injection c0
        rw [if_pos c0] at kk1
        exact ⟨.ref t, rfl, t, _, 3, .bl wo, rfl, rfl, .inl (.inl (sU _ _ ht)), rfl, _, rfl, kk1⟩
      · have c0 : ¬ o = 0 := fun z => c0 (decide_eq_true (by rw [z]))
        rw [if_neg c0] at kk1
        refine ⟨.ref t, rfl, t, _, 3, .bl wo, rfl, rfl, .inl (.inl (sU _ _ ht)), rfl, .ref d, rfl, d, _, rfl, ⟨kvs, lb wo, z1.same sU, .bl wo, rfl⟩, ?_⟩
        have e : (valV kvs (lb wo)).isSome = (leastP (kds po) wo).isSome := by rw [z2, Option.isSome_map]
        rw [← e] at kk1
        exact kk1
    · rw [decide_eq_false cm]
      rw [if_neg cm] at kk1
      exact iteT kk1
end
end SK
namespace SK
open PySem PySem.Spec PyProof.Rows L2 LamX NdefX
open K0 (De DeAll XCl spX withX)
/-! ### the law -/
theorem min_perm {a b : List Int} (h : a.Perm b) : a.min? = b.min? := by
  cases e : b.min? with
  | none =>
    rw [List.min?_eq_none_iff] at e ⊢
    subst e
    exact h.eq_nil
  | some m =>
    obtain ⟨m1, m2⟩ := List.min?_eq_some_iff.mp e
    exact List.min?_eq_some_iff.mpr ⟨h.mem_iff.mpr m1, fun x hx => m2 x (h.mem_iff.mp hx)⟩
theorem least_perm {O O' : List Kd} (h : O.Perm O') (b : Bool) : leastP O b = leastP O' b := by
  have h1 := child_perm h true
  have h2 := child_perm h false
  have eb : bareB O = bareB O' := decide_eq_decide.mpr h2.mem_iff
  unfold leastP
  rw [eb, min_perm h1]
  by_cases c : (0 : Int) ∈ childL O true
  · rw [if_pos c, if_pos (h1.mem_iff.mp c)]
  · rw [if_neg c, if_neg (fun z => c (h1.mem_iff.mpr z))]
theorem letC_perm {R R' O O' : List Kd} (h1 : R.Perm R') (h2 : O.Perm O') (r g m f : Bool) (o : Int) (w : Bool) : letC R O r g m f o w = letC R' O' r g m f o w := by
  unfold letC
  rw [least_perm h2]
  have e : (m, f, nextC g o) ∈ (if r = true then R else O) ↔ (m, f, nextC g o) ∈ (if r = true then R' else O') := by
    cases r
    · exact h2.mem_iff
    · exact h1.mem_iff
  by_cases c : (m, f, nextC g o) ∈ (if r = true then R else O)
  · rw [if_pos c, if_pos (e.mp c)]
  · rw [if_neg c, if_neg (fun z => c (e.mpr z))]
theorem kds_perm (ps : PK) : (kds (srtK ps)).Perm (kds ps) := (srtK_perm ps).map _
theorem letD_cl {R R' O O' : List Kd} (h1 : R.Perm R') (h2 : O.Perm O') (r g : Bool) {c : Cl} (oc : OkCl c) : letD R O r g (clD c) = letC R' O' r g c.1 c.2.1 c.2.2.1 c.2.2.2 := by
  show (okC (.int c.2.2.1) && letC R O r g c.1 c.2.1 c.2.2.1 c.2.2.2) = _
  have z : okC (.int c.2.2.1) = true := by
    show (decide (0 ≤ c.2.2.1) && decide (c.2.2.1 ≤ 2)) = true
    rw [decide_eq_true oc.1, decide_eq_true oc.2]
    rfl
  rw [z, Bool.true_and, letC_perm h1 h2]
def spLaw (K : PySem.W.Frag) (T : List (Addr × Str)) : Sp := fun vs H Q _ => ∃ (a : Addr) (ns : List Int), vs = [.ref a] ∧ SqL K H a (ns.map V.int) ∧ ns.length ≤ 63 ∧ Tabs T H ∧ ∀ H', Q (.bl true) H'
abbrev NW : List Str := ["script", "pen", "turn", "told", "rule", "parts", "words", "at_root", "goes_on", "cell", "due", "odd"]
theorem bl_show (b : Bool) : (PyData.bool b).showable = true ∧ (PyData.bool b).depth ≤ 8 ∧ (PyData.bool b).shown.length ≤ sizeLine := by
  cases b <;> exact ⟨rfl, by simp [PyData.depth], Nat.le_trans (show _ ≤ 10 by decide +kernel) (by decide)⟩
section
variable {P : Program} {w : World} {K : PySem.W.Frag} {mg : Str → Option Value} {base : Heap} {f fPen fRo fRm fPa fLp fAl fLs fIl fOd CT : Addr} {fd fdPen fdRo fdRm fdPa fdLp fdAl fdLs fdIl fdOd : FuncData} {T : List (Addr × Str)}
abbrev teOdd (K : PySem.W.Frag) (CT : Addr) : TE := tOp (fun x y H Q => ∃ a b, x = .bl a ∧ y = .bl b ∧ Q (.bl (!decide (a = b))) H) (tCall (spLet K CT) [] E0 (tCons (tVar 4) (tCons (tVar 11) (tCons (tVar 7) (tCons (tVar 8) tNil))))) (tC (.bl false))
theorem ok_law (F : Fun K "law" "law" (top 27) f fd) (gR : mg "range" = none) (gRep : mg "repr" = none) (gA : mg "any" = none) (hsys : ∃ o, K.lookup sysModules = some o)
    (gPen : mg "_law_pen_of" = some (.ref fPen)) (kPen : PySem.W.keepIn K (.ref fPen) = true) (GPen : FnOk P w K mg base CX0 1 fPen fdPen ["script"] (spPen K)) (bPen : Binds K fdPen ["script"] [])
    (gRo : mg "_law_rule_of" = some (.ref fRo)) (kRo : PySem.W.keepIn K (.ref fRo) = true) (GRo : FnOk P w K mg base CX0 3 fRo fdRo ["pen"] spRuleOf) (bRo : Binds K fdRo ["pen"] [])
    (gRm : mg "_law_rule_made" = some (.ref fRm)) (kRm : PySem.W.keepIn K (.ref fRm) = true) (GRm : FnOk P w K mg base CX0 5 fRm fdRm ["rule"] (spRMade CT)) (bRm : Binds K fdRm ["rule"] [])
    (gPa : mg "_law_parts" = some (.ref fPa)) (kPa : PySem.W.keepIn K (.ref fPa) = true) (GPa : FnOk P w K mg base CX0 1 fPa fdPa ["rule"] (spParts P w)) (bPa : Binds K fdPa ["rule"] [])
    (gLp : mg "least_part" = some (.ref fLp)) (kLp : PySem.W.keepIn K (.ref fLp) = true) (GLp : FnOk P w K mg base CX0 2 fLp fdLp ["rule", "words"] (spLeast CT)) (bLp : Binds K fdLp ["rule", "words"] [])
    (gAl : mg "_law_all_cells" = some (.ref fAl)) (kAl : PySem.W.keepIn K (.ref fAl) = true) (GAl : FnOk P w K mg base CX0 1 fAl fdAl [] spAll) (bAl : Binds K fdAl [] [])
    (gLs : mg "_law_lets" = some (.ref fLs)) (kLs : PySem.W.keepIn K (.ref fLs) = true) (GLs : FnOk P w K mg base CX0 1 fLs fdLs ["rule", "parts", "cell", "at_root", "goes_on"] (spLets P w)) (bLs : Binds K fdLs ["rule", "parts", "cell", "at_root", "goes_on"] [])
    (gIl : mg "is_let" = some (.ref fIl)) (kIl : PySem.W.keepIn K (.ref fIl) = true) (GIl : FnOk P w K mg base CX0 3 fIl fdIl ["rule", "cell", "root", "goes_on"] (spLet K CT)) (bIl : Binds K fdIl ["rule", "cell", "root", "goes_on"] [])
    (gOd : mg "_law_odd_cells" = some (.ref fOd)) (kOd : PySem.W.keepIn K (.ref fOd) = true) (GOd : FnOk P w K mg base CX0 1 fOd fdOd [] (spOdd K)) (bOd : Binds K fdOd [] []) :
    FnG P w K mg base CX0 6 f fd ["script"] (spLaw K T) := by
  have S0 : FnScope NW ["script"] (defScope (top 27)) := ⟨rfl, rfl, rfl, by decide +kernel, rfl, by decide +kernel, by decide +kernel⟩
  have nd := S0.nd
  refine FnG.ok F S0 (fun vs H Q E h => ?_) (fun cdv A outer s H vs Q E hg hr h => ?_)
  · obtain ⟨a, ns, rfl, _⟩ := h
    rfl
  · obtain ⟨a, ns, rfl, hS, hn, hT, kk⟩ := h
    have hu64 := hr.units
    have hr1 : Room 1 _ := hr.mono (by decide)
    have hr2 : Room 2 _ := hr.mono (by decide)
    have hr3 : Room 3 _ := hr.mono (by decide)
    refine ⟨_, pss_cons (ps_set (i := 1) nd rfl (Or.inl rfl) (pe_call GPen hr1 (by rfl) gPen kPen bPen .nil pass0 (pa_cons (pv 0) pa_nil)))
      (pss_cons (ps_for PassesOwn.never rfl (pi_range1 (by rfl) gR (pa_cons pe_int pa_nil)) (pg_name (i := 2) nd rfl (Or.inl rfl))
        (pss_cons (ps_set (i := 3) nd rfl (Or.inl rfl) (pe_call GRo hr3 (by rfl) gRo kRo bRo .nil pass0 (pa_cons (pv 1) pa_nil)))
        (pss_cons (ps_asg (pe_tup (pa_cons (pe_call GRm hr (by rfl) gRm kRm bRm .nil pass0 (pa_cons (pv 3) pa_nil)) (pa_cons (pe_call GPa hr1 (by rfl) gPa kPa bPa .nil pass0 (pa_cons (pv 3) pa_nil)) pa_nil))) (pg_tup (by rfl) (pgs_cons (pg_name (i := 4) nd rfl (Or.inr rfl)) (pgs_cons (pg_name (i := 5) nd rfl (Or.inl rfl)) pgs_nil))))
        (pss_cons (ps_for PassesOwn.never rfl (pi_list (pe_lst (pa_cons pe_bl (pa_cons pe_bl pa_nil)))) (pg_name (i := 6) nd rfl (Or.inl rfl))
          (pss_one (ps_if (pt_cmpR op_ne (pe_call GLp hr2 (by rfl) gLp kLp bLp .nil pass0 (pa_cons (pv 4) (pa_cons (pv 6) pa_nil))) (pe_lget1 (pv 5) (pv 6) ⟨rfl, rfl, rfl, rfl⟩) (nomark _)) (pss_one (ps_ret pe_bl)) pss_nil)))
        (pss_one (ps_for PassesOwn.never rfl (pi_list (pe_lst (pa_cons pe_bl (pa_cons pe_bl pa_nil)))) (pg_name (i := 7) nd rfl (Or.inr rfl))
          (pss_one (ps_for PassesOwn.never rfl (pi_list (pe_lst (pa_cons pe_bl (pa_cons pe_bl pa_nil)))) (pg_name (i := 8) nd rfl (Or.inr rfl))
            (pss_cons (ps_for PassesOwn.never rfl (pi_list (pe_call0 GAl hr1 (by rfl) gAl kAl bAl .nil pass0)) (pg_name (i := 9) nd rfl (Or.inl rfl))
              (pss_cons (ps_set (i := 10) nd rfl (Or.inl rfl) (pe_call GLs hr1 (by rfl) gLs kLs bLs .nil pass0 (pa_cons (pv 3) (pa_cons (pv 5) (pa_cons (pv 9) (pa_cons (pv 7) (pa_cons (pv 8) pa_nil)))))))
              (pss_one (ps_if (pt_cmpR op_ne (pe_callB (r := rRepD K) (call_repD hg hu64 hsys) (by rfl) gRep PyProof.Rows.boot_repr (pa_cons (pe_call GIl hr3 (by rfl) gIl kIl bIl .nil pass0 (pa_cons (pv 4) (pa_cons (pv 9) (pa_cons (pv 7) (pa_cons (pv 8) pa_nil))))) pa_nil)) (pe_callB (r := rRepD K) (call_repD hg hu64 hsys) (by rfl) gRep PyProof.Rows.boot_repr (pa_cons (pv 10) pa_nil)) (nomark _)) (pss_one (ps_ret pe_bl)) pss_nil))))
            (pss_one (ps_if (pt_val (pe_callB (r := rAny K) (cr_any rfl) (by rfl) gA (by decide +kernel) (pa_cons (pe_lc (own := [("odd", 11)]) (g := gName 11) (tt := tYes) (te := teOdd K CT) rfl nd (pi_list (pe_call0 GOd hr1 (by rfl) gOd kOd bOd .nil pass0)) (blkOk_by (N := NW) (sc := defScope (top 27)) (by decide +kernel)) (fun _ _ _ _ _ => pg_name (i := 11) nd rfl (Or.inl rfl)) (fun _ _ _ _ _ => pts_nil)
                (fun _ _ _ _ _ => pe_cmpR op_isnot_bl (pe_call GIl hr3 (by rfl) gIl kIl bIl .nil pass0 (pa_cons (pv 4) (pa_cons (pv 11) (pa_cons (pv 7) (pa_cons (pv 8) pa_nil))))) pe_bl (nomark _))) pa_nil))) (pss_one (ps_ret pe_bl)) pss_nil)))))))))))
      (pss_one (ps_ret pe_bl))), ?_⟩
    refine ⟨.ref a, rfl, a, ns, rfl, hS, hn, fun H1 p l s1 P1 => ?_⟩
    refine ⟨3, rfl, by decide, by decide, for_it walk_range (fun i σ G => ∃ (x2 x3 x4 x5 x6 x7 x8 x9 x10 : Option V) (k1 lf1 : Int), σ = [some (.ref a), some (.ref p), x2, x3, x4, x5, x6, x7, x8, x9, x10, none] ∧ k1 ≤ 30 * i ∧ 0 ≤ k1 ∧ 0 ≤ lf1 ∧ PenAt G p l ns k1 lf1)
      ⟨none, none, none, none, none, none, none, none, none, 0, 0, rfl, by omega, Int.le_refl _, Int.le_refl _, P1⟩ (fun _ _ _ _ _ => trivial) ?_ ?_⟩
    case refine_2 =>
      rintro σ G ⟨x2, x3, x4, x5, x6, x7, x8, x9, x10, k1, lf1, rfl, f1, f2, f3, PG⟩
      exact kk G
    rintro i x σ G0 G1 hi ⟨x2, x3, x4, x5, x6, x7, x8, x9, x10, k1, lf1, rfl, f1, f2, f3, PG⟩ ⟨rfl, rfl⟩
    have hi' : i < 3 := hi
    refine ⟨.ref p, rfl, p, l, ns, k1, lf1, rfl, PG, hn, f2, by omega, f3, fun G2 k2 lf2 q pr po g1 g2 g3 s2 P2 hq gr go => ?_⟩
    refine ⟨.ref q, rfl, q, pr, po, rfl, hq, gr, go, fun G3 x s3 hR => ?_⟩
    have hq3 := hq.same s3
    refine ⟨.ref q, rfl, q, pr, po, rfl, hq3, go, fun G4 d s4 hP => ⟨(by show 2 ≤ sizeLine; decide), fun t nt => ⟨t, _, rfl, .inl (.inl upd_same), rfl, _, _, rfl, _, _, rfl, rfl, ?_⟩⟩⟩
    have sT := upd_new (o := .tup [V.ref x, V.ref d]) nt
    have hq5 := (hq3.same s4).same sT
    have hR5 := (hR.same s4).same sT
    have hP5 := hP.same sT
    have P5 := ((P2.same s3).same s4).same sT
    generalize upd G4 t (.tup [V.ref x, V.ref d]) = G5 at sT hq5 hR5 hP5 P5
    refine ⟨(by show 2 ≤ sizeLine; decide), fun L1 n1 => ?_⟩
    have sL := upd_new (o := .lst [V.bl false, V.bl true]) n1
    have hL : upd G5 L1 (.lst [V.bl false, V.bl true]) L1 = some (.lst [V.bl false, V.bl true]) := upd_same
    have hq6 := hq5.same sL
    have hR6 := hR5.same sL
    have hP6 := hP5.same sL
    have P6 := P5.same sL
    generalize upd G5 L1 (.lst [V.bl false, V.bl true]) = G6 at sL hL hq6 hR6 hP6 P6
    have two : ∀ {b : Nat} {v : V}, [V.bl false, V.bl true][b]? = some v → ∃ z, v = .bl z := fun {b v} h => by
      have hb2 : b < 2 := (List.getElem?_eq_some_iff.mp h).1
      have : b = 0 ∨ b = 1 := by omega
      rcases this with rfl | rfl <;> exact ⟨_, (Option.some.inj h).symm⟩
    refine ⟨L1, rfl, ⟨_, .inl (.inl hL)⟩, for_it (walk_list (K := K) (a := L1) (xs := [V.bl false, V.bl true])) (fun j σ G => ∃ (x6 x7 x8 x9 x10 : Option V), σ = [some (.ref a), some (.ref p), some (.int (0 + (i : Int))), some (.ref q), some (.ref x), some (.ref d), x6, x7, x8, x9, x10, none] ∧ Same G6 G)
      ⟨x6, x7, x8, x9, x10, rfl, Same.refl _⟩ (fun j σ G _ z => by obtain ⟨_, _, _, _, _, _, s⟩ := z; exact .inl (.inl (s _ _ hL))) ?_ ?_⟩
    · rintro j v σ G7 G8 hj ⟨y6, y7, y8, y9, y10, rfl, s7⟩ ⟨rfl, hv⟩
      obtain ⟨b, rfl⟩ := two hv
      refine ⟨.ref x, rfl, .bl b, rfl, .ref x, b, _, _, rfl, hR6.same s7, fun G9 s9 => ?_⟩
      obtain ⟨kvs, z1, z2⟩ := (hP6.same s7).same s9
      have ev : (valV kvs (lb b)).getD .non = optV (leastP (kds (srtK po)) b) := by
        rw [z2, least_perm (kds_perm po)]
        cases leastP (kds po) b <;> rfl
      refine ⟨.ref d, rfl, d, rfl, ⟨kvs, z1⟩, .bl b, rfl, _, ⟨kvs, lb b, z1, .bl b, rfl⟩, ?_, _, rfl, ?_⟩
      · rw [ev]
        cases leastP (kds (srtK po)) b <;> rfl
      refine neT ev.symm ?_
      exact ⟨_, _, _, _, _, rfl, s7.trans s9⟩
    rintro σ G7 ⟨y6, y7, y8, y9, y10, rfl, s7⟩
    refine ⟨(by show 2 ≤ sizeLine; decide), fun L2 n2 => ?_⟩
    have sL2 := upd_new (o := .lst [V.bl false, V.bl true]) n2
    have hL2 : upd G7 L2 (.lst [V.bl false, V.bl true]) L2 = some (.lst [V.bl false, V.bl true]) := upd_same
    have s68 := s7.trans sL2
    generalize upd G7 L2 (.lst [V.bl false, V.bl true]) = G8 at sL2 hL2 s68
    refine ⟨L2, rfl, ⟨_, .inl (.inl hL2)⟩, for_it (walk_list (K := K) (a := L2) (xs := [V.bl false, V.bl true])) (fun j σ G => ∃ (x6 x7 x8 x9 x10 : Option V), σ = [some (.ref a), some (.ref p), some (.int (0 + (i : Int))), some (.ref q), some (.ref x), some (.ref d), x6, x7, x8, x9, x10, none] ∧ Same G8 G)
      ⟨y6, y7, y8, y9, y10, rfl, Same.refl _⟩ (fun j σ G _ z => by obtain ⟨_, _, _, _, _, _, s⟩ := z; exact .inl (.inl (s _ _ hL2))) ?_ ?_⟩
    · rintro j v σ G9 G10 hj ⟨w6, w7, w8, w9, w10, rfl, s9⟩ ⟨rfl, hv⟩
      obtain ⟨r, rfl⟩ := two hv
      refine ⟨(by show 2 ≤ sizeLine; decide), fun L3 n3 => ?_⟩
      have sL3 := upd_new (o := .lst [V.bl false, V.bl true]) n3
      have hL3 : upd G10 L3 (.lst [V.bl false, V.bl true]) L3 = some (.lst [V.bl false, V.bl true]) := upd_same
      have s810 := s9.trans sL3
      generalize upd G10 L3 (.lst [V.bl false, V.bl true]) = G11 at sL3 hL3 s810
      have s611 := s68.trans s810
      refine ⟨L3, rfl, ⟨_, .inl (.inl hL3)⟩, for_it (walk_list (K := K) (a := L3) (xs := [V.bl false, V.bl true])) (fun j σ G => ∃ (x6 x8 x9 x10 : Option V), σ = [some (.ref a), some (.ref p), some (.int (0 + (i : Int))), some (.ref q), some (.ref x), some (.ref d), x6, some (.bl r), x8, x9, x10, none] ∧ Same G11 G)
        ⟨w6, w8, w9, w10, rfl, Same.refl _⟩ (fun j σ G _ z => by obtain ⟨_, _, _, _, _, s⟩ := z; exact .inl (.inl (s _ _ hL3))) ?_ ?_⟩
      · rintro j2 v2 σ G12 G13 hj2 ⟨u6, u8, u9, u10, rfl, s12⟩ ⟨rfl, hv2⟩
        obtain ⟨g, rfl⟩ := two hv2
        refine ⟨rfl, fun G14 lc cs s14 hlc hcs hcl => ?_⟩
        have s614 := (s611.trans s12).trans s14
        have mapc : ∀ {b : Nat} {v : V}, (cs.map fun p => V.ref p.1)[b]? = some v → ∃ c, cs[b]? = some c ∧ v = .ref c.1 := fun {b v} h => map_at h
        refine ⟨lc, rfl, ⟨_, .inl (.inl hlc)⟩, for_it (walk_list (K := K) (a := lc) (xs := cs.map fun p => V.ref p.1)) (fun j σ G => ∃ (x6 x9 x10 : Option V), σ = [some (.ref a), some (.ref p), some (.int (0 + (i : Int))), some (.ref q), some (.ref x), some (.ref d), x6, some (.bl r), some (.bl g), x9, x10, none] ∧ Same G14 G)
          ⟨u6, u9, u10, rfl, Same.refl _⟩ (fun j σ G _ z => by obtain ⟨_, _, _, _, s⟩ := z; exact .inl (.inl (s _ _ hlc))) ?_ ?_⟩
        · rintro j3 v3 σ G15 G16 hj3 ⟨o6, o9, o10, rfl, s15⟩ ⟨rfl, hv3⟩
          obtain ⟨c, hc, rfl⟩ := mapc hv3
          obtain ⟨hct, oc⟩ := hcs c (List.mem_of_getElem? hc)
          have s616 := s614.trans s15
          have hct16 := s15 _ _ hct
          refine ⟨.ref q, rfl, .ref d, rfl, .ref c.1, rfl, .bl r, rfl, .bl g, rfl, q, d, c.1, r, g, pr, po, c.2, rfl, hq6.same s616, hP6.same s616, hct16, oc, fun G17 s17 => ?_⟩
          have s617 := s616.trans s17
          have hct17 := s17 _ _ hct16
          have hde : De K G17 (.ref c.1) (clD c.2) := .tup hct17 (.cons (.bl _) (.cons (.bl _) (.cons (.int _) (.cons (.bl _) .nil))))
          refine ⟨.ref x, rfl, .ref c.1, rfl, .bl r, rfl, .bl g, rfl, .ref x, .ref c.1, r, g, clD c.2, _, _, rfl, hR6.same s617, hde, fun G18 s18 => ?_⟩
          have el := letD_cl (kds_perm pr) (kds_perm po) r g oc
          rw [el]
          obtain ⟨b1, b2, b3⟩ := bl_show (letC (kds pr) (kds po) r g c.2.1 c.2.2.1 c.2.2.2.1 c.2.2.2.2)
          refine ⟨_, .bool _, rfl, .bl _, b1, b2, b3, .bl _, rfl, _, .bool _, rfl, .bl _, b1, b2, b3, rfl, _, rfl, ?_⟩
          refine neT rfl ?_
          exact ⟨_, _, _, rfl, (s15.trans s17).trans s18⟩
        · rintro σ G15 ⟨o6, o9, o10, rfl, s15⟩
          have s615 := s614.trans s15
          refine ⟨rfl, fun G16 lo xs s16 hlo hde => ?_⟩
          have s616 := s615.trans s16
          have ol : xs.length = odds.length := deAll_len hde
          have item : ∀ {b : Nat} {v : V}, xs[b]? = some v → ∃ dd, dd ∈ odds ∧ De K G16 v dd := fun {b v} h => by
            have go : ∀ {xs : List V} {ds : List PyData} {b : Nat} {v : V}, DeAll K G16 xs ds → xs[b]? = some v → ∃ dd, dd ∈ ds ∧ De K G16 v dd := fun {xs ds b v} hh => by
              induction xs generalizing ds b with
              | nil => intro h; simp at h
              | cons y ys ih =>
                intro h
                cases hh with
                | cons h1 h2 =>
                  cases b with
                  | zero =>
                    have e : y = v := by simpa using h
                    subst e
                    exact ⟨_, by simp, h1⟩
                  | succ b =>
                    obtain ⟨dd, m1, m2⟩ := ih h2 (by simpa using h)
                    exact ⟨dd, List.mem_cons_of_mem _ m1, m2⟩
            exact go hde h
          refine ⟨lo, rfl, ⟨_, .inl (.inl hlo)⟩, fun D nD => lc_list (K := K) (a := lo) (xs := xs) (fun b G => Same G16 G ∧ G D = some (.lst (List.replicate b (V.bl false)))) ⟨upd_new nD, upd_same⟩ (fun b G _ z => .inl (.inl (z.1 _ _ hlo))) ?_ ?_⟩
          · rintro b v G hv3 ⟨sG, hD⟩
            obtain ⟨dd, hm, hdd⟩ := item hv3
            refine ⟨rfl, .ref x, rfl, v, rfl, .bl r, rfl, .bl g, rfl, .ref x, v, r, g, dd, _, _, rfl, hR6.same (s616.trans sG), de_mono sG _ _ hdd, fun G17 s17 => ?_⟩
            rw [letD_no (odds_no dd hm)]
            refine ⟨false, false, rfl, rfl, _, s17 _ _ hD, ?_, ?_, ?_⟩
            · rw [List.length_replicate]
              have z := (List.getElem?_eq_some_iff.mp hv3).1
              rw [ol] at z
              have z2 : odds.length = 16 := rfl
              exact Nat.lt_of_le_of_lt (show b ≤ 1000 by omega) (by decide)
            · intro c o e
              rw [upd_ne (ne_of_none e nD)]
              exact s17 _ _ (sG _ _ e)
            · rw [upd_same, List.replicate_succ']
              rfl
          · rintro G ⟨sG, hD⟩
            refine ⟨D, List.replicate xs.length false, rfl, .inl (.inl (by rw [List.map_replicate]; exact hD)), _, rfl, ?_⟩
            have e : (List.replicate xs.length false).any id = false := by
              rw [List.any_replicate]
              split <;> rfl
            rw [e]
            refine iteF ⟨_, _, _, _, rfl, ?_⟩
            exact (((s12.trans s14).trans s15).trans s16).trans sG
      · rintro σ G12 ⟨u6, u8, u9, u10, rfl, s12⟩
        exact ⟨_, _, _, _, _, rfl, s810.trans s12⟩
    · rintro σ G9 ⟨w6, w7, w8, w9, w10, rfl, s9⟩
      exact ⟨_, _, _, _, _, _, _, _, _, k2, lf2, rfl, by omega, g2, g3, P6.same (s68.trans s9)⟩
end
end SK
namespace SK
open PySem PySem.Spec PyProof.Rows L2 LamX NdefX
/-! ### the law's call, some tables of code objects beside the script -/
abbrev EndOk (h : Heap) (os : OsState) (r : Result) (s' : Shared) : Prop := r = .ok (.ret (.bool true)) ∧ PySem.OldK h s'.heap ∧ s'.os = os ∧ AllBare s'.gens
def tabObj : Obj := { cls := .none, data := .fields #[] }
section
variable {P : Program} {w : World} {K : PySem.W.Frag} {mg mb : Str → Option Value} {fa a : Addr} {s : Shared} {H : Hp} {vs : List Value} {ns : List Int} {lv : Nat} {sp : Sp} {ps : List (Addr × Addr)} {T : List (Addr × Str)}
theorem run_lawA (D : ∀ base : Heap, K.In base → base.Ns mainGlobals mg → (∀ p ∈ ps, TabB base mg p.1 p.2) → ∃ fd, Binds K fd ["script"] [] ∧ FnG P w K mg base CX0 lv fa fd ["script"] sp) (room : Room lv PySem.callerA)
    (hsp : ∀ (H : Hp) (a : Addr) (ns : List Int), SqL K H a (ns.map V.int) → ns.length ≤ 63 → Tabs T H → sp [.ref a] H (fun v _ => v = .bl true) E0)
    (hT : ∀ p ∈ T, p.1 ∈ ps.map (·.2)) (KX : K.In s.heap) (hm : s.heap.Ns mainGlobals mg) (hb : s.heap.Ns builtinsNs mb) (hbb : ∀ x : Str, x ≠ "__name__" → mb x = bootBuiltins x)
    (hlim : s.heap.NoLimit) (hgens : s.gens = #[]) (hPt : ∀ P ∈ ps.map (·.2), s.heap.get? P = some tabObj) (nPt : ∀ P ∈ ps.map (·.2), K.lookup P = none) (hC : ∀ p ∈ ps, PySem.W.CodeHd s.heap p.1 p.2)
    (hbm : ∃ (bm : Addr) (ob : Obj), mg "__builtins__" = some (.ref bm) ∧ bm ≠ builtinsNs ∧ s.heap.get? bm = some ob ∧ ob.cls = .type "module" ∧ ob.dict = some builtinsNs ∧ ob.data = .plain)
    (ha : s.heap.get? a = some { cls := .type "list", data := .seq vs.toArray }) (hn : ns.length ≤ 63) (hS : SqL K H a (ns.map V.int)) (ok : HOk P w H s.heap) (hHP : ∀ P ∈ ps.map (·.2), H P = some (.tbl #[]))
    (hO : ∀ b, H b = none ∨ b ∈ ps.map (·.2) ∨ (b = a ∧ ∃ o xs, H b = some (.frz o (.lst xs)))) (hK : H a ≠ none → K.lookup a = none) :
    codeAny (model P w) PySem.callerA (.call (.ref fa) ⟨[.ref a], []⟩) (EndOk s.heap s.os) s := by
  have free : ∀ {b : Addr} {o : Obj}, s.heap.get? b = some o → (∀ vs n, o.data ≠ .seq vs n) → o.data ≠ .fields #[] → H b = none := fun {b o} e h1 h2 => by
    rcases hO b with z | z | ⟨rfl, _⟩
    · exact z
    · rw [hPt b z] at e
      have e' := Option.some.inj e
      subst e'
      exact absurd rfl h2
    · rw [ha] at e
      have e' := Option.some.inj e
      subst e'
      exact absurd rfl (h1 _ _)
  have dicts : ∀ {b : Addr} {m : Str → Option Value}, s.heap.Ns b m → (hidT s.heap H).Ns b m := fun {b m} ⟨o, es, ep, e, d, r⟩ =>
    ⟨o, es, ep, hidT_get e (free e (fun vs n z => by rw [d] at z; cases z) fun z => by rw [d] at z; cases z), d, r⟩
  have Kb : K.In (hidT s.heap H) := fun b o e => by
    refine hidT_get (KX b o e) ?_
    rcases hO b with z | z | ⟨rfl, o', xs, z⟩
    · exact z
    · rw [nPt b z] at e
      cases e
    · rw [hK (by rw [z]; exact fun z => nomatch z)] at e
      cases e
  have M : Mod K mg (hidT s.heap H) := ⟨Kb, dicts hm, ⟨mb, dicts hb, hbb⟩, by
    obtain ⟨mc, h1, h2⟩ := hlim
    exact ⟨mc, dicts h1, h2⟩⟩
  have noG : ∀ P ∈ ps.map (·.2), mainGlobals ≠ P := fun P hP z => by
    obtain ⟨o, es, ep, e, d, _⟩ := hm
    rw [z, hPt P hP] at e
    have e' := Option.some.inj e
    subst e'
    cases d
  have TB : ∀ p ∈ ps, TabB (hidT s.heap H) mg p.1 p.2 := fun p hp => by
    have hp2 : p.2 ∈ ps.map (·.2) := List.mem_map.mpr ⟨p, hp, rfl⟩
    refine ⟨?_, ?_, noG _ hp2⟩
    · obtain ⟨o, us, file, tf, flags, tg, inF, text, tt, e1, r1, r2, r3, rest⟩ := hC p hp
      refine ⟨o, us, file, tf, flags, tg, inF, text, tt, hidT_get e1 (free e1 (fun vs n z => ?_) fun z => ?_), r1, r2, r3, rest⟩
      · rw [r2] at z
        cases z
      · rw [r2] at z
        injection z with z
        subst z
        simp at r3
    · obtain ⟨bm, ob, b1, b2, b3, b4, b5, b6⟩ := hbm
      refine ⟨bm, ob, b1, b2, fun z => ?_, fun z => ?_, hidT_get b3 (free b3 (fun vs n z => by rw [b6] at z; cases z) fun z => by rw [b6] at z; cases z), b4, b5, b6⟩
      · obtain ⟨o, es, ep, e, d, _⟩ := hm
        rw [z, e] at b3
        have e' := Option.some.inj b3
        subst e'
        rw [d] at b6
        cases b6
      · rw [z, hPt _ hp2] at b3
        have e' := Option.some.inj b3
        subst e'
        cases b6
  have e0 : Env0 P w K mg (hidT s.heap H) PySem.callerA [] s H := ⟨rfl, M, fun b o e => of_hidT e, Nat.le_of_eq (hidT_size _ _), trivial, fun b z => (by cases z), ok, AllBare.of_eq hgens⟩
  have tabs : Tabs T H := fun p hp => TabS.nil (hHP _ (hT p hp))
  obtain ⟨fd, b, G⟩ := D _ Kb (dicts hm) TB
  have back : ∀ b o, (hidT s.heap H).get? b = some o → s.heap.get? b = some o := fun b o e => (e0.bs b o e).1
  have bb := b s [Value.ref a] (e0.mod.kin.keeps back) (by rfl)
  refine codeAny_mono (G.run PySem.callerA [] s H ⟨[.ref a], []⟩ [.ref a] [V.ref a] _ E0 rfl room e0 bb (.cons rfl .nil) (hsp H a ns hS hn tabs)) fun r s' h => ?_
  cases r with
  | error e => exact h.elim
  | ok fl =>
    cases fl with
    | next => exact False.elim h
    | brk => exact False.elim h
    | cont => exact False.elim h
    | ret u =>
      obtain ⟨v, H', os, bare, un, ok', rv, qv⟩ := h
      have qv : v = .bl true := qv
      subst qv
      obtain rfl : u = Value.bool true := rv
      have grown : ∀ P ∈ ps.map (·.2), ∃ more : Array Value, s'.heap.get? P = some { cls := .none, data := .fields more } := fun P hP => by
        obtain ⟨more, z⟩ := un.tbls P #[] (hHP P hP)
        exact ⟨_, ok' P _ z⟩
      have same : ∀ b o, b ∉ ps.map (·.2) → s.heap.get? b = some o → s'.heap.get? b = some o := fun b o nb e => by
        rcases hO b with z | z | ⟨_, ob, xs, z⟩
        · exact un.keep b o e z (fun z => (by cases z)) (fun z => (by cases z))
        · exact absurd z nb
        · obtain ⟨f1, _⟩ := ok b _ z
          obtain ⟨f2, _⟩ := ok' b _ (un.frzs b ob _ z)
          rw [e] at f1
          cases f1
          exact f2
      refine ⟨rfl, ⟨fun b o e => ?_, fun b o e => ?_⟩, os, bare⟩
      · by_cases hbP : b ∈ ps.map (·.2)
        · obtain ⟨p, hp, rfl⟩ := List.mem_map.mp hbP
          rw [hPt _ hbP] at e
          have e' := Option.some.inj e
          subst e'
          obtain ⟨more, hmore⟩ := grown _ hbP
          exact .inr (.inl ⟨((hC p hp).tab (hPt _ hbP)).isCodeTable, rfl, #[], more, rfl, by rw [Array.empty_append]; exact hmore⟩)
        · exact .inl (same b o hbP e)
      · by_cases hbP : b ∈ ps.map (·.2)
        · obtain ⟨more, hmore⟩ := grown _ hbP
          exact ⟨_, hmore⟩
        · exact ⟨o, same b o hbP e⟩
theorem run_lawG (D : ∀ base : Heap, K.In base → base.Ns mainGlobals mg → (∀ p ∈ ps, TabB base mg p.1 p.2) → ∃ fd, Binds K fd ["script"] [] ∧ FnG P w K mg base CX0 lv fa fd ["script"] sp) (room : Room lv PySem.callerA)
    (hsp : ∀ (H : Hp) (a : Addr) (ns : List Int), SqL K H a (ns.map V.int) → ns.length ≤ 63 → Tabs T H → sp [.ref a] H (fun v _ => v = .bl true) E0)
    (hT : ∀ p ∈ T, p.1 ∈ ps.map (·.2)) (KX : K.In s.heap) (hm : s.heap.Ns mainGlobals mg) (hb : s.heap.Ns builtinsNs mb) (hbb : ∀ x : Str, x ≠ "__name__" → mb x = bootBuiltins x)
    (hlim : s.heap.NoLimit) (hgens : s.gens = #[]) (hPt : ∀ P ∈ ps.map (·.2), s.heap.get? P = some tabObj) (nPt : ∀ P ∈ ps.map (·.2), K.lookup P = none) (hC : ∀ p ∈ ps, PySem.W.CodeHd s.heap p.1 p.2)
    (hbm : ∃ (bm : Addr) (ob : Obj), mg "__builtins__" = some (.ref bm) ∧ bm ≠ builtinsNs ∧ s.heap.get? bm = some ob ∧ ob.cls = .type "module" ∧ ob.dict = some builtinsNs ∧ ob.data = .plain)
    (ha : s.heap.get? a = some { cls := .type "list", data := .seq vs.toArray }) (hi : IntsAre vs ns) (hn : ns.length ≤ 63) :
    codeAny (model P w) PySem.callerA (.call (.ref fa) ⟨[.ref a], []⟩) (EndOk s.heap s.os) s := by
  have rv := vals_ints hi
  have lv := hi.length
  have z63 : (63 : Nat) ≤ sizeLine := by decide
  have hz : ns.length ≤ sizeLine := Nat.le_trans hn z63
  have nap : a ∉ ps.map (·.2) := fun z => by
    have e := hPt a z
    rw [ha] at e
    have e := congrArg Obj.data (Option.some.inj e)
    cases e
  let lo : HO := .frz { cls := .type "list", data := .seq vs.toArray } (.lst (ns.map V.int))
  by_cases hk : K.lookup a = none
  · let H0 : Hp := fun b => if b = a then some lo else if b ∈ ps.map (·.2) then some (.tbl #[]) else none
    have ea : H0 a = some lo := if_pos rfl
    have eP : ∀ P ∈ ps.map (·.2), H0 P = some (.tbl #[]) := fun P hP => (if_neg (show ¬ P = a from fun z => nap (by rw [← z]; exact hP))).trans (if_pos hP)
    have en : ∀ b, b ≠ a → b ∉ ps.map (·.2) → H0 b = none := fun b n m => (if_neg n).trans (if_neg m)
    refine run_lawA (H := H0) D room hsp hT KX hm hb hbb hlim hgens hPt nPt hC hbm ha hn (.inl (.inr ⟨_, ea⟩)) (fun b u z => ?_) eP (fun b => ?_) fun _ => hk
    · by_cases h : b = a
      · subst h
        rw [ea] at z
        cases z
        exact ⟨ha, by rw [List.length_map]; exact hz, vs, _, rv, ha⟩
      · by_cases m : b ∈ ps.map (·.2)
        · rw [eP b m] at z
          cases z
          exact hPt b m
        · rw [en b h m] at z
          cases z
    · by_cases h : b = a
      · subst h
        exact .inr (.inr ⟨rfl, _, _, ea⟩)
      · by_cases m : b ∈ ps.map (·.2)
        · exact .inr (.inl m)
        · exact .inl (en b h m)
  · obtain ⟨o, ho⟩ := Option.ne_none_iff_exists'.mp hk
    have e := KX a o ho
    rw [ha] at e
    cases e
    let H1 : Hp := fun b => if b ∈ ps.map (·.2) then some (.tbl #[]) else none
    have eP : ∀ P ∈ ps.map (·.2), H1 P = some (.tbl #[]) := fun P hP => if_pos hP
    have en : ∀ b, b ∉ ps.map (·.2) → H1 b = none := fun b m => if_neg m
    refine run_lawA (H := H1) D room hsp hT KX hm hb hbb hlim hgens hPt nPt hC hbm ha hn (.inr ⟨_, vs.toArray, _, ho, rfl, rfl, rfl, by rw [List.size_toArray, lv]; exact hz, by simpa using rv⟩) (fun b u z => ?_) eP (fun b => ?_) fun z => absurd (en a nap) z
    · by_cases m : b ∈ ps.map (·.2)
      · rw [eP b m] at z
        cases z
        exact hPt b m
      · rw [en b m] at z
        cases z
    · by_cases m : b ∈ ps.map (·.2)
      · exact .inr (.inl m)
      · exact .inl (en b m)
end
end SK
namespace SK
open PySem PySem.Spec PyProof.Rows L2 LamX NdefX
open K0 (De DeAll XCl spX withX)
def exs29 (K : PySem.W.Frag) : List Bool := [(K.lookup sysModules).isSome]
def ex29 (K : PySem.W.Frag) : Bool := (exs29 K).all id
def fa29 : List He.Fa := [.glo "is_count", .glo "children_let", .glo "least_part", .glo "is_cell", .glo "is_let", .glo "is_kind", .glo "checked_kinds", .glo "_law_pen_of", .glo "_law_draw", .glo "_law_known", .glo "_law_kinds_some", .glo "_law_rule_of", .glo "_law_rule_made", .glo "_law_parts", .glo "_law_lets", .glo "_law_all_cells", .glo "_law_odd_cells", .glo "law", .glo "Rule", .free "isinstance", .free "len", .free "all", .free "tuple", .free "list", .free "bool", .free "enumerate", .free "sorted", .free "repr", .free "int", .free "abs", .free "range", .free "min", .free "any", .free "sum", .cls "Rule", .noat "Rule" "root", .noat "Rule" "others", .mkr "Rule"]
def dDef (x : Str) (st : Stmt) : He.DefD := ⟨(x, none), x, x, defArgs st, defBody st, defScope st, [], []⟩
def dMet (x m q : Str) (st : Stmt) : He.DefD := ⟨(x, some m), m, q, defArgs st, defBody st, defScope st, [], []⟩
def fn29 : List He.DefD := [dDef "is_count" (top 5), dDef "children_let" (top 7), dDef "least_part" (top 8), dDef "is_cell" (top 9), dDef "is_let" (top 10), dDef "is_kind" (top 13), dDef "checked_kinds" (top 14), dDef "_law_pen_of" (top 17), dDef "_law_draw" (top 18), dDef "_law_known" (top 19), dDef "_law_kinds_some" (top 20), dDef "_law_rule_of" (top 21), dDef "_law_rule_made" (top 22), dDef "_law_parts" (top 23), dDef "_law_lets" (top 24), dDef "_law_all_cells" (top 25), dDef "_law_odd_cells" (top 26), dDef "law" (top 27), dMet "Rule" "__init__" "Rule.__init__" (inClass (top 15) 0)]
def tf29 : List He.Defn := []
/-! ### the Hook -/
def KF (g : Addr → Option Obj) : PySem.W.Frag := He.frT g (sysModules :: He.asD g 5)
def obsK (g : Addr → Option Obj) : He.AlX := (He.obsT fa29 fn29 [] (KF g), ex29 (KF g) && He.tabsB g tf29 (KF g))
abbrev SaysK (w : World) (h : Heap) (K : PySem.W.Frag) : Prop := He.SaysX fa29 fn29 [] tf29 ex29 w h K
theorem saysK {w : World} {h : Heap} (e : obsK h.get? = He.valX fn29 [] w) : SaysK w h (KF h.get?) := by
  obtain ⟨m1, m2⟩ := He.ba (show (ex29 (KF h.get?) && He.tabsB h.get? tf29 (KF h.get?)) = true from congrArg Prod.snd e)
  have at_ : ∀ p ∈ tf29, PySem.W.codeHdIn (KF h.get?) (He.cT (KF h.get?) p).1 (He.cT (KF h.get?) p).2 = true ∧ ∃ o, h.get? (He.cT (KF h.get?) p).2 = some o ∧ He.emptyTab o = true := fun p hp => by
    obtain ⟨a1, a2⟩ := He.ba (List.all_eq_true.mp m2 p hp)
    refine ⟨a1, ?_⟩
    cases z : h.get? (He.cT (KF h.get?) p).2 with
    | none => rw [z] at a2; cases a2
    | some o => rw [z] at a2; exact ⟨o, rfl, a2⟩
  refine ⟨congrArg Prod.fst e, m1, fun p hp => (at_ p hp).1, fun p hp => ?_, fun p hp => ?_⟩
  · obtain ⟨_, o, z, y⟩ := at_ p hp
    exact He.frT_none z y
  · obtain ⟨_, o, z, y⟩ := at_ p hp
    rw [z, He.emptyTab_eq y]
def hkK : PySem.W.Hook where
  α := He.AlX
  obs := fun s => obsK s.heap.get?
  val := fun w => He.valX fn29 [] w
  says := fun w h => ∃ K : PySem.W.Frag, K.In h ∧ SaysK w h K
  of := fun _ _ e => ⟨_, He.frT_in, saysK e⟩
  keeps := fun _ _ _ ⟨K, hK, c⟩ k => ⟨K, PySem.W.Frag.In.keeps hK k, ⟨c.t, c.more, c.hd, c.out, fun p hp => k _ _ (c.empty p hp)⟩⟩
def obK (s : PySem.W.SharedT) : He.AlX := obsK (HandSHeadRun.getT s)
theorem obK_eq (s : PySem.W.SharedT) : obK s = hkK.obs s.abs := by
  have e : HandSHeadRun.getT s = s.abs.heap.get? := funext (HandSHeadRun.getT_eq s)
  show obsK _ = obsK _
  rw [e]
section
variable {P : Program} {w : World} {K : PySem.W.Frag} {mg : Str → Option Value} {base h : Heap}
theorem SaysK.fun_ (c : SaysK w h K) {d : He.DefD} {st : Stmt} (hm : d ∈ fn29) (hp : d.params = defArgs st) (hb : d.body = defBody st) (hs : d.scope = defScope st) (hd : d.dfl = []) : ∃ fd, Fun K d.name d.qual st (He.fAd K d.at_) fd := by
  obtain ⟨fd, F⟩ := c.t.d.defs hm
  obtain ⟨oc, od, dV, kV, doc, pm, an, cdv, ct, osl, e, lk, hcd, hD, _⟩ := F.ex
  have hdv : d.dvs K = [] := by
    unfold He.DefD.dvs
    rw [hd]
    rfl
  have e3 : dV = .none := by
    rcases hD with ⟨_, z⟩ | ⟨z, _⟩
    · exact z
    · exact absurd hdv z
  subst e3
  refine ⟨fd, ⟨oc, od, kV, doc, pm, an, cdv, ct, osl, ?_, lk, hcd⟩, F.kp⟩
  rw [e, hp, hb, hs]
theorem SaysK.is (c : SaysK w h K) {b : Bool} (i : Nat) (e : (exs29 K)[i]? = some b) : b = true := by
  have m : (exs29 K).all id = true := c.more
  exact List.all_eq_true.mp m b (List.mem_of_getElem? e)
theorem SaysK.fact (c : SaysK w h K) (i : Nat) {f : He.Fa} (e : fa29[i]? = some f) : f.ok K = true := c.t.d.facts (List.mem_of_getElem? e)
theorem SaysK.glo (c : SaysK w h K) (Kb : K.In base) (hm : base.Ns mainGlobals mg) (i : Nat) {x : Str} (e : fa29[i]? = some (.glo x)) : mg x = some (.ref (He.ga K x)) := He.glo_ok Kb hm (c.fact i e)
theorem SaysK.free (c : SaysK w h K) (Kb : K.In base) (hm : base.Ns mainGlobals mg) (i : Nat) {x : Str} (e : fa29[i]? = some (.free x)) : mg x = none := He.free_ok Kb hm (c.fact i e)
def tabsK (K : PySem.W.Frag) : List (Addr × Addr) := tf29.map fun p => He.cT K p
def TK (K : PySem.W.Frag) : List (Addr × Str) := []
theorem law_all (c : SaysK w h K) (Kb : K.In base) (hm : base.Ns mainGlobals mg) (TB : ∀ p ∈ tabsK K, TabB base mg p.1 p.2) : ∃ fd, Binds K fd ["script"] [] ∧ FnG P w K mg base CX0 6 (He.ga K "law") fd ["script"] (spLaw K (TK K)) := by
  obtain ⟨v_is_count_d, v_is_count_F⟩ := c.fun_ (d := dDef "is_count" (top 5)) (st := top 5) (List.mem_of_getElem? (i := 0) rfl) rfl rfl rfl rfl
  have v_is_count_b : Binds K v_is_count_d ["value"] [] := Fun.binds v_is_count_F fun _ _ _ _ _ _ us hl => match us, hl with | [_], _ => rfl
  have v_is_count_g := c.glo Kb hm 0 (x := "is_count") rfl
  obtain ⟨v_children_let_d, v_children_let_F⟩ := c.fun_ (d := dDef "children_let" (top 7)) (st := top 7) (List.mem_of_getElem? (i := 1) rfl) rfl rfl rfl rfl
  have v_children_let_b : Binds K v_children_let_d ["rule", "mark"] [] := Fun.binds v_children_let_F fun _ _ _ _ _ _ us hl => match us, hl with | [_, _], _ => rfl
  have v_children_let_g := c.glo Kb hm 1 (x := "children_let") rfl
  obtain ⟨v_least_part_d, v_least_part_F⟩ := c.fun_ (d := dDef "least_part" (top 8)) (st := top 8) (List.mem_of_getElem? (i := 2) rfl) rfl rfl rfl rfl
  have v_least_part_b : Binds K v_least_part_d ["rule", "words"] [] := Fun.binds v_least_part_F fun _ _ _ _ _ _ us hl => match us, hl with | [_, _], _ => rfl
  have v_least_part_g := c.glo Kb hm 2 (x := "least_part") rfl
  obtain ⟨v_is_cell_d, v_is_cell_F⟩ := c.fun_ (d := dDef "is_cell" (top 9)) (st := top 9) (List.mem_of_getElem? (i := 3) rfl) rfl rfl rfl rfl
  have v_is_cell_b : Binds K v_is_cell_d ["value"] [] := Fun.binds v_is_cell_F fun _ _ _ _ _ _ us hl => match us, hl with | [_], _ => rfl
  have v_is_cell_g := c.glo Kb hm 3 (x := "is_cell") rfl
  obtain ⟨v_is_let_d, v_is_let_F⟩ := c.fun_ (d := dDef "is_let" (top 10)) (st := top 10) (List.mem_of_getElem? (i := 4) rfl) rfl rfl rfl rfl
  have v_is_let_b : Binds K v_is_let_d ["rule", "cell", "root", "goes_on"] [] := Fun.binds v_is_let_F fun _ _ _ _ _ _ us hl => match us, hl with | [_, _, _, _], _ => rfl
  have v_is_let_g := c.glo Kb hm 4 (x := "is_let") rfl
  obtain ⟨v_is_kind_d, v_is_kind_F⟩ := c.fun_ (d := dDef "is_kind" (top 13)) (st := top 13) (List.mem_of_getElem? (i := 5) rfl) rfl rfl rfl rfl
  have v_is_kind_b : Binds K v_is_kind_d ["kind"] [] := Fun.binds v_is_kind_F fun _ _ _ _ _ _ us hl => match us, hl with | [_], _ => rfl
  have v_is_kind_g := c.glo Kb hm 5 (x := "is_kind") rfl
  obtain ⟨v_checked_kinds_d, v_checked_kinds_F⟩ := c.fun_ (d := dDef "checked_kinds" (top 14)) (st := top 14) (List.mem_of_getElem? (i := 6) rfl) rfl rfl rfl rfl
  have v_checked_kinds_b : Binds K v_checked_kinds_d ["side", "kinds"] [] := Fun.binds v_checked_kinds_F fun _ _ _ _ _ _ us hl => match us, hl with | [_, _], _ => rfl
  have v_checked_kinds_g := c.glo Kb hm 6 (x := "checked_kinds") rfl
  obtain ⟨v_law_pen_of_d, v_law_pen_of_F⟩ := c.fun_ (d := dDef "_law_pen_of" (top 17)) (st := top 17) (List.mem_of_getElem? (i := 7) rfl) rfl rfl rfl rfl
  have v_law_pen_of_b : Binds K v_law_pen_of_d ["script"] [] := Fun.binds v_law_pen_of_F fun _ _ _ _ _ _ us hl => match us, hl with | [_], _ => rfl
  have v_law_pen_of_g := c.glo Kb hm 7 (x := "_law_pen_of") rfl
  obtain ⟨v_law_draw_d, v_law_draw_F⟩ := c.fun_ (d := dDef "_law_draw" (top 18)) (st := top 18) (List.mem_of_getElem? (i := 8) rfl) rfl rfl rfl rfl
  have v_law_draw_b : Binds K v_law_draw_d ["pen", "many"] [] := Fun.binds v_law_draw_F fun _ _ _ _ _ _ us hl => match us, hl with | [_, _], _ => rfl
  have v_law_draw_g := c.glo Kb hm 8 (x := "_law_draw") rfl
  obtain ⟨v_law_known_d, v_law_known_F⟩ := c.fun_ (d := dDef "_law_known" (top 19)) (st := top 19) (List.mem_of_getElem? (i := 9) rfl) rfl rfl rfl rfl
  have v_law_known_b : Binds K v_law_known_d ["name"] [] := Fun.binds v_law_known_F fun _ _ _ _ _ _ us hl => match us, hl with | [_], _ => rfl
  have v_law_known_g := c.glo Kb hm 9 (x := "_law_known") rfl
  obtain ⟨v_law_kinds_some_d, v_law_kinds_some_F⟩ := c.fun_ (d := dDef "_law_kinds_some" (top 20)) (st := top 20) (List.mem_of_getElem? (i := 10) rfl) rfl rfl rfl rfl
  have v_law_kinds_some_b : Binds K v_law_kinds_some_d ["pen"] [] := Fun.binds v_law_kinds_some_F fun _ _ _ _ _ _ us hl => match us, hl with | [_], _ => rfl
  have v_law_kinds_some_g := c.glo Kb hm 10 (x := "_law_kinds_some") rfl
  obtain ⟨v_law_rule_of_d, v_law_rule_of_F⟩ := c.fun_ (d := dDef "_law_rule_of" (top 21)) (st := top 21) (List.mem_of_getElem? (i := 11) rfl) rfl rfl rfl rfl
  have v_law_rule_of_b : Binds K v_law_rule_of_d ["pen"] [] := Fun.binds v_law_rule_of_F fun _ _ _ _ _ _ us hl => match us, hl with | [_], _ => rfl
  have v_law_rule_of_g := c.glo Kb hm 11 (x := "_law_rule_of") rfl
  obtain ⟨v_law_rule_made_d, v_law_rule_made_F⟩ := c.fun_ (d := dDef "_law_rule_made" (top 22)) (st := top 22) (List.mem_of_getElem? (i := 12) rfl) rfl rfl rfl rfl
  have v_law_rule_made_b : Binds K v_law_rule_made_d ["rule"] [] := Fun.binds v_law_rule_made_F fun _ _ _ _ _ _ us hl => match us, hl with | [_], _ => rfl
  have v_law_rule_made_g := c.glo Kb hm 12 (x := "_law_rule_made") rfl
  obtain ⟨v_law_parts_d, v_law_parts_F⟩ := c.fun_ (d := dDef "_law_parts" (top 23)) (st := top 23) (List.mem_of_getElem? (i := 13) rfl) rfl rfl rfl rfl
  have v_law_parts_b : Binds K v_law_parts_d ["rule"] [] := Fun.binds v_law_parts_F fun _ _ _ _ _ _ us hl => match us, hl with | [_], _ => rfl
  have v_law_parts_g := c.glo Kb hm 13 (x := "_law_parts") rfl
  obtain ⟨v_law_lets_d, v_law_lets_F⟩ := c.fun_ (d := dDef "_law_lets" (top 24)) (st := top 24) (List.mem_of_getElem? (i := 14) rfl) rfl rfl rfl rfl
  have v_law_lets_b : Binds K v_law_lets_d ["rule", "parts", "cell", "at_root", "goes_on"] [] := Fun.binds v_law_lets_F fun _ _ _ _ _ _ us hl => match us, hl with | [_, _, _, _, _], _ => rfl
  have v_law_lets_g := c.glo Kb hm 14 (x := "_law_lets") rfl
  obtain ⟨v_law_all_cells_d, v_law_all_cells_F⟩ := c.fun_ (d := dDef "_law_all_cells" (top 25)) (st := top 25) (List.mem_of_getElem? (i := 15) rfl) rfl rfl rfl rfl
  have v_law_all_cells_b : Binds K v_law_all_cells_d [] [] := Fun.binds v_law_all_cells_F fun _ _ _ _ _ _ us hl => match us, hl with | [], _ => rfl
  have v_law_all_cells_g := c.glo Kb hm 15 (x := "_law_all_cells") rfl
  obtain ⟨v_law_odd_cells_d, v_law_odd_cells_F⟩ := c.fun_ (d := dDef "_law_odd_cells" (top 26)) (st := top 26) (List.mem_of_getElem? (i := 16) rfl) rfl rfl rfl rfl
  have v_law_odd_cells_b : Binds K v_law_odd_cells_d [] [] := Fun.binds v_law_odd_cells_F fun _ _ _ _ _ _ us hl => match us, hl with | [], _ => rfl
  have v_law_odd_cells_g := c.glo Kb hm 16 (x := "_law_odd_cells") rfl
  obtain ⟨v_law_d, v_law_F⟩ := c.fun_ (d := dDef "law" (top 27)) (st := top 27) (List.mem_of_getElem? (i := 17) rfl) rfl rfl rfl rfl
  have v_law_b : Binds K v_law_d ["script"] [] := Fun.binds v_law_F fun _ _ _ _ _ _ us hl => match us, hl with | [_], _ => rfl
  have v_law_g := c.glo Kb hm 17 (x := "law") rfl
  obtain ⟨m_Rule_init_d, m_Rule_init_F⟩ := c.fun_ (d := dMet "Rule" "__init__" "Rule.__init__" (inClass (top 15) 0)) (st := inClass (top 15) 0) (List.mem_of_getElem? (i := 18) rfl) rfl rfl rfl rfl
  have m_Rule_init_b : Binds K m_Rule_init_d ["self", "root", "others"] [] := Fun.binds m_Rule_init_F fun _ _ _ _ _ _ us hl => match us, hl with | [_, _, _], _ => rfl
  have f_isinstance := c.free Kb hm 19 (x := "isinstance") rfl
  have f_len := c.free Kb hm 20 (x := "len") rfl
  have f_all := c.free Kb hm 21 (x := "all") rfl
  have f_tuple := c.free Kb hm 22 (x := "tuple") rfl
  have f_list := c.free Kb hm 23 (x := "list") rfl
  have f_bool := c.free Kb hm 24 (x := "bool") rfl
  have f_enumerate := c.free Kb hm 25 (x := "enumerate") rfl
  have f_sorted := c.free Kb hm 26 (x := "sorted") rfl
  have f_repr := c.free Kb hm 27 (x := "repr") rfl
  have f_int := c.free Kb hm 28 (x := "int") rfl
  have f_abs := c.free Kb hm 29 (x := "abs") rfl
  have f_range := c.free Kb hm 30 (x := "range") rfl
  have f_min := c.free Kb hm 31 (x := "min") rfl
  have f_any := c.free Kb hm 32 (x := "any") rfl
  have f_sum := c.free Kb hm 33 (x := "sum") rfl
  have g_Rule := c.glo Kb hm 18 (x := "Rule") rfl
  have c_Rule := He.cls_ok (c.fact 34 (f := .cls "Rule") rfl)
  have n_Rule_root := He.noat_ok (c.fact 35 (f := .noat "Rule" "root") rfl)
  have n_Rule_others := He.noat_ok (c.fact 36 (f := .noat "Rule" "others") rfl)
  have k_Rule := He.mkr_ok (c.fact 37 (f := .mkr "Rule") rfl)
  have sys : ∃ o, K.lookup sysModules = some o := Option.isSome_iff_exists.mp (c.is 0 rfl)
  have R : RuleC K (He.ga K "Rule") := ⟨c_Rule, n_Rule_root, n_Rule_others⟩
  have GK := ok_isK (P := P) (w := w) (base := base) v_is_kind_F f_isinstance f_tuple f_list f_len f_bool f_int
  have GCk := ok_ck v_checked_kinds_F f_enumerate f_tuple f_sorted sys v_is_kind_g v_is_kind_F.kp GK v_is_kind_b
  have GI := ok_initR m_Rule_init_F c_Rule n_Rule_root n_Rule_others v_checked_kinds_g v_checked_kinds_F.kp GCk v_checked_kinds_b
  have GCt := ok_count (P := P) (w := w) (base := base) v_is_count_F f_isinstance f_bool f_int
  have GCh := ok_child (P := P) (w := w) (base := base) v_children_let_F R f_sorted
  have GLp := ok_least v_least_part_F v_children_let_g v_children_let_F.kp GCh v_children_let_b
  have GCe := ok_iscell v_is_cell_F f_isinstance f_bool f_tuple f_len v_is_count_g v_is_count_F.kp GCt v_is_count_b
  have GIl := ok_islet v_is_let_F R f_min v_is_cell_g v_is_cell_F.kp GCe v_is_cell_b v_least_part_g v_least_part_F.kp GLp v_least_part_b
  have GPen := ok_pen (P := P) (w := w) (base := base) v_law_pen_of_F f_list
  have GD := ok_draw (P := P) (w := w) (base := base) v_law_draw_F f_int f_len f_abs
  have GKn := ok_known (P := P) (w := w) (base := base) v_law_known_F f_range f_int
  have GKs := ok_some v_law_kinds_some_F f_range f_int f_len v_law_draw_g v_law_draw_F.kp GD v_law_draw_b
  have GRo := ok_ruleof v_law_rule_of_F f_range v_law_draw_g v_law_draw_F.kp GD v_law_draw_b v_law_known_g v_law_known_F.kp GKn v_law_known_b v_law_kinds_some_g v_law_kinds_some_F.kp GKs v_law_kinds_some_b
  have GRm := ok_rmade v_law_rule_made_F f_list g_Rule k_Rule GI m_Rule_init_b
  have GPa := ok_parts (P := P) (w := w) (base := base) v_law_parts_F f_range f_all f_sum f_min
  have GLs := ok_lets (P := P) (w := w) (base := base) v_law_lets_F f_min f_int
  have GAl := ok_all (P := P) (w := w) (base := base) v_law_all_cells_F f_range f_int
  have GOd := ok_odd (mg := mg) (P := P) (w := w) (base := base) v_law_odd_cells_F
  exact ⟨v_law_d, v_law_b, ok_law (T := TK K) v_law_F f_range f_repr f_any sys v_law_pen_of_g v_law_pen_of_F.kp GPen v_law_pen_of_b v_law_rule_of_g v_law_rule_of_F.kp GRo v_law_rule_of_b v_law_rule_made_g v_law_rule_made_F.kp GRm v_law_rule_made_b v_law_parts_g v_law_parts_F.kp GPa v_law_parts_b v_least_part_g v_least_part_F.kp GLp v_least_part_b v_law_all_cells_g v_law_all_cells_F.kp GAl v_law_all_cells_b v_law_lets_g v_law_lets_F.kp GLs v_law_lets_b v_is_let_g v_is_let_F.kp GIl v_is_let_b v_law_odd_cells_g v_law_odd_cells_F.kp GOd v_law_odd_cells_b⟩
end
end SK
namespace SK
open PySem PySem.Spec PyProof.Rows L2 LamX NdefX
abbrev RR : PySem.W.OpenRow := PySem.W.OpenLaw.row PySem.Challenge.rw_lettertrees_k29_cells_that_are_let
def namesK : List Str := [("_wall" : Str), ("TreesError" : Str), ("BadKind" : Str), ("is_count" : Str), ("children_let" : Str), ("least_part" : Str), ("is_cell" : Str), ("is_let" : Str), ("kind_of" : Str), ("is_kind" : Str), ("checked_kinds" : Str), ("Rule" : Str), ("_law_pen_of" : Str), ("_law_draw" : Str), ("_law_known" : Str), ("_law_kinds_some" : Str), ("_law_rule_of" : Str), ("_law_rule_made" : Str), ("_law_parts" : Str), ("_law_lets" : Str), ("_law_all_cells" : Str), ("_law_odd_cells" : Str)]
theorem runK (w : World) : HandSHeadRun.RunEq RR (PySem.W.view RR.prog [27]) hkK obK 9000 namesK w := by
  intro os
  kernel_rfl
end SK
open PySem PySem.W PySem.Calls PyProof.Rows
theorem PySem.Challenge.cw_lettertrees_k29_cells_that_are_let_holds : PySem.Challenge.rw_lettertrees_k29_cells_that_are_let.Holds := by
  w_on; o_law
  refine HandSHeadRun.head_any (r := SK.RR) (q := view SK.RR.prog [27]) (H := SK.hkK) (ob := SK.obK) (M := 9000) (loose := SK.namesK) (d := HandSHeadRun.topDef SK.RR.prog 27) (kwd := []) SK.obK_eq
    (by kernel_rfl) (fun s => by kernel_rfl) SK.runK (by kernel_rfl) (by kernel_rfl) (by kernel_rfl) (by rfl) (by first | assumption | decide +kernel) (by decide +kernel) ⟨rfl, rfl, rfl, rfl, rfl, by decide +kernel⟩ ?hw ?hc
  case hw => w_witness2
  case hc =>
    refine Att.attach_call (l := PySem.Challenge.rw_lettertrees_k29_cells_that_are_let) (n := 63) rfl (by kernel_rfl) fun w s₀ s₁ mg mb fa o pm cd doc a vs ns G Y ho hd hcd hmg hobj hints hlen hg => ?_
    obtain ⟨K, KX, c⟩ := Y
    have hl : mg ("law" : PySem.Str) = some (.ref (He.ga K "law")) := SK.SaysK.glo c KX G.T.g 17 rfl
    have hmg' : mg ("law" : PySem.Str) = some (.ref fa) := by
      have e : (HandSHeadRun.topDef SK.RR.prog 27).name = ("law" : PySem.Str) := by kernel_rfl
      rw [← e]
      exact hmg
    rw [hmg'] at hl
    have ef : fa = He.ga K "law" := Value.ref.inj (Option.some.inj hl)
    rw [ef]
    have mem : ∀ P ∈ (SK.tabsK K).map (·.2), ∃ p ∈ SK.tf29, (He.cT K p).2 = P := fun P hP => by
      obtain ⟨q, hq, rfl⟩ := List.mem_map.mp hP
      obtain ⟨p, hp, rfl⟩ := List.mem_map.mp hq
      exact ⟨p, hp, rfl⟩
    refine SK.run_lawG (ps := SK.tabsK K) (T := SK.TK K) (K := K) (mg := mg) (mb := mb) (fun base Kb hm TB => SK.law_all c Kb hm TB) ⟨rfl, by decide, by decide⟩ (fun H a ns h1 h2 h3 => ⟨a, ns, rfl, h1, h2, h3, fun _ => rfl⟩) ?_ KX G.T.g G.T.b G.T.builtins G.T.nolimit hg (fun P hP => ?_) (fun P hP => ?_) (fun p hp => ?_) G.T.bmain hobj hints hlen
    · intro p hp
      simp only [SK.TK, List.mem_cons, List.mem_nil_iff, or_false] at hp
      skip
    · obtain ⟨p, hp, rfl⟩ := mem P hP
      exact c.empty p hp
    · obtain ⟨p, hp, rfl⟩ := mem P hP
      exact c.out p hp
    · obtain ⟨q, hq, rfl⟩ := List.mem_map.mp hp
      exact codeHd_of_K KX (c.hd q hq)
