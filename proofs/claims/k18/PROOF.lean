import PyProof.Rows.All
import Wide.All
import OpenK.AllK
import Wide.FinOn
import HandS.ForSpec
import HandS.ExcInit
import KE.KExcIs
import HandS.IsInst
import HandS.ExcValue
import HandS.Dict
import HandS.SortKw
import KE.SortKeyHeap
import KE.SortCalls
import HandS.Comp
import HandS.Iter
import HandS.Nested
import HandS.Walk
import HandS.DictComp
import KE.GoesMore
import KE.GoesEnum
import HandS.Text
import HandS.Style
import HandS.WordsDict
import PyProof.StrLaws
import HandS.Strs
import HandS.SetTxt0
import HandS.Steps
import HandS.Conv
import HandS.TryMany
import HandS.ExcField
import HandS.ExcIs
import PyProof.Rows.RegReprOcc
import HandS.Replace
import HandS.Deep
import PyProof.Rows.StrMul
import PyProof.Rows.StrJoinRep
import PyProof.EqKinds
import PyProof.P3In
import HandS.Lambda
import HandS.EndTab
import KE.KStateDown
import Lean
import HandS.Defaults
import HandS.Head0
import HandS.Head1
import HandS.Head2
import HandS.HeadEnd
import HandS.HeadHook4
import PySem.Challenge.RW_lettertrees_k18_wishes
set_option Elab.async false
set_option linter.all false
set_option maxRecDepth 100000
set_option maxHeartbeats 0
/-! ### calls of an own exception class with keywords: the boot's __new__ takes any, the own __init__ gets them -/
namespace K0
open PySem PySem.W PySem.Calls PySem.HandSPX
section
variable {M : Model} {A : Around} {E : Value → Shared → Prop} {h : Heap} {g : Array GenState} {d : Drawn} {t : Nat} {os : OsState}
variable {nm q : Str} {C N : Addr} {bs bm bmB : List Value} {hdct : Bool} {sn : List Str} {sub : List Value} {ab : Bool} {col : Option Bool} {dd : Option Addr}
variable {k0 k1 k2 k3 k5 : Option Value} {B newId initId : String}

theorem kw_check_new (F : ExcBaseFacts B newId initId bmB) (hT : ∀ X : String, bm.contains (.type X) = bmB.contains (.type X)) {rest : List Value} {kw : List (Str × Value)} {Q : Unit → Shared → Prop}
    (hC : h.get? C = some (excClassObj nm q C N bs bm hdct sn sub ab col dd k0 k1 k2 k3 k5 newId)) (hq : Q () ⟨h, g, d, t, os⟩) :
    wpAny M A (checkBuiltinCall newId ⟨.ref C :: rest, kw⟩) Q E ⟨h, g, d, t, os⟩ := by
  have hB : (Value.ref C :: bm).contains (.type B) = true := by
    rw [List.contains_cons, hT, F.hasB, Bool.or_true]
  have hs := F.noStar
  simp only [checkBuiltinCall, F.newKind, F.newSplit, F.newRow]
  repeat
    first
    | refine wpAny_loadPart_at hC ?_
    | (refine wpAny_isSubtype_exc hC ?_
       rw [hB])
    | refine wpAny_staticBase_exc hC ?_
    | refine wpAny_madeBy_exc hC ?_
    | simp only [bne_self_eq_false, Bool.false_eq_true, if_false]
    | wp_step
  exact hq
end
section
variable {prog : Program} {w : World} {A : Around} {E : Value → Shared → Prop} {R : Result → Shared → Prop} {h : Heap} {g : Array GenState} {d : Drawn} {t : Nat} {os : OsState}
variable {nm q : Str} {C N : Addr} {bs bm bmB : List Value} {hdct : Bool} {sn : List Str} {sub : List Value} {ab : Bool} {col : Option Bool} {dd : Option Addr}
variable {k0 k1 k2 k3 k5 : Option Value} {B newId initId : String}

/-- the heap with a new exception of the class at C, its args behind it -/
abbrev twoMore (h : Heap) (C : Addr) (rest : List Value) : Heap := (h.push (W.kdv_tup rest)).push (excO C h.objs.size)

theorem kw_new (F : ExcBaseFacts B newId initId bmB) (hT : ∀ X : String, bm.contains (.type X) = bmB.contains (.type X)) {rest : List Value} {kw : List (Str × Value)}
    (hC : h.get? C = some (excClassObj nm q C N bs bm hdct sn sub ab col dd k0 k1 k2 k3 k5 newId))
    (hq : R (.ok (.ret (.ref (h.objs.size + 1)))) ⟨twoMore h C rest, g, d, t, os⟩) (hz : rest.length ≤ sizeLine) :
    codeAny (model prog w) A (.builtin newId ⟨.ref C :: rest, kw⟩) R ⟨h, g, d, t, os⟩ := by
  have e0 := F.ends
  have cB : (Value.ref C :: bm).contains (.type B) = true := by
    rw [List.contains_cons, hT, F.hasB, Bool.or_true]
  have cA : (Value.ref C :: bm).contains (.type "AttributeError") = false := by
    rw [List.contains_cons, hT, F.noAttr] <;> rfl
  have cN : (Value.ref C :: bm).contains (.type "NameError") = false := by
    rw [List.contains_cons, hT, F.noName] <;> rfl
  refine codeAny_builtinAt F.entry ?_
  unfold Builtin.«BaseException.__new__»
  refine wpAt_bind ?_
  show wpAt _ _ _ (stack >>= _) _ _ _
  refine wpAt_bind (wpAt_stack fun p below => wpAt_of_wpAny ?_)
  wp_walk
  refine wpAt_of_wpAny ?_
  rw [F.owner]
  repeat
    first
    | with_reducible refine wpAny_madeHere_exc F.canon hC ?_
    | with_reducible refine wpAny_loadPart_at hC ?_
    | (with_reducible refine wpAny_isSubtype_exc hC ?_
       first | rw [cB] | rw [cA] | rw [cN])
    | wp_step
  show R _ _
  rw [Heap.size_push]
  exact hq

theorem kw_typeCall (F : ExcBaseFacts B newId initId bmB) (hT : ∀ X : String, bm.contains (.type X) = bmB.contains (.type X)) {rest : List Value} {kw : List (Str × Value)} {fI : Addr} {Q : Fin → Shared → Prop}
    (hC : h.get? C = some (excClassObj nm q C N bs bm hdct sn sub ab col dd k0 k1 k2 k3 k5 newId))
    (hi : W.Looks (model prog w) h (typeLookup (.ref C) "__init__") (some (.ref fI))) (hb : ∀ self, W.Looks (model prog w) h (bindSpecial (.ref fI) self) (.ref fI, [self])) (hz : rest.length ≤ sizeLine)
    (hq : codeAny (model prog w) A (.call (.ref fI) ⟨.ref (h.objs.size + 1) :: rest, kw⟩)
      (fun r s' => match r with | .ok (.ret v) => v = .none ∧ Q (.done (.ret (.ref (h.objs.size + 1)))) s' | .ok _ => False | .error e => E e s') ⟨twoMore h C rest, g, d, t, os⟩) :
    wpAny (model prog w) A (Builtin.«type.__call__» ⟨.ref C :: rest, kw⟩) Q E ⟨h, g, d, t, os⟩ := by
  repeat
    first
    | with_reducible refine wpAny_loadPart_at hC ?_
    | with_reducible refine wpAny_madeBy_exc hC ?_
    | wp_step
  refine codeAny_call_builtin_code (Code.quiet_builtin _ F.quiet) (kw_check_new F hT hC ?_)
  refine kw_new F hT hC ?_ hz
  show wpAny _ _ _ _ _ _
  have k : ∀ b o, h.get? b = some o → (twoMore h C rest).get? b = some o := fun b o e => Heap.get?_push_of_some _ (Heap.get?_push_of_some _ e)
  have hC1 := k _ _ hC
  have hx : (twoMore h C rest).get? (h.objs.size + 1) = some (excO C h.objs.size) := by heap_get
  have cC : (Value.ref C :: bm).contains (.ref C) = true := by simp
  have i1 := hi.keeps k
  have b1 := (hb (.ref (h.objs.size + 1))).keeps k
  unfold isInstance
  repeat
    first
    | with_reducible refine wpAny_loadPart_at hx ?_
    | (with_reducible refine wpAny_isSubtype_exc hC1 ?_
       rw [cC])
    | wp_step
  show wpAny _ _ (typeLookup (.ref C) _) _ _ _
  refine i1.at ?_
  refine wpAny_holding (wpAny_bind (b1.at ?_))
  refine wpAny_bind (wpAny_call (codeAny_mono hq fun r s' z => ?_))
  cases r with
  | error e => exact z
  | ok f =>
    cases f with
    | ret v =>
      obtain ⟨rfl, z⟩ := z
      first
      | exact wpAny_pure (wpAny_pure z)
      | (wp_walk
         exact z)
    | next => exact z.elim
    | brk => exact z.elim
    | cont => exact z.elim

theorem kw_checkCall {M : Model} {rest : List Value} {kw : List (Str × Value)} {Q : Unit → Shared → Prop} (hC : h.get? C = some (excClassObj nm q C N bs bm hdct sn sub ab col dd k0 k1 k2 k3 k5 newId))
    (hq : Q () ⟨h, g, d, t, os⟩) : wpAny M A (checkBuiltinCall "type.__call__" ⟨.ref C :: rest, kw⟩) Q E ⟨h, g, d, t, os⟩ := by
  have e3 := tc_sub
  have ty : (⟨h, g, d, t, os⟩ : Shared).TypeIs (.ref C) "type" := ⟨_, hC, rfl⟩
  simp only [checkBuiltinCall, tc_kind, tc_split]
  repeat (any_goals (first
    | assumption
    | with_reducible refine wpAny_loadPart_at hC ?_
    | with_reducible refine wpAny_onRaise ?_
    | with_reducible refine wpAny_map ?_
    | wp_step))

theorem kw_call (F : ExcBaseFacts B newId initId bmB) (hT : ∀ X : String, bm.contains (.type X) = bmB.contains (.type X)) {rest : List Value} {kw : List (Str × Value)} {fI : Addr}
    (hC : h.get? C = some (excClassObj nm q C N bs bm hdct sn sub ab col dd k0 k1 k2 k3 k5 newId))
    (hi : W.Looks (model prog w) h (typeLookup (.ref C) "__init__") (some (.ref fI))) (hb : ∀ self, W.Looks (model prog w) h (bindSpecial (.ref fI) self) (.ref fI, [self])) (hz : rest.length ≤ sizeLine)
    (hq : codeAny (model prog w) (A.under (.builtin "type.__call__" ⟨.ref C :: rest, kw⟩)) (.call (.ref fI) ⟨.ref (h.objs.size + 1) :: rest, kw⟩) (W.InitBack (h.objs.size + 1) R) ⟨twoMore h C rest, g, d, t, os⟩) :
    codeAny (model prog w) A (.call (.ref C) ⟨rest, kw⟩) R ⟨h, g, d, t, os⟩ := by
  have f1 := tc_lookup
  have f2 := tc_bind (.ref C)
  have ty : (⟨h, g, d, t, os⟩ : Shared).TypeIs (.ref C) "type" := ⟨_, hC, rfl⟩
  refine codeAny_of_tree ?_
  show wpAny _ _ (callAny (.ref C) _) _ _ _
  repeat (any_goals (first
    | assumption
    | with_reducible refine wpAny_loadPart_at hC ?_
    | wp_step))
  refine ⟨rfl, ?_⟩
  refine codeAny_call_builtin_at (Code.quiet_builtin _ (by decide +kernel)) entry_typeCall (kw_checkCall hC (kw_typeCall F hT hC hi hb hz ?_))
  refine codeAny_mono hq fun r s' z => ?_
  cases r with
  | error e => exact z
  | ok f => cases f <;> exact z
end
end K0
namespace K0
open PySem PySem.Spec PyProof.Rows L2
abbrev St := L2.St
section
variable {X : Cx} {pins : List (Addr × Obj)} {σ : St} {H H' : Hp} {s : Shared}
/-- things told by what is true of their one object may be forgotten -/
theorem forget (I : Inv X pins σ H' s) (sub : ∀ b o, H b = some o → H' b = some o) (ext : ∀ b o, H' b = some o → H b = some o ∨ ∃ φ, o = HO.ext φ) : Inv X pins σ H s := by
  have fr : ∀ b, H' b = none → H b = none := fun b n => by
    cases q : H b with
    | none => rfl
    | some o =>
      rw [sub b o q] at n
      cases n
  have back : ∀ b o, H' b = some o → (∀ φ, o ≠ HO.ext φ) → H b = some o := fun b o q n => by
    rcases ext b o q with z | ⟨φ, z⟩
    · exact z
    · exact absurd z (n φ)
  refine ⟨I.ok, I.os, I.bare, ⟨I.base.keep, I.base.slot, fun b o e n hx => fr b (I.base.free b o e n hx), I.base.there, fun b xs q => ?_, fun b o u q => ?_, fun b ps q => ?_⟩, I.loc, I.cell, fr _ I.free, fun x c e => fr c (I.freeC x c e), fun p hp => ?_, fun b o q => ?_, I.len⟩
  · exact back b _ (I.base.tups b xs q) (fun φ z => nomatch z)
  · exact back b _ (I.base.frzs b o u q) (fun φ z => nomatch z)
  · obtain ⟨m, z⟩ := I.base.tbls b ps q
    exact ⟨m, back b _ z (fun φ z => nomatch z)⟩
  · obtain ⟨h1, h2, h3, h4, h5⟩ := I.pin p hp
    exact ⟨h1, fr _ h2, h3, h4, h5⟩
  · exact (I.hok b o (sub b o q)).stay (fun c v _ z => z) (fun c z => back c _ z (fun φ z => nomatch z)) fun c xs z => back c _ z (fun φ z => nomatch z)
end

/-! ### an exception of an own class with its own __init__ -/
structure XCl (K : PySem.W.Frag) (C : Addr) : Prop where
  T : OexC K C
  ga : PySem.W.findIn K (.ref C) "__getattribute__" = some (some (.builtin "BaseException.__getattribute__"))
  gg : PySem.W.findIn K (.ref C) "__getattr__" = some none
  hd : PySem.W.hasDictIn K C = true
  ha : PySem.W.findIn K (.ref C) "__class__" = some (some (.builtin "object.__class__"))
  hn : PySem.W.specialIn K (.builtin "object.__class__") "__get__" = some (some (.builtin "getset_descriptor.__get__"))
  ht : PySem.W.takesIn K (.builtin "object.__class__") = some true
  hm : PySem.W.mroIn K C (.type "object") = some true
/-- the heap with an exception of C at a, its dict of the fields fs at dx -/
abbrev withX (H : Hp) (C a dx : Addr) (fs : List (Str × V)) : Hp := upd (upd H dx (exd dx fs)) a (exo a C (some dx))
/-- what such an __init__ does: the fields fs get the arguments -/
def spX (C : Addr) (fs : List Str) : Sp := fun vs H Q _ => ∃ (a : Addr) (ys : List V), vs = .ref a :: ys ∧ ys.length = fs.length ∧ H a = some (exo a C none) ∧
  ∀ dx, H dx = none → dx ≠ a → Q .non (withX H C a dx (fs.zip ys).reverse)
theorem withX_sub {H : Hp} {C a dx : Addr} {fs : List (Str × V)} (ha : H a = none) (hd : H dx = none) : ∀ b o, H b = some o → withX H C a dx fs b = some o := fun b o e => by
  show upd (upd H dx _) a _ b = some o
  rw [upd_ne (ne_of_none e ha), upd_ne (ne_of_none e hd)]
  exact e
theorem withX_ext {H : Hp} {C a dx : Addr} {fs : List (Str × V)} : ∀ b o, withX H C a dx fs b = some o → H b = some o ∨ ∃ φ, o = HO.ext φ := fun b o e => by
  have e' : upd (upd H dx (exd dx fs)) a (exo a C (some dx)) b = some o := e
  by_cases hb : b = a
  · subst hb
    rw [upd_same] at e'
    exact .inr ⟨_, (Option.some.inj e').symm⟩
  · rw [upd_ne hb] at e'
    by_cases hd : b = dx
    · subst hd
      rw [upd_same] at e'
      exact .inr ⟨_, (Option.some.inj e').symm⟩
    · rw [upd_ne hd] at e'
      exact .inl e'
section
variable {X : Cx} {k : Nat} {f C : Addr} {fd : FuncData} {ps : List Str} {sp : Sp}
theorem run_mx {pins : List (Addr × Obj)} {σ : St} {H : Hp} {s : Shared} {Q : VK} {us args : List Value} {kw : List (Str × Value)} {vs : List V} (T : OexC X.K C) (iC : PySem.W.findIn X.K (.ref C) "__init__" = some (some (.ref f)))
    (tI : PySem.W.typeIn X.K (.ref f) = some (.type "function")) (F : FnOk X.prog X.w X.K X.mg X.base CX0 k f fd ps sp) (hr : Room (k + 1) X.A)
    (hb : ∀ (s : Shared) (self : Value), X.K.In s.heap → BindsTo s fd ⟨self :: us, kw⟩ (ps.zip (self :: args))) (I : Inv X pins σ H s) (hz : us.length ≤ sizeLine) (r : Vals vs args)
    (h : ∀ a, H a = none → sp (.ref a :: vs) (upd H a (exo a C none)) (fun v H2 => v = .non ∧ Q (.ref a) H2) E0) :
    wpAny (model X.prog X.w) X.A (call (.ref C) us kw) (EP X pins σ Q) X.xe s := by
  obtain ⟨nm, q, N, bs, bm, sn, sub, ab, col, dd, k0, k1, k2, k3, k5, hC, hbm⟩ := T.cls
  obtain ⟨hp, g, dr, tk, os⟩ := s
  have up : hp.objs.size ≤ hp.objs.size + 1 := Nat.le_succ _
  have hq := h (hp.objs.size + 1) (I.hok.fresh up)
  have keep : ∀ b o, hp.get? b = some o → (twoMore hp C us).get? b = some o := fun b o e => Heap.get?_push_of_some _ (Heap.get?_push_of_some _ e)
  have there : (twoMore hp C us).get? (hp.objs.size + 1) = some (PySem.HandSPX.excO C hp.objs.size) := by heap_get
  have I2 : Inv X pins σ (upd H (hp.objs.size + 1) (exo (hp.objs.size + 1) C none)) ⟨twoMore hp C us, g, dr, tk, os⟩ := I.laid (t' := tk) keep up (exo_ok there)
  have r2 : Vals (V.ref (hp.objs.size + 1) :: vs) (Value.ref (hp.objs.size + 1) :: args) := .cons rfl r
  refine wpAny_call (kw_call PySem.F.excBase_ValueError (fun Y => PySem.HandSPX.refsVE_contains Y bm hbm) (I.kIn _ _ hC) (PySem.W.looks_findIn I.kIn iC) (fun self => PySem.W.bind_fn I.kIn self tI) hz
    (codeAny_mono (F.run _ X.stack _ _ ⟨Value.ref (hp.objs.size + 1) :: us, kw⟩ _ _ _ E0 (hr.make C us kw) (I2.env0.make C us kw) (hb _ _ I2.kIn) r2 hq) fun r s' hq' => ?_))
  cases r with
  | error er => exact hq'.elim
  | ok fl =>
    cases fl with
    | ret u =>
      obtain ⟨v, H3, I3, rv, ev, q3⟩ := I2.after hq'
      subst ev
      exact ⟨rv, ⟨V.ref (hp.objs.size + 1), H3, I3, rfl, q3⟩⟩
    | next => exact False.elim hq'
    | brk => exact False.elim hq'
    | cont => exact False.elim hq'
/-- the class made, its fields kept: as a value -/
theorem run_mv {fs : List Str} {pins : List (Addr × Obj)} {σ : St} {H : Hp} {s : Shared} {Q : VK} {us args : List Value} {kw : List (Str × Value)} {vs : List V} (T : OexC X.K C) (iC : PySem.W.findIn X.K (.ref C) "__init__" = some (some (.ref f)))
    (tI : PySem.W.typeIn X.K (.ref f) = some (.type "function")) (F : FnOk X.prog X.w X.K X.mg X.base CX0 k f fd ps (spX C fs)) (hr : Room (k + 1) X.A)
    (hb : ∀ (s : Shared) (self : Value), X.K.In s.heap → BindsTo s fd ⟨self :: us, kw⟩ (ps.zip (self :: args))) (I : Inv X pins σ H s) (hz : us.length ≤ sizeLine) (r : Vals vs args) (hl : vs.length = fs.length)
    (h : ∀ a dx, H a = none → H dx = none → dx ≠ a → Q (.ref a) (withX H C a dx (fs.zip vs).reverse)) :
    wpAny (model X.prog X.w) X.A (call (.ref C) us kw) (EP X pins σ Q) X.xe s := by
  refine run_mx T iC tI F hr hb I hz r fun a na => ⟨a, vs, rfl, hl, upd_same, fun dx nd ne => ⟨rfl, ?_⟩⟩
  have nd' : H dx = none := by
    rw [upd_ne ne] at nd
    exact nd
  have e : withX (upd H a (exo a C none)) C a dx (fs.zip vs).reverse = withX H C a dx (fs.zip vs).reverse := by
    funext b
    show upd (upd (upd H a _) dx _) a _ b = upd (upd H dx _) a _ b
    by_cases hb : b = a
    · rw [hb, upd_same, upd_same]
    · rw [upd_ne hb, upd_ne hb]
      by_cases hd : b = dx
      · rw [hd, upd_same, upd_same]
      · rw [upd_ne hd, upd_ne hd, upd_ne hb]
  rw [e]
  exact h a dx na nd' ne
end
end K0
namespace K0
open PySem PySem.Spec PyProof.Rows L2
section
variable {X : Cx} {k : Nat} {f C : Addr} {fd : FuncData} {ps : List Str} {fs : List Str} {x n : Str} {e : Expr} {es : List Expr} {ta : TA} {te : TE} {p pos pos' : Pos} {kws : List Keyword}
/-- what the top says of such a class and its __init__ -/
structure XMk (X : Cx) (x : Str) (C : Addr) (fs : List Str) : Prop where
  cl : XCl X.K C
  gC : X.mg x = some (.ref C)
  ini : ∃ f fd k, PySem.W.findIn X.K (.ref C) "__init__" = some (some (.ref f)) ∧ PySem.W.typeIn X.K (.ref f) = some (.type "function") ∧ FnOk X.prog X.w X.K X.mg X.base CX0 k f fd (("self" : Str) :: fs) (spX C fs) ∧ Room (k + 1) X.A ∧
    (∀ (s : Shared) (self : Value) (us : List Value), us.length = fs.length → BindsTo s fd ⟨self :: us, []⟩ ((("self" : Str) :: fs).zip (self :: us))) ∧
    (∀ (s : Shared) (self : Value) (us : List Value), us.length = fs.length → BindsTo s fd ⟨[self], fs.zip us⟩ ((("self" : Str) :: fs).zip (self :: us)))
/-- C(e, ..) : whatever is asked of the arguments and the heap there, the new exception stands behind it -/
structure PX (X : Cx) (e : Expr) (C : Addr) (fs : List Str) (ta : TA) : Prop where
  run : ∀ (pins : List (Addr × Obj)) (s : Shared) (σ : St) (H : Hp) (P : List V → Hp → Prop), Inv X pins σ H s → (ta σ H fun vs H1 => vs.length = fs.length ∧ vs.length ≤ 1000 ∧ P vs H1) →
    wpAny (model X.prog X.w) X.A (eval e X.env) (fun u s1 => ∃ (vs : List V) (H1 : Hp) (a dx : Addr), u = .ref a ∧ H1 a = none ∧ H1 dx = none ∧ dx ≠ a ∧ Inv X pins σ (withX H1 C a dx (fs.zip vs).reverse) s1 ∧ P vs H1) X.xe s
theorem us_small {vs : List V} {us : List Value} (r : Vals vs us) (h : vs.length ≤ 1000) : us.length ≤ sizeLine := by
  rw [← Paired.length r, sizeLine_eq]
  omega
theorem px_pos (M : XMk X x C fs) (hg : Gl X x) (ha : PA X (e :: es) ta) (hdb : (x == ("__debug__" : Str)) = false := by decide)
    (he : starEach (e :: es) X.env = (false, eval e X.env) :: starEach es X.env := by rfl) (hpl : (backTo pos (starEach es X.env)).any (·.1) = false := by rfl) :
    PX X (.Call (.Name x p) (e :: es) [] pos) C fs ta := by
  refine ⟨fun pins s σ H P I h => ?_⟩
  obtain ⟨f, fd, k, iC, tI, F, hr, b1, _⟩ := M.ini
  refine wpAny_Call_Name_kw (ld_glob I hg M.gC ?_ hdb)
  refine PySem.W.callWith_K (h₀ := X.base) I.ok.mod.kin M.cl.T.kC (thn (ha.run pos pins s σ H _ I h) fun us s1 ⟨vs, H1, I1, r, hl, hz, q⟩ => ⟨I1.kIn, ?_⟩) he hpl
  refine thn (run_mv (fs := fs) (Q := fun v H2 => ∃ a dx, v = .ref a ∧ H1 a = none ∧ H1 dx = none ∧ dx ≠ a ∧ H2 = withX H1 C a dx (fs.zip vs).reverse) M.cl.T iC tI F hr (fun s self _ => b1 s self us (r.length.symm.trans hl)) I1 (us_small r hz) r hl
    fun a dx na nd ne => ⟨a, dx, rfl, na, nd, ne, rfl⟩) fun u s2 ⟨v, H2, I2, rv, a, dx, ev, na, nd, ne, eH⟩ => ?_
  subst ev eH
  exact ⟨vs, H1, a, dx, rv, na, nd, ne, I2, q⟩
theorem px_kw (M : XMk X x C fs) (hg : Gl X x) (hkw : PK X kws ta) (hall : (backToKw pos (keywordEach kws X.env)).all (·.1.isSome) = true := by rfl) (hks : (backToKw pos (keywordEach kws X.env)).filterMap (·.1) = fs := by rfl)
    (hdb : (x == ("__debug__" : Str)) = false := by decide) (hpl : ((backTo pos (starEach [] X.env)).any (·.1) || (backToKw pos (keywordEach kws X.env)).any (·.1.isNone)) = false := by rfl) :
    PX X (.Call (.Name x p) [] kws pos) C fs ta := by
  refine ⟨fun pins s σ H P I h => ?_⟩
  obtain ⟨f, fd, k, iC, tI, F, hr, _, b2⟩ := M.ini
  refine wpAny_Call_Name_kw (ld_glob I hg M.gC ?_ hdb)
  refine PySem.W.callWith_KW0 (h₀ := X.base) I.ok.mod.kin M.cl.T.kC hall (thn (hkw.run pos pins s σ H _ I h) fun us s1 ⟨vs, H1, I1, r, hl, hz, q⟩ => ⟨I1.kIn, ?_⟩) hpl
  rw [hks]
  refine thn (run_mv (fs := fs) (us := []) (Q := fun v H2 => ∃ a dx, v = .ref a ∧ H1 a = none ∧ H1 dx = none ∧ dx ≠ a ∧ H2 = withX H1 C a dx (fs.zip vs).reverse) M.cl.T iC tI F hr (fun s self _ => b2 s self us (r.length.symm.trans hl)) I1 (Nat.zero_le _) r hl
    fun a dx na nd ne => ⟨a, dx, rfl, na, nd, ne, rfl⟩) fun u s2 ⟨v, H2, I2, rv, a, dx, ev, na, nd, ne, eH⟩ => ?_
  subst ev eH
  exact ⟨vs, H1, a, dx, rv, na, nd, ne, I2, q⟩
/-- C(e, ..) as a value -/
def tMx (C : Addr) (fs : List Str) (ta : TA) : TE := fun σ H Q => ta σ H fun vs H1 => vs.length = fs.length ∧ vs.length ≤ 1000 ∧ ∀ a dx, H1 a = none → H1 dx = none → dx ≠ a → Q (.ref a) (withX H1 C a dx (fs.zip vs).reverse)
theorem pe_mx (h : PX X e C fs ta) : PE X e (tMx C fs ta) := by
  refine ⟨fun pins s σ H Q I h0 => thn (h.run pins s σ H _ I h0) fun u s1 hh => ?_⟩
  obtain ⟨vs, H1, a, dx, rfl, na, nd, ne, I1, q⟩ := hh
  exact ⟨.ref a, _, I1, rfl, q a dx na nd ne⟩
/-- C(e, ..).n: the exception itself is let go -/
def tFx (fs : List Str) (n : Str) (ta : TA) : TE := fun σ H Q => ta σ H fun vs H1 => vs.length = fs.length ∧ vs.length ≤ 1000 ∧ ∃ v, (fs.zip vs).reverse.lookup n = some v ∧ Q v H1
theorem pe_fx (cl : XCl X.K C) (hno : PySem.W.findIn X.K (.ref C) n = some none) (h : PX X e C fs ta) (hb : attributeBase e n X.env (eval e X.env) = eval e X.env := by rfl) : PE X (.Attribute e n pos) (tFx fs n ta) := by
  refine ⟨fun pins s σ H Q I h0 => attr_of hb (thn (h.run pins s σ H _ I h0) fun u s1 hh => ?_)⟩
  obtain ⟨vs, H1, a, dx, rfl, na, nd, ne, I1, v, l, q⟩ := hh
  have ea : withX H1 C a dx (fs.zip vs).reverse a = some (exo a C (some dx)) := upd_same
  have ed : withX H1 C a dx (fs.zip vs).reverse dx = some (exd dx (fs.zip vs).reverse) := (upd_ne ne).trans upd_same
  obtain ⟨t1, ho⟩ := exo_at I1.hok ea
  obtain ⟨mA, hns, rel⟩ := exd_at I1.hok ed
  obtain ⟨od, hd, hl⟩ := lookIn_ns hns
  obtain ⟨u, hu, ru⟩ := RelO.some_of (v := v) (o := mA n) (by rw [← l]; exact rel n)
  have J : PySem.W.InstAt s1.heap a _ C (some od) := ⟨ho, rfl, rfl, hd⟩
  exact PySem.HandSPX.exc_get I1.kIn J cl.ga cl.gg cl.T.exC (PySem.W.findObj_own cl.hd hno rfl (by rw [hl, hu])) (handed_of ru) ⟨v, H1, (forget I1 (withX_sub na nd) withX_ext).tok _, ru, q⟩
/-! ### C(), a class without an own __init__ -/
theorem pe_m0 {newId initId B : String} {bmB : List Value} (F : ExcBaseFacts B newId initId bmB) (q : PySem.W.excIn X.K C bmB newId = true) (gC : X.mg x = some (.ref C)) (kC : PySem.W.keepIn X.K (.ref C) = true) (hg : Gl X x) (hdb : (x == ("__debug__" : Str)) = false := by decide) :
    PE X (.Call (.Name x p) [] [] pos) (fun _ H Q => ∀ a, H a = none → Q (.ref a) (upd H a (exo a C none))) := by
  refine ⟨fun pins s σ H Q I h => ?_⟩
  refine wpAny_Call_Name_kw (ld_glob I hg gC ?_ hdb)
  refine PySem.W.callWith_K0 I.kIn kC ?_
  show wpAny _ _ (call (.ref C) []) _ _ _
  obtain ⟨bm, N, nm, qn, bs, hdct, sn, sub, ab, col, dd, k0, k1, k2, k3, k5, mN, hC, hN, hni, T⟩ := exc_obj I.kIn q
  refine wpAny_call_exc_subT F T hC hN hni (fun h' a hm => ?_) (Nat.zero_le _)
  have hn : H a = none := I.hok.gone hm.new
  obtain ⟨t, ht, _, _⟩ := hm.there
  exact ⟨.ref a, upd H a (exo a C none), I.laidN hm.keeps hm.new hn (exo_ok ht), rfl, h a hn⟩
/-! ### isinstance(e, c), e such an exception -/
def rIsx (K : PySem.W.Frag) : List V → Hp → VK → Prop := fun xs H Q => ∃ (a D : Addr) (c : V) (u : Value) (b : Bool), xs = [.ref a, c] ∧ ClsV c u ∧ XCl K D ∧ (H a = some (exo a D none) ∨ ∃ dx gs, H a = some (exo a D (some dx)) ∧ H dx = some (exd dx gs)) ∧
  PySem.W.kitOne K (.ref D) u = some b ∧ Q (.bl b) H
theorem call_isx : CallR X (.builtin "isinstance") (rIsx X.K) := by
  intro pins s σ H xs us Q I r h
  obtain ⟨a, D, c, u, b, rfl, k, cl, ha, e, q⟩ := h
  obtain ⟨u1, u2, rfl, r1, r2⟩ := vals2 r
  obtain rfl : u1 = Value.ref a := r1
  have e2 := k.eq r2
  subst e2
  have hc : (PySem.W.clsIn X.K D).isSome = true := by
    obtain ⟨cd, hcd, _⟩ := PySem.W.any_some cl.hd
    rw [hcd]
    rfl
  have J : ∃ ox od, PySem.W.InstAt s.heap a ox D od := by
    rcases ha with ha | ⟨dx, gs, ha, hd⟩
    · obtain ⟨t1, ho⟩ := exo_at I.hok ha
      exact ⟨_, none, ho, rfl, rfl, trivial⟩
    · obtain ⟨t1, ho⟩ := exo_at I.hok ha
      obtain ⟨mA, hns, rel⟩ := exd_at I.hok hd
      obtain ⟨od, hd, hl⟩ := lookIn_ns hns
      exact ⟨_, some od, ho, rfl, rfl, hd⟩
  obtain ⟨ox, od, J⟩ := J
  exact PySem.W.kia_one (PySem.W.kitx_exc (ox := ox) (od := od) hc cl.ga cl.gg cl.T.exC cl.ha cl.hn cl.ht cl.hm) I.kIn J e (fun z => nomatch z) fun tk => ⟨.bl b, H, I.tok tk, rfl, q⟩
end
/-! ### repr of data with empty dicts -/
mutual
inductive De (K : PySem.W.Frag) (H : Hp) : V → PyData → Prop
  | non : De K H .non .none
  | bl (b : Bool) : De K H (.bl b) (.bool b)
  | int (i : Int) : De K H (.int i) (.int i)
  | str (x : Str) : De K H (.str x) (.str x)
  | lst {a : Addr} {xs : List V} {ds : List PyData} : H a = some (.lst xs) → DeAll K H xs ds → De K H (.ref a) (.list ds)
  | tup {a : Addr} {xs : List V} {ds : List PyData} : H a = some (.tup xs) → DeAll K H xs ds → De K H (.ref a) (.tuple ds)
  | dic {a : Addr} : H a = some (.dK []) → De K H (.ref a) (.dict [])
inductive DeAll (K : PySem.W.Frag) (H : Hp) : List V → List PyData → Prop
  | nil : DeAll K H [] []
  | cons {v : V} {vs : List V} {d : PyData} {ds : List PyData} : De K H v d → DeAll K H vs ds → DeAll K H (v :: vs) (d :: ds)
end
section
variable {X : Cx} {pins : List (Addr × Obj)} {σ : St} {H : Hp} {s : Shared}
theorem off {a : Addr} {o : HO} (hs : H sysModules = none) (h : H a = some o) : sysModules ≠ a := fun e => by
  rw [← e, hs] at h
  cases h
mutual
theorem de_reads (I : Inv X pins σ H s) (hs : H sysModules = none) : ∀ (d : PyData) (v : V) (u : Value), De X.K H v d → RelV v u → ∃ as, Reads s.heap u d as ∧ sysModules ∉ as
  | .none, _, _, h, r => by
    cases h
    obtain rfl : _ = Value.none := r
    exact ⟨_, Reads.none, by simp⟩
  | .bool b, _, _, h, r => by
    cases h
    obtain rfl : _ = Value.bool b := r
    exact ⟨_, Reads.bool b, by simp⟩
  | .int i, _, _, h, r => by
    cases h
    obtain ⟨t, rfl⟩ := r
    exact ⟨_, Reads.int i t, by simp⟩
  | .str x, _, _, h, r => by
    cases h
    obtain ⟨t, rfl⟩ := r
    exact ⟨_, Reads.str x t, by simp⟩
  | .list ds, _, _, h, r => by
    cases h with
    | @lst a xs _ ha hd =>
      obtain rfl : _ = Value.ref a := r
      obtain ⟨_, its, n, rv, ho⟩ := (show ObjOk X.prog X.w H s.heap a (.lst xs) from I.hok a _ ha)
      obtain ⟨as, hr, hn⟩ := de_all I hs ds xs its hd rv
      refine ⟨_, Reads.list ho rfl rfl hr, fun z => ?_⟩
      rcases List.mem_cons.mp z with z | z
      · exact off hs ha z
      · exact hn z
  | .tuple ds, _, _, h, r => by
    cases h with
    | @tup a xs _ ha hd =>
      obtain rfl : _ = Value.ref a := r
      obtain ⟨_, its, rv, o, ho, hc, n, hd2⟩ := (show ObjOk X.prog X.w H s.heap a (.tup xs) from I.hok a _ ha)
      obtain ⟨as, hr, hn⟩ := de_all I hs ds xs its hd rv
      exact ⟨_, Reads.tuple ho hc hd2 hr, hn⟩
  | .dict _, _, _, h, r => by
    cases h with
    | @dic a ha =>
      obtain rfl : _ = Value.ref a := r
      obtain ⟨_, _, vs, rv, o, es, ep, ho, hx, hd, _, hp, _⟩ := (show ObjOk X.prog X.w H s.heap a (.dK []) from I.hok a _ ha)
      cases rv
      have e0 : es.toList = [] := by
        have z := hp.length
        exact List.eq_nil_of_length_eq_zero z
      refine ⟨_, Reads.dict (as := []) (bs := []) ho hx.1 hd (by rw [e0]; exact ReadsAll.nil) (by rw [e0]; exact ReadsAll.nil), fun z => ?_⟩
      simp at z
      exact off hs ha z
theorem de_all (I : Inv X pins σ H s) (hs : H sysModules = none) : ∀ (ds : List PyData) (vs : List V) (us : List Value), DeAll X.K H vs ds → Vals vs us → ∃ as, ReadsAll s.heap us ds as ∧ sysModules ∉ as
  | [], _, _, h, r => by
    cases h
    cases r
    exact ⟨_, ReadsAll.nil, by simp⟩
  | d :: ds, _, _, h, r => by
    cases h with
    | cons h1 h2 =>
      cases r with
      | cons r1 r2 =>
        obtain ⟨as, q1, n1⟩ := de_reads I hs d _ _ h1 r1
        obtain ⟨bs, q2, n2⟩ := de_all I hs ds _ _ h2 r2
        exact ⟨_, ReadsAll.cons q1 q2, fun z => (List.mem_append.mp z).elim n1 n2⟩
end
end
section
variable {X : Cx}
/-- repr(xs), xs a list of data -/
def rRep (K : PySem.W.Frag) : List V → Hp → VK → Prop := fun xs H Q => ∃ (a : Addr) (d : PyData), xs = [.ref a] ∧ De K H (.ref a) d ∧ d.showable = true ∧ d.depth ≤ 8 ∧ d.shown.length ≤ sizeLine ∧ Q (.str d.shown) H
theorem call_rep (hg : X.A.guards = some []) (hu : X.A.units + 64 < cLine) (hsys : ∃ o, X.K.lookup sysModules = some o) : CallR X (.builtin "repr") (rRep X.K) := by
  intro pins s σ H xs us Q I r h
  obtain ⟨a, d, rfl, hd, hsh, hdp, hz, q⟩ := h
  obtain ⟨oS, hoS⟩ := hsys
  have hs : H sysModules = none := (I.bs _ _ (I.ok.mod.kin _ _ hoS)).2
  obtain ⟨u, rfl, ru⟩ := vals1 r
  obtain rfl : u = Value.ref a := ru
  obtain ⟨as, hr, hn⟩ := de_reads I hs d _ _ hd rfl
  exact repr_of_reads' hr hsh (fun _ => hn) hg (by omega) (fun _ _ z => z) (fun h' t tk hk => ⟨.str d.shown, H, I.kept hk, ⟨t, rfl⟩, q⟩) hz
end
end K0
/-! ### sorted(xs, key=f), f's calls seen by an invariant of one's own; the keys are texts -/
namespace SK
open PySem PySem.W PySem.Calls PyProof.Rows
def IsText (v : Value) (k : Str) : Prop := ∃ t, v = .str k t
abbrev Texts (us : List Value) (ks : List Str) : Prop := EachIs IsText us ks
section
variable {prog : Program} {w : World} {A : Around} {E : Value → Shared → Prop} {s : Shared} {a kS : Addr} {b : Bool} {vs : List Value} {ks : List Str} {e1 : Nat} {P : PySem.Fin → Shared → Prop}
theorem texts_read {h : Heap} : ∀ {us : List Value} {ks : List Str}, Texts us ks → EachIs (fun v d => ∃ as, Reads h v d as) us (ks.map PyData.str)
  | _, _, .nil => .nil
  | _, _, .cons ⟨t, e⟩ r => .cons ⟨[], by rw [e]; exact .str _ t⟩ (texts_read r)
theorem alike_texts (ks : List Str) : AllAlike (ks.map PyData.str) := AllAlike.of fun x y => by simp [alike]
theorem sortable_texts (ks : List Str) : Sortable (ks.map PyData.str) := Sortable.others fun x => ⟨(nomatch ·), fun xs => (nomatch ·)⟩
/-- what an invariant J of the sort has to tell -/
structure ByJ (prog : Program) (w : World) (A : Around) (a kS : Addr) (e1 : Nat) (f : Value) (vs : List Value) (ks : List Str) (J : Nat → Shared → Prop) : Prop where
  is : ∀ i s, J i s → ∃ kA e, s.heap.get? kS = some (seqObj "list" kA e) ∧ Texts kA.toList (ks.take i) ∧ s.heap.get? a = some (seqObj "list" #[] e1)
  turn : ∀ (i : Nat) (v : Value) (k : Str), vs[i]? = some v → ks[i]? = some k → ∀ s, J i s → wpAny (model prog w) A (call f [v]) (fun u s2 => IsText u k ∧ ∃ kA e, s2.heap.get? kS = some (seqObj "list" kA e) ∧ Texts kA.toList (ks.take i) ∧
    ∀ h3 e3, Heap.SameBut kS s2.heap h3 → h3.get? kS = some (seqObj "list" (kA.push u) e3) → J (i + 1) { s2 with heap := h3 }) (fun _ _ => False) s
theorem rest_by {f : Value} {J : Nat → Shared → Prop} (B : ByJ prog w A a kS e1 f vs ks J) (hka : kS ≠ a) (hlen : ks.length = vs.length) (hZ : vs.length ≤ sizeLine) (hu : A.units < cLine) (j0 : J 0 s)
    (h : ∀ s' h' tk out c, J vs.length s' → (∀ b o, b ≠ a → b ≠ kS → s'.heap.get? b = some o → h'.get? b = some o) → h'.get? a = some (seqObj "list" (List.toArray out) c) → KeyedOut b (ks.map PyData.str) vs out → P (.done (.ret .none)) { s' with heap := h', toks := tk }) :
    wpAny (model prog w) A (ksk_rest a f b vs.toArray e1 (.ref kS)) P E s := by
  unfold ksk_rest
  refine wpAny_bind (wpAny_rule ?_)
  first
    | rw [List.forIn_toArray]
    | (rw [← Array.forIn_toList]; simp only [List.toList_toArray])
  refine wpAny_bind (ksk_fold J vs 0 s j0 (fun j x s' hx hJ => ?_) fun s' hJ => ?_)
  · rw [Nat.zero_add] at hJ ⊢
    have hj : j < vs.length := (List.getElem?_eq_some_iff.mp hx).1
    obtain ⟨k, hkj⟩ : ∃ k, ks[j]? = some k := ⟨_, List.getElem?_eq_getElem (by omega)⟩
    refine wpAny_bind (wpAny_attempt (wpAny_mono (B.turn j x k hx hkj s' hJ) (fun u s2 q => ?_) fun _ _ z => z.elim))
    obtain ⟨ht, kA, e, nk, tx, go⟩ := q
    dsimp only
    have hz : kA.size ≤ vs.length := by
      have z := tx.length
      rw [Array.length_toList, List.length_take] at z
      omega
    have hz2 : kA.size ≤ sizeLine := Nat.le_trans hz hZ
    obtain ⟨c2, hc2⟩ : ∃ c2, (s2.heap.update kS (Obj.mapSeq (·.push u))).get? kS = some (seqObj "list" (kA.push u) c2) := ⟨_, get?_update_seq nk (·.push u)⟩
    refine wpAny_bind (listUpdate_at nk rfl ?_ hz2 (by rw [Array.size_push]; omega))
    exact wpAny_pure ⟨rfl, go _ c2 (Heap.SameBut.update s2.heap kS (Obj.mapSeq (·.push u))) hc2⟩
  · rw [Nat.zero_add] at hJ
    obtain ⟨kA, e, nk, tx, na⟩ := B.is _ _ hJ
    refine wpAny_bind (listItems_at nk rfl ?_)
    obtain ⟨G, g1, g2⟩ := L2.restrict s'.heap fun b => decide (b ≠ kS)
    have gs : ∀ b o, G.get? b = some o → s'.heap.get? b = some o := fun b o q => by
      by_cases hb : b = kS
      · rw [hb, g2 kS (decide_eq_false fun z => z rfl)] at q
        cases q
      · rw [← g1 b (decide_eq_true hb)]
        exact q
    have et : ks.take vs.length = ks := List.take_of_length_le (by omega)
    rw [et] at tx
    have er := texts_read (h := s'.heap) tx
    have hsz : kA.size = vs.length := by
      have z := tx.length
      rw [Array.length_toList] at z
      omega
    refine keyH_end (h₁ := G) (κ := dataKind s'.heap (ks.map PyData.str)) (fun b o _ q => gs b o q) (g2 kS (decide_eq_false fun z => z rfl)) nk na hka (SortsAt.data er (alike_texts ks) (sortable_texts ks) fun d hd => ?_) hsz hZ fun h' tk c kp hA => ?_
    · obtain ⟨x, _, rfl⟩ := List.mem_map.mp hd
      simp only [PyData.depth]
      omega
    · exact h s' h' tk _ c hJ (fun b o n1 n2 q => kp b o n1 (by rw [g1 b (decide_eq_true n2)]; exact q)) hA ⟨s'.heap, kA.toList, alike_texts ks, rfl, er⟩
theorem sorted_by {β : Type} {R : Value → β → Prop} {l : Addr} {f : Value} {kw : List (Str × Value)} {Q : Value → Shared → Prop} {bs : List β} (key : β → Str) (hl : s.heap.IsList l vs.toArray) (er : EachIs R vs bs) (hZ : bs.length ≤ sizeLine) (hu : A.units + 2 < cLine) (ha1 : argsOk "sorted" ⟨[.ref l], kw⟩)
    (ha2 : ∀ x, argsOk "list.sort" ⟨[.ref x], kw⟩) (ht : ∀ x, Builtin.«list.sort» ⟨[.ref x], kw⟩ = ksk_tree x f b)
    (go : ∀ (a kS : Addr) (e1 : Nat) (h0 : Heap), (∀ b o, s.heap.get? b = some o → h0.get? b = some o) → s.heap.objs.size ≤ a → s.heap.objs.size ≤ kS → kS ≠ a → h0.get? kS = some (seqObj "list" #[] 0) → h0.get? a = some (seqObj "list" #[] e1) →
      ∃ J : Nat → Shared → Prop, ByJ prog w A.in1.in1 a kS e1 f vs (bs.map key) J ∧ J 0 { s with heap := h0 } ∧
        ∀ s' h' tk out c, J vs.length s' → (∀ b o, b ≠ a → b ≠ kS → s'.heap.get? b = some o → h'.get? b = some o) → h'.get? a = some (seqObj "list" (List.toArray out) c) → out.length = bs.length → EachIs R out (bs.mergeSort (dataLe b fun x => .str (key x))) → Q (.ref a) { s' with heap := h', toks := tk }) :
    wpAny (model prog w) A (call (.builtin "sorted") [.ref l] kw) Q E s := by
  refine sorted_of_sort hl (by rw [er.length]; exact hZ) ha1 ha2 fun E' => ?_
  rw [ht]
  have at0 := copyHeap_at s.heap vs
  generalize ha : s.heap.objs.size + 1 = a at at0 ⊢
  have old : ∀ b o, s.heap.get? b = some o → (copyHeap s.heap vs).get? b = some o := fun b o q => copyHeap_old q
  have hsa : a < (copyHeap s.heap vs).objs.size := Heap.lt_size at0
  generalize copyHeap s.heap vs = h1 at at0 old hsa ⊢
  obtain ⟨e1, ho1⟩ : ∃ e1, (h1.update a (Obj.mapSeq fun _ => (#[] : Array Value))).get? a = some (seqObj "list" #[] e1) := ⟨_, get?_update_seq at0 fun _ => #[]⟩
  have hkS : ((h1.update a (Obj.mapSeq fun _ => (#[] : Array Value))).push (seqObj "tuple" vs.toArray 0)).objs.size = h1.objs.size + 1 := by
    rw [size_push', Heap.size_update]
  unfold ksk_tree
  refine wpAny_bind (listItems_at at0 rfl ?_)
  refine wpAny_bind (listUpdate_at at0 rfl ?_ (by rw [List.size_toArray, er.length]; exact hZ) (Nat.zero_le _))
  refine wpAny_bind (seqEpoch_at ho1 rfl ?_)
  refine wpAny_bind (wpAny_newTuple ?_ (by show vs.length ≤ _; rw [er.length]; exact hZ))
  refine wpAny_bind (wpAny_newList ?_ (Nat.zero_le _))
  refine wpAny_holding ?_
  rw [hkS]
  have nka : h1.objs.size + 1 ≠ a := by omega
  have za : s.heap.objs.size ≤ a := by omega
  have zk : s.heap.objs.size ≤ h1.objs.size + 1 := by omega
  have nba : ∀ b o, s.heap.get? b = some o → b ≠ a := fun b o q => Nat.ne_of_lt (Nat.lt_of_lt_of_le (Heap.lt_size q) za)
  obtain ⟨J, B, j0, fin⟩ := go a (h1.objs.size + 1) e1 (((h1.update a (Obj.mapSeq fun _ => (#[] : Array Value))).push (seqObj "tuple" vs.toArray 0)).push (seqObj "list" #[] 0))
    (fun b o q => Heap.get?_push_of_some _ (Heap.get?_push_of_some _ (((Heap.SameBut.update h1 a (Obj.mapSeq fun _ => (#[] : Array Value))).2 b (nba b o q)).trans (old b o q)))) za zk nka
    (by rw [← hkS]; exact Heap.get?_push_size _ rfl) (Heap.get?_push_of_some _ (Heap.get?_push_of_some _ ho1))
  refine rest_by B nka (by rw [List.length_map]; exact er.length.symm) (by rw [er.length]; exact hZ) (by show A.units + 1 + 1 < cLine; omega) j0 fun s' h' tk out c hJ kp hA ko => ⟨rfl, ?_⟩
  have em : (bs.map key).map PyData.str = bs.map fun x => PyData.str (key x) := by
    rw [List.map_map]
    rfl
  rw [em] at ko
  exact fin s' h' tk out c hJ kp hA ((ko.length (by rw [List.length_map]; exact er.length.symm)).trans er.length) (keyedOut_each (fun x => PyData.str (key x)) ko er)
end
end SK
/-! ### sorted(e, key=lambda x: body), e a list of texts, x's key a text -/
namespace SK
open PySem PySem.Spec PyProof.Rows L2 LamX NdefX
abbrev St := L2.St
abbrev CX0 := C8.CX0
abbrev E0 := C8.E0
section
variable {CX : CXT} {P : Program} {w : World} {K : PySem.W.Frag} {mg : Str → Option Value} {base : Heap} {N ps fr : List Str} {F : NF} {f : Addr} {A : Around} {outer : List Env} {s : Shared} {H : Hp} {E : XK} {us : List Value} {vs : List V} {ws : List (Option V)} {k : Nat} {body : Expr} {tb : TE} {Q : VK} {pm ctv : Value}
/-- a lambda with parameters is called -/
theorem lam_run (S : NScope N ps fr F.scope) (hbind : bindArgs (PySem.W.kla_fn F.name F.qual F.params body F.scope F.cl pm (.ref F.c) ctv) ⟨us, []⟩ = pure (ps.zip us)) (ho : s.heap.get? f = some (PySem.W.kla_obj F.name F.qual F.params body F.scope F.cl pm F.c ctv))
    (hco : H F.c = some (CodeO F.c F.qual)) (hr : Room (k + 1) A) (e0 : Env0 P w K mg base A outer s H) (C : CellsAt F.cl fr ws s.heap H) (r : Vals vs us) (hl : vs.length = ps.length) (hbody : PE (ncx CX P w K mg base N F f A outer s H E) body tb)
    (hq : tb (startF N vs ws) H Q) : codeAny (model P w) A (.call (.ref f) ⟨us, []⟩) (CR CX outer P w H s Q E) s := by
  have lim : s.heap.NoLimit := e0.mod.nolimit.keeps fun b o e => (e0.bs b o e).1
  refine PySem.W.kla_callFunE hr.depth ho rfl S.co S.gen rfl (codeO_at e0.hok hco) ?_
  rw [hbind]
  refine wpAny_pure (wpAny_newFunctionEnv S.nocell (fun ⟨n, _⟩ hy => S.par n (List.of_mem_zip hy).1) (fun h₁ hns hsb => ⟨lim.fresh _ hsb, ?_⟩) S.kind)
  show codeAny _ _ (.expr body (envF F f s.heap.objs.size)) _ _
  have kp : ∀ b o, s.heap.get? b = some o → h₁.get? b = some o := fun b o e => hsb.extBut b o (Nat.ne_of_lt (Heap.lt_size e)) (Heap.get?_push_of_some _ e)
  have J := inv_startN (CX := CX) (f := f) (E := E) (tk := s.toks + (ps.zip us).length) S hr.hd e0 hl r C hns kp
  refine PySem.W.kla_codeExpr (wpAny_mono (hbody.run [] _ _ H Q J hq) (fun v s' hs => ?_) fun e s' hs => hs)
  obtain ⟨x, H', J', rv, q⟩ := hs
  exact ⟨x, H', J'.os, J'.bare, J'.base, J'.hok, rv, q⟩
end
/-- what the sort knows of its two lists -/
def aO (a : Addr) (e1 : Nat) : HO := .ext fun h => h.get? a = some (seqObj "list" #[] e1)
def kO (kS : Addr) (ks : List Str) : HO := .ext fun h => ∃ kA e, h.get? kS = some (seqObj "list" kA e) ∧ Texts kA.toList ks
theorem aO_ok {P : Program} {w : World} {H : Hp} {h : Heap} {a : Addr} {e1 : Nat} (q : h.get? a = some (seqObj "list" #[] e1)) : ObjOk P w H h a (aO a e1) := ⟨q, ⟨_, q⟩, fun h1 h2 z st => st _ z⟩
theorem kO_ok {P : Program} {w : World} {H : Hp} {h : Heap} {a : Addr} {ks : List Str} {kA : Array Value} {e : Nat} (q : h.get? a = some (seqObj "list" kA e)) (t : Texts kA.toList ks) : ObjOk P w H h a (kO a ks) :=
  ⟨⟨kA, e, q, t⟩, ⟨_, q⟩, fun h1 h2 ⟨k1, e1, z, t1⟩ st => ⟨k1, e1, st _ z, t1⟩⟩
theorem aO_at {P : Program} {w : World} {H : Hp} {h : Heap} {a : Addr} {e1 : Nat} (x : HOk P w H h) (e : H a = some (aO a e1)) : h.get? a = some (seqObj "list" #[] e1) := (x a _ e).1
theorem kO_at {P : Program} {w : World} {H : Hp} {h : Heap} {a : Addr} {ks : List Str} (x : HOk P w H h) (e : H a = some (kO a ks)) : ∃ kA e, h.get? a = some (seqObj "list" kA e) ∧ Texts kA.toList ks := (x a _ e).1
theorem vals_texts : ∀ {ws : List Str} {us : List Value}, Vals (ws.map V.str) us → Texts us ws
  | [], [], _ => .nil
  | [], _ :: _, h => by cases h
  | _ :: _, [], h => by cases h
  | w :: ws, u :: us, h => by
    cases h with
    | cons h1 h2 => exact .cons h1 (vals_texts h2)
theorem texts_vals : ∀ {us : List Value} {ws : List Str}, Texts us ws → Vals (ws.map V.str) us
  | _, _, .nil => .nil
  | _, _, .cons h1 h2 => .cons h1 (texts_vals h2)
theorem each_get {α β : Type} {R : α → β → Prop} : ∀ {us : List α} {ws : List β}, PySem.W.EachIs R us ws → ∀ {i : Nat} {u : α} {x : β}, us[i]? = some u → ws[i]? = some x → R u x
  | _, _, .nil, i, u, x, h, _ => by simp at h
  | _, _, .cons r t, 0, u, x, h1, h2 => by
    simp at h1 h2
    subst h1 h2
    exact r
  | _, _, .cons r t, i + 1, u, x, h1, h2 => each_get t (by simpa using h1) (by simpa using h2)
theorem texts_snoc {us : List Value} {ks : List Str} {u : Value} {k : Str} : Texts us ks → IsText u k → Texts (us ++ [u]) (ks ++ [k])
  | .nil, h => .cons h .nil
  | .cons a t, h => .cons a (texts_snoc t h)
/-- the reading, behind the list: its words, the key of each by the lambda's body, then the new list in their order -/
def sTail (K : PySem.W.Frag) (T : List (Addr × Str)) (H0 : Hp) (N : List Str) (js : List Nat) (tb : TE) (σ : St) (Q : VK) (x : V) (H1 : Hp) : Prop := ∃ (l : Addr) (ws : List Str) (key : Str → Str), x = .ref l ∧ SqL K H1 l (ws.map V.str) ∧ Tabs T H1 ∧ ExtN H0 H1 ∧
  ∀ H2, ExtN H1 H2 → Tabs T H2 → (∀ y ∈ ws, ∀ H3, Same H2 H3 → tb (startF N [.str y] (js.map (slotAt σ))) H3 fun v H4 => v = .str (key y) ∧ Same H3 H4) ∧
    ∀ H5 p, H2 p = none → Same H2 H5 → H5 p = some (.lst ((ws.mergeSort (PySem.W.dataLe false fun x => .str (key x))).map V.str)) → Q (.ref p) H5
def tSort (K : PySem.W.Frag) (T : List (Addr × Str)) (H0 : Hp) (N : List Str) (js : List Nat) (te tb : TE) : TE := fun σ H Q => te σ H (sTail K T H0 N js tb σ Q)
theorem extN_seq {K : PySem.W.Frag} {H H' : Hp} {l : Addr} {xs : List V} (e : ExtN H H') (h : SqL K H l xs) : SqL K H' l xs := by
  rcases h with (h | ⟨o, h⟩) | h
  · exact .inl (.inl (e _ _ h fun ps z => nomatch z))
  · exact .inl (.inr ⟨o, e _ _ h fun ps z => nomatch z⟩)
  · exact .inr h
section
variable {X : Cx}
theorem pe_sortkey {T : List (Addr × Str)} {c P : Addr} {k : Nat} {e body : Expr} {params : Arguments} {scope : Scope} {te tb : TE} {p lpos kpos pos : Pos} {N fr : List Str} {a1 : Str} {js : List Nat} (hg : Gl X "sorted") (hm : X.mg "sorted" = none) (ha : PE X e te) (TB : TabB X.base X.mg c P) (hcode : X.env.code = .ref c)
    (hmT : (P, X.env.qual ++ "<lambda>") ∈ T) (hu : ∀ p ∈ T, p.1 = P → p.2 = X.env.qual ++ "<lambda>") (hr : Room (k + 3) X.A) (hex : X.ex = []) (S : NScope N [a1] fr scope)
    (hnd : ndefB X.env.scope scope fr = true) (hjs : js.map (fun j => X.N[j]?) = fr.map some) (hdef : defaultsOf params X.env = ([], []))
    (hbind : ∀ (q : Str) (cl : List (Str × Addr)) (pm cv ctv v : Value), bindArgs (PySem.W.kla_fn "<lambda>" q params body scope cl pm cv ctv) ⟨[v], []⟩ = pure [(a1, v)])
    (hbody : ∀ (A : Around) (outer : List Env) (s : Shared) (H : Hp) (f c' : Addr) (cl : List (Str × Addr)), Room k (A.deeper (envF ⟨"<lambda>", X.env.qual ++ "<lambda>", params, [], scope, cl, c'⟩ f s.heap.objs.size)) →
      PE (ncx CX0 X.prog X.w X.K X.mg X.base N ⟨"<lambda>", X.env.qual ++ "<lambda>", params, [], scope, cl, c'⟩ f A outer s H E0) body tb)
    (hs1 : starEach [e] X.env = [(false, eval e X.env)] := by rfl) :
    PE X (.Call (.Name "sorted" p) [e] [⟨some "key", .Lambda params body scope lpos, kpos⟩] pos) (tSort X.K T X.H_0 N js te tb) := by
  have hfree := ndef_free hnd
  have hfr := ndef_fr hnd
  refine ⟨fun pins s σ H Q I h => ?_⟩
  refine wpAny_Call_Name_kw (ld_blt I hg hm PyProof.Rows.boot_sorted ?_)
  refine PyProof.Rows.callWith_kw ?_ (by rw [hs1]; rfl) (by rw [hs1]; rfl) (by rfl) (by rfl)
  refine thn ((pa_cons ha pa_nil hs1).run pos pins s σ H (fun vs H1 => match vs with
    | [x] => sTail X.K T X.H_0 N js tb σ Q x H1
    | _ => False) I h) fun us s1 ⟨vs, H1, I1, r1, q1⟩ => ?_
  match vs, r1, q1 with
  | [x], r1, q1 =>
  obtain ⟨l, ws, key, rfl, hS, hT, h01, q⟩ := q1
  obtain ⟨u, rfl, ru⟩ := vals1 r1
  obtain rfl : u = Value.ref l := ru
  have hcl : ∀ y ∈ scope.names, y.2 = .free → ∃ c, X.env.cells.lookup y.1 = some c := fun y hy e => (hfree y hy e).elim (fun z => I1.ok.has _ (.inl z)) fun z => I1.ok.has _ (.inr z)
  show wpAny _ _ (evalAll ((do let v ← eval (.Lambda params body scope lpos) X.env; standAt pos; pure v) :: (backToKw pos (keywordEach [] X.env)).map (·.2))) _ _ s1
  refine wpAny_evalAll_cons (wpAny_bind (lam_make2 I1 TB hcode hmT hu hT hdef hcl fun f c' pm ctv H2 s2 I2 eN T2 ho hfn hfs hco => wpAny_bind (wpAny_standAt (wpAny_pure ?_))))
  refine wpAny_evalAll_nil ?_
  show wpAny _ _ (call (.builtin "sorted") [.ref l] [(Str.ofString "key", .ref f)]) _ _ s2
  obtain ⟨qa, qend⟩ := q H2 eN T2
  obtain ⟨its, rv, hl, hz⟩ := I2.list (extN_seq eN hS)
  rw [List.length_map] at hz
  have hu2 : X.A.units + 2 < cLine := by
    have z := hr.un
    omega
  have tx := vals_texts rv
  refine sorted_by (b := false) key hl.isList tx hz hu2 (PyProof.Rows.ksk_s1 _ _) (fun x => PyProof.Rows.ksk_l1 _ _) (fun x => PyProof.Rows.ksk_t1 _ _) fun a kS e1 h0 k0 za zk nka hk ha0 => ?_
  have na : H2 a = none := I2.hok.fresh za
  have nk : H2 kS = none := I2.hok.fresh zk
  have fr0 : ∀ b, H2 b = none → Fr0 X.H_0 b := fun b n o e => by
    by_cases ht : ∃ ps, o = .tbl ps
    · exact ht
    · have z := eN b o (h01 b o e fun ps w => ht ⟨ps, w⟩) fun ps w => ht ⟨ps, w⟩
      rw [n] at z
      cases z
  refine ⟨fun i s' => ∃ H', Inv X pins σ H' s' ∧ Same H2 H' ∧ H' a = some (aO a e1) ∧ H' kS = some (kO kS ((ws.map key).take i)) ∧ s'.heap.get? f = some (PySem.W.kla_obj "<lambda>" (X.env.qual ++ "<lambda>") params body scope (cloFrom X.env.cells scope.names []) pm c' ctv) ∧ H' f = none,
    ⟨fun i s' ⟨H', I', sm, oa, ok, of, nf⟩ => ?_, fun i v k0 hv hk0 s' ⟨H', I', sm, oa, ok, of, nf⟩ => ?_⟩, ?_, fun s' h' tk out c0 ⟨H', I', sm, oa, ok, of, nf⟩ kp hA hlen er => ?_⟩
  · obtain ⟨kA, e, z1, z2⟩ := kO_at I'.hok ok
    exact ⟨kA, e, z1, z2, aO_at I'.hok oa⟩
  · obtain ⟨y, hy, rfl⟩ : ∃ y, ws[i]? = some y ∧ key y = k0 := by
      rw [List.getElem?_map] at hk0
      cases e : ws[i]? with
      | none =>
        rw [e] at hk0
        cases hk0
      | some y =>
        rw [e] at hk0
        exact ⟨y, rfl, Option.some.inj hk0⟩
    obtain ⟨t, rfl⟩ := each_get tx hv hy
    have C := cells_of I' (Caps.made I'.ok hfree hfr hjs)
    have hr2 : Room (k + 1) X.A.in1.in1 := hr.in1.in1
    have rc := lam_run (CX := CX0) (E := E0) (F := ⟨"<lambda>", X.env.qual ++ "<lambda>", params, [], scope, cloFrom X.env.cells scope.names [], c'⟩) (f := f) (us := [.str y t]) (vs := [.str y]) (Q := fun v H4 => v = .str (key y) ∧ Same H' H4) S (hbind _ _ _ _ _ _) of (sm _ _ hco) hr2 I'.env0.in1.in1 C
      (.cons ⟨t, rfl⟩ .nil) rfl (hbody _ _ _ _ _ _ _ (hr2.deeper _)) (qa y (List.mem_of_getElem? hy) H' sm)
    refine wpAny_call (codeAny_mono rc fun r s3 hq => ?_)
    cases r with
    | error e => exact (show False from hq).elim
    | ok fl =>
      cases fl with
      | next => exact (show False from hq).elim
      | brk => exact (show False from hq).elim
      | cont => exact (show False from hq).elim
      | ret u =>
        obtain ⟨v2, H4, os, bare, un, hok, rv2, rfl, sm4⟩ := (show CE X.stack X.prog X.w H' s' _ u s3 from hq)
        obtain ⟨hh, g, d, t4, os'⟩ := s3
        obtain rfl : os' = s'.os := os
        have I4 : Inv X pins σ H4 ⟨hh, g, d, t4, s'.os⟩ := I'.call (h' := hh) (g' := g) (d' := d) (t' := t4) (ch := []) un hok bare (fun b z => absurd z (by simp))
        obtain ⟨kA, e, nk4, tx4⟩ := kO_at I4.hok (sm4 _ _ ok)
        have nfk : f ≠ kS := fun z => by
          rw [z, ok] at nf
          cases nf
        have of4 := un.keep f _ of nf hfs (by simp)
        have nf4 := un.free f _ of nf (by simp)
        refine ⟨rv2, kA, e, nk4, tx4, fun h3 e3 hsb hk3 => ?_⟩
        have tx5 : Texts (kA.push u).toList ((ws.map key).take (i + 1)) := by
          have e5 : (ws.map key).take (i + 1) = (ws.map key).take i ++ [key y] := by
            rw [List.take_add_one, List.getElem?_map, hy]
            rfl
          rw [e5, Array.toList_push]
          exact texts_snoc tx4 rv2
        refine ⟨upd H4 kS (kO kS ((ws.map key).take (i + 1))), I4.write (x := kS) (e := kS) (by rw [sm4 _ _ ok]; trivial) (.inl rfl) (fun b o hb z => (hsb.2 b hb).trans z) ⟨_, hk3⟩ (kO_ok hk3 tx5), fun b o z => ?_, ?_, upd_same, ?_, ?_⟩
        · rw [upd_ne (ne_of_none z nk)]
          exact sm4 _ _ (sm _ _ z)
        · rw [upd_ne nka.symm]
          exact sm4 _ _ oa
        · exact (hsb.2 f nfk).trans of4
        · rw [upd_ne nfk]
          exact nf4
  · obtain ⟨G, g1, g2⟩ := restrict h0 fun b => decide (b ≠ kS)
    have lt : ∀ b o, s2.heap.get? b = some o → b ≠ kS ∧ b ≠ a := fun b o z => ⟨Nat.ne_of_lt (Nat.lt_of_lt_of_le (Heap.lt_size z) zk), Nat.ne_of_lt (Nat.lt_of_lt_of_le (Heap.lt_size z) za)⟩
    have gG : ∀ b o, b ≠ kS → h0.get? b = some o → G.get? b = some o := fun b o n z => by
      rw [g1 b (decide_eq_true n)]
      exact z
    have Gh : ∀ b o, G.get? b = some o → h0.get? b = some o := fun b o z => by
      by_cases hb : b = kS
      · rw [hb, g2 kS (decide_eq_false fun z => z rfl)] at z
        cases z
      · rw [← g1 b (decide_eq_true hb)]
        exact z
    have Ia := I2.laidN (h' := G) (t' := s2.toks) (a := a) (o := aO a e1) (fun b o z => gG b o (lt b o z).1 (k0 b o z)) (Heap.get?_none_of_le za) na (aO_ok (gG a _ nka.symm ha0))
    have nk2 : upd H2 a (aO a e1) kS = none := by
      rw [upd_ne nka]
      exact nk
    have Ik := Ia.laidN (h' := h0) (t' := s2.toks) (a := kS) (o := kO kS []) Gh (g2 kS (decide_eq_false fun z => z rfl)) nk2 (kO_ok hk .nil)
    refine ⟨_, Ik, fun b o z => ?_, ?_, ?_, k0 _ _ ho, ?_⟩
    · rw [upd_ne (ne_of_none z nk), upd_ne (ne_of_none z na)]
      exact z
    · rw [upd_ne nka.symm, upd_same]
    · rw [upd_same, List.take_zero]
    · rw [upd_ne (lt _ _ ho).1, upd_ne (lt _ _ ho).2]
      exact hfn
  · obtain ⟨G1, a1, a2, I5⟩ := I'.untrack ok (fr0 kS nk) hex
    obtain ⟨G2, b1, b2, I6⟩ := I5.untrack (a := a) (by rw [delH_ne nka.symm]; exact oa) (fr0 a na) hex
    have hlm : ((ws.mergeSort (PySem.W.dataLe false fun x => .str (key x))).map V.str).length ≤ sizeLine := by
      rw [List.length_map, List.length_mergeSort]
      exact hz
    have I7 := I6.laidN (h' := h') (t' := tk) (a := a) (o := .lst ((ws.mergeSort (PySem.W.dataLe false fun x => .str (key x))).map V.str))
      (fun b o z => kp b o (fun w => by rw [w, b2] at z; cases z) (fun w => by have z2 := b1 b o z; rw [w] at z2; have z3 := z2; rw [a2] at z3; cases z3) (a1 _ _ (b1 _ _ z))) b2 delH_same ⟨hlm, out, c0, texts_vals er, hA⟩
    refine ⟨.ref a, _, I7, rfl, qend _ a na (fun b o z => ?_) upd_same⟩
    rw [upd_ne (ne_of_none z na), delH_ne (ne_of_none z na), delH_ne (ne_of_none z nk)]
    exact sm _ _ z
end
end SK
/-! ### enumerate of a text and of a tuple; dict comprehensions over any walk -/
namespace SK
open PySem PySem.Spec PyProof.Rows L2 LamX NdefX
def ItES (x : Str) : It := ⟨fun i _ => i < x.cps.size, fun i H v H' => ∃ T c, v = .ref T ∧ H T = none ∧ H' = upd H T (.tup [.int (i : Nat), .str ⟨#[c]⟩]) ∧ x.cps[i]? = some c, fun i _ => i = x.cps.size⟩
def ItET (a : Addr) (xs : List V) : It := ⟨fun i H => H a = some (.tup xs) ∧ i < xs.length, fun i H v H' => ∃ T x, v = .ref T ∧ H T = none ∧ H' = upd H T (.tup [.int (i : Nat), x]) ∧ xs[i]? = some x, fun i H => H a = some (.tup xs) ∧ i = xs.length⟩
/-- a pair that enumerate hands out -/
theorem enum_turn {X : Cx} {pins : List (Addr × Obj)} {s : Shared} {σ : St} {H : Hp} {E : Value → Shared → Prop} {J : It} {fp : List Addr} {n i : Nat} {Pd : Nat → Value → Prop} {Sd : Nat → Heap → Prop} {e it : Addr} {elts : List Expr} {kk : Nat} {tpos : Pos} {tn : Nat → Heap → Prop} (I : Inv X pins σ H s)
    (D : PySem.Draws X.prog X.w X.A.in1 it fp n Pd Sd) (hf : ∀ b ∈ [e, it], FpOk X pins H b) (he : ∃ old, IsEnum s.heap e it ((i : Nat) : Int) old) (hst : Sd i s.heap) (hlt : i < n) (hne : e ≠ it) (hef : e ∉ fp)
    (hit : ∃ o, s.heap.get? it = some o) (rel : ∀ u, Pd i u → ∃ x, RelV x u ∧ ∀ H' T, H T = none → H' = upd H T (.tup [.int (i : Nat), x]) → J.yld i H (.ref T) H') (nx : ∀ h' h'', Sd (i + 1) h' → (∀ b o, b ≠ e → h'.get? b = some o → h''.get? b = some o) → (∃ old, IsEnum h'' e it (((i + 1 : Nat)) : Int) old) → tn (i + 1) h'') :
    wpAny (model X.prog X.w) X.A (pyNext (.ref e)) (fun r s1 => ∃ u, r = some u ∧
      wpAny (model X.prog X.w) X.A (letOwnedTupleGo (.Tuple elts kk tpos) (.ref e) u) (fun _ s2 => ∃ x H', Inv X pins σ H' s2 ∧ RelV x u ∧ J.yld i H x H' ∧ tn (i + 1) s2.heap ∧ ∀ b ∈ [e, it], H' b = none) E s1) E s := by
  obtain ⟨old, he⟩ := he
  have hel : e < s.heap.objs.size := Heap.lt_size he
  have hil : it < s.heap.objs.size := by
    obtain ⟨o, q⟩ := hit
    exact Heap.lt_size q
  refine wpAny_pyNext_enum_itemD D he hst hlt hne hef fun u h' tk hP ho hst' hT hsz hk => ?_
  obtain ⟨x, ru, hy⟩ := rel u hP
  refine ⟨_, rfl, wpAny_letOwnedTupleGo_enum (s := { s with heap := h', toks := tk + 1 }) ho fun h'' he' sb => ?_⟩
  have hT2 : h''.get? s.heap.objs.size = some { cls := .type "tuple", data := .seq #[.int i tk, u] } := (sb.2 _ (Nat.ne_of_gt hel)).trans hT
  have nw : ObjOk X.prog X.w (upd H s.heap.objs.size (.tup [.int (i : Nat), x])) h'' s.heap.objs.size (.tup [.int (i : Nat), x]) :=
    ⟨by show 2 ≤ sizeLine; decide, [.int i tk, u], .cons ⟨_, rfl⟩ (.cons ru .nil), ⟨_, hT2, rfl, _, rfl⟩⟩
  have I1 : Inv X pins σ (upd H s.heap.objs.size (.tup [.int (i : Nat), x])) { s with heap := h'', toks := tk + 1 } :=
    I.turnedNew (ch := [e, it]) (fun b ob hb q => (sb.2 b (fun z => hb (by simp [z]))).trans (hk b ob (fun z => hb (by simp [z])) (fun z => hb (by simp [z])) q)) hf (Nat.le_refl _) nw
  refine ⟨.ref s.heap.objs.size, _, I1, rfl, hy _ _ (I.hok.fresh (Nat.le_refl _)) rfl, nx h' h'' hst' (fun b o hb q => (sb.2 b hb).trans q) ⟨u, ?_⟩, fun b hb => ?_⟩
  · have e1 : ((i + 1 : Nat) : Int) = (i : Int) + 1 := by omega
    rw [e1]
    exact he'
  · have hb' : b < s.heap.objs.size := by
      have e' : b = e ∨ b = it := by simpa using hb
      rcases e' with z | z
      · rw [z]; exact hel
      · rw [z]; exact hil
    rw [upd_ne (Nat.ne_of_lt hb')]
    exact (hf b hb).1
theorem turn_enumS {P : Program} {w : World} {K : PySem.W.Frag} {elts : List Expr} {kk : Nat} {tpos : Pos} (x : Str) (t : Tok) (e it : Addr) :
    Turn P w K (.Tuple elts kk tpos) (ItES x) [e, it] e (fun i h => (∃ old, IsEnum h e it ((i : Nat) : Int) old) ∧ h.IsStrIter it (strIterType x) x t i ∧ e ≠ it) where
  mem := by simp
  obj := fun i h st b hb => by
    obtain ⟨⟨old, he⟩, ⟨o, ho, hc, hd⟩, _⟩ := st
    have e' : b = e ∨ b = it := by simpa using hb
    rcases e' with z | z
    · rw [z]
      exact ⟨_, he, fun v q => nomatch q⟩
    · rw [z]
      exact ⟨o, ho, fun v q => by rw [hd] at q; cases q⟩
  keep := fun i h h' st k => by
    obtain ⟨⟨old, he⟩, ⟨o, ho, r⟩, hne⟩ := st
    exact ⟨⟨old, k e (by simp) _ he⟩, ⟨o, k it (by simp) o ho, r⟩, hne⟩
  item := by
    intro X hP hw hK hc i pins s σ H E I hf st hg
    subst hP hw hK
    obtain ⟨he, hit, hne⟩ := st
    have hli : ∃ o, s.heap.get? it = some o := by
      obtain ⟨o, q, _⟩ := hit
      exact ⟨o, q⟩
    refine enum_turn (J := ItES x) (tn := fun i h => (∃ old, IsEnum h e it ((i : Nat) : Int) old) ∧ h.IsStrIter it (strIterType x) x t i ∧ e ≠ it) I (PySem.Draws.text (A := X.A.in1) (I.ok.hd hc) it x t) hf he hit hg hne (by simpa using hne) hli (fun u ⟨c, tu, hx, eu⟩ => ⟨.str ⟨#[c]⟩, ⟨tu, eu⟩, fun H' T hT eH => ⟨T, c, rfl, hT, eH, hx⟩⟩) fun h' h'' hs k hE => ?_
    obtain ⟨o, ho, r⟩ := hs
    exact ⟨hE, ⟨o, k it o (Ne.symm hne) ho, r⟩, hne⟩
  done := by
    intro X hP hw hK hc i pins s σ H E I hf st hg
    subst hP hw hK
    obtain ⟨⟨old, he⟩, hit, hne⟩ := st
    obtain ⟨f0, f1, f2, f3, f4, f5⟩ := hf it (by simp)
    have hg : i = x.cps.size := hg
    rw [hg] at hit
    exact wpAny_pyNext_enum_endD (PySem.Draws.text (A := X.A.in1) (I.ok.hd hc) it x t) he hit fun h' eb => ⟨rfl, I.turned (t' := s.toks) (fun b o hb q => eb b o hb q) f0 f1 f3 f4 f5⟩
  self := fun A i s Q E st h => let ⟨⟨_, he⟩, _⟩ := st; wpAny_pyIter_enum he h
theorem turn_enumT {P : Program} {w : World} {K : PySem.W.Frag} {elts : List Expr} {kk : Nat} {tpos : Pos} (a : Addr) (xs : List V) (e it : Addr) :
    Turn P w K (.Tuple elts kk tpos) (ItET a xs) [e, it] e (fun i h => (∃ old, IsEnum h e it ((i : Nat) : Int) old) ∧ h.IsTupleIter it a i ∧ e ≠ it) where
  mem := by simp
  obj := fun i h st b hb => by
    obtain ⟨⟨old, he⟩, ⟨o, ho, hc, hd⟩, _⟩ := st
    have e' : b = e ∨ b = it := by simpa using hb
    rcases e' with z | z
    · rw [z]
      exact ⟨_, he, fun v q => nomatch q⟩
    · rw [z]
      exact ⟨o, ho, fun v q => by rw [hd] at q; cases q⟩
  keep := fun i h h' st k => by
    obtain ⟨⟨old, he⟩, hi, hne⟩ := st
    exact ⟨⟨old, k e (by simp) _ he⟩, hi.at fun o q => k it (by simp) o q, hne⟩
  item := by
    intro X hP hw hK hc i pins s σ H E I hf st hg
    subst hP hw hK
    obtain ⟨he, hit, hne⟩ := st
    obtain ⟨ha, hlt⟩ := hg
    obtain ⟨its, rv, p, hz⟩ := I.tuple (.inl (.inl ha))
    have hl := rv.length
    have nat : ∀ b ∈ [e, it], a ≠ b := fun b hb z => by
      have q := (hf b hb).1
      rw [← z, ha] at q
      cases q
    have hli : ∃ o, s.heap.get? it = some o := by
      obtain ⟨o, q, _⟩ := hit
      exact ⟨o, q⟩
    have hp : s.heap.IsTuple a its.toArray := p
    refine enum_turn (J := ItET a xs) (tn := fun i h => (∃ old, IsEnum h e it ((i : Nat) : Int) old) ∧ h.IsTupleIter it a i ∧ e ≠ it) I (PySem.Draws.tuple (A := X.A.in1) (I.ok.hd hc) it a (nat it (by simp)) its.toArray) hf he ⟨hit, hp⟩ (by simpa [← hl] using hlt) hne (by simp only [List.mem_cons, List.mem_nil_iff, or_false, not_or]; exact ⟨hne, Ne.symm (nat e (by simp))⟩) hli (fun u hu => ?_) fun h' h'' hs k hE => ⟨hE, hs.1.at fun o q => k it o (Ne.symm hne) q, hne⟩
    obtain ⟨x, hx⟩ : ∃ x, xs[i]? = some x := ⟨_, List.getElem?_eq_getElem hlt⟩
    obtain ⟨u2, hu2, ru⟩ := rv.get hx
    have e2 : u2 = u := by
      have z : its.toArray[i]? = some u2 := by simpa using hu2
      exact Option.some.inj (z.symm.trans hu)
    subst e2
    exact ⟨x, ru, fun H' T hT eH => ⟨T, x, rfl, hT, eH, hx⟩⟩
  done := by
    intro X hP hw hK hc i pins s σ H E I hf st hg
    subst hP hw hK
    obtain ⟨⟨old, he⟩, hit, hne⟩ := st
    obtain ⟨ha, hlt⟩ := hg
    obtain ⟨its, rv, p, hz⟩ := I.tuple (.inl (.inl ha))
    have hl := rv.length
    obtain ⟨f0, f1, f2, f3, f4, f5⟩ := hf it (by simp)
    have nat : a ≠ it := fun z => by
      rw [← z, ha] at f0
      cases f0
    have hp : s.heap.IsTuple a its.toArray := p
    have ei : i = its.toArray.size := by
      rw [List.size_toArray, ← hl]
      exact hlt
    rw [ei] at hit
    exact wpAny_pyNext_enum_endD (PySem.Draws.tuple (A := X.A.in1) (I.ok.hd hc) it a nat its.toArray) he ⟨hit, hp⟩ fun h' eb => ⟨rfl, I.turned (t' := s.toks) (fun b o hb q => eb b o hb q) f0 f1 f3 f4 f5⟩
  self := fun A i s Q E st h => let ⟨⟨_, he⟩, _⟩ := st; wpAny_pyIter_enum he h
section
variable {X : Cx}
def iEnumS (ta : TA) : TI := fun σ H R => ta σ H fun vs H1 => ∃ x, vs = [.str x] ∧ R (ItES x) H1
theorem pi_enumS {e : Expr} {ta : TA} {p pos tpos : Pos} {elts : List Expr} {kk : Nat} (hg : Gl X "enumerate") (hm : X.mg "enumerate" = none) (ha : PA X [e] ta) (hs : starEach [e] X.env = [(false, eval e X.env)] := by rfl) :
    PI X (.Tuple elts kk tpos) (.Call (.Name "enumerate" p) [e] [] pos) (iEnumS ta) := by
  refine ⟨fun pins s σ H R I h => ?_⟩
  refine Call_ (ld_blt I hg hm boot_enumerate (PyProof.Rows.callWith_type1 (thn (ha.run pos pins s σ H _ I h) fun us s1 ⟨vs, H1, I1, r1, q1⟩ => ?_) hs rfl))
  obtain ⟨x, rfl, q⟩ := q1
  obtain ⟨u, rfl, t, rfl⟩ := vals1 r1
  refine call_enumerate_str fun h' he hit hsz hk => wpAny_pyIter_enum he ?_
  have I2 : Inv X pins σ H1 { s1 with heap := h' } := I1.kept (t' := s1.toks) hk
  refine ⟨s1.heap.objs.size + 1, [s1.heap.objs.size + 1, s1.heap.objs.size], _, _, H1, rfl, I2, turn_enumS x t (s1.heap.objs.size + 1) s1.heap.objs.size, ⟨⟨.none, he⟩, hit, Nat.succ_ne_self _⟩, fun b hb => ?_, q⟩
  have e' : b = s1.heap.objs.size + 1 ∨ b = s1.heap.objs.size := by simpa using hb
  have hle : s1.heap.objs.size ≤ b := by
    rcases e' with z | z
    · rw [z]; exact Nat.le_add_right _ _
    · rw [z]; exact Nat.le_refl _
  exact I1.fpOk hle (I1.hok.fresh hle)
def iEnumT (ta : TA) : TI := fun σ H R => ta σ H fun vs H1 => ∃ a xs, vs = [.ref a] ∧ H1 a = some (.tup xs) ∧ R (ItET a xs) H1
theorem walk_enumS {x : Str} : Walk (ItES x) x.cps.size (fun _ => True) (YPair (fun i => some (.int (i : Nat))) (fun i => x.cps[i]?.map fun c => .str ⟨#[c]⟩)) := by
  refine ⟨fun _ _ hi _ => hi, fun _ _ => rfl, fun i H v H' _ _ y => ?_⟩
  obtain ⟨T, c, h1, h2, h3, h4⟩ := y
  exact ⟨T, _, _, h1, h2, h3, rfl, by show x.cps[i]?.map _ = _; rw [h4]; rfl⟩
theorem walk_enumT {a : Addr} {xs : List V} : Walk (ItET a xs) xs.length (fun H => H a = some (.tup xs)) (YPair (fun i => some (.int (i : Nat))) (fun i => xs[i]?)) := by
  refine ⟨fun _ _ hi q => ⟨q, hi⟩, fun _ q => ⟨q, rfl⟩, fun i H v H' _ _ y => ?_⟩
  obtain ⟨T, x, h1, h2, h3, h4⟩ := y
  exact ⟨T, _, _, h1, h2, h3, rfl, h4⟩
end
/-- a dict comprehension over a walk -/
theorem dc_it {J : It} {n : Nat} {G : Hp → Prop} {Y : Nat → Hp → V → Hp → Prop} (w : Walk J n G Y) {g : TG} {tt : TT} {tk tv : TE} {vs : List Nat} {σ : St} {H1 : Hp} {D : Addr} {Qd : Hp → Prop} (Pv : Nat → Hp → Prop) (h0 : Pv 0 (upd H1 D (.dK []))) (hG : ∀ i H, i ≤ n → Pv i H → G H)
    (hs : ∀ i x H H', i < n → Pv i H → Y i H x H' → g x (wipe σ vs) H' fun σ2 H2 => wipe σ2 vs = wipe σ vs ∧ tt σ2 H2 fun b H3 =>
      if b = true then tk σ2 H3 fun y H4 => tv σ2 H4 fun z H5 => ∃ kvs k, y = kV k ∧ H5 D = some (.dK kvs) ∧ kvs.length < sizeLine ∧ Pv (i + 1) (upd H5 D (.dK (putK kvs k z))) else Pv (i + 1) H3) (hd : ∀ H, Pv n H → Qd H) :
    ∃ W : Nat → Nat → Hp → Prop, (∃ m, W 0 m (upd H1 D (.dK []))) ∧ ∀ i m H, W i m H →
      (J.stop i H ∧ Qd H) ∨ (J.go i H ∧ ∃ Nx : Hp → Prop, (∀ H', Nx H' → ∃ m', m' < m ∧ W (i + 1) m' H') ∧ ∀ x H', J.yld i H x H' → g x (wipe σ vs) H' fun σ2 H2 => wipe σ2 vs = wipe σ vs ∧ tt σ2 H2 fun b H3 =>
        if b = true then tk σ2 H3 fun y H4 => tv σ2 H4 fun z H5 => ∃ kvs k, y = kV k ∧ H5 D = some (.dK kvs) ∧ kvs.length < sizeLine ∧ Nx (upd H5 D (.dK (putK kvs k z))) else Nx H3) := by
  refine ⟨fun i m H => m + i = n ∧ Pv i H, ⟨n, rfl, h0⟩, fun i m H ⟨em, p⟩ => ?_⟩
  have q := hG i H (by omega) p
  rcases Nat.lt_or_ge i n with hlt | hge
  · exact .inr ⟨w.goes i H hlt q, Pv (i + 1), fun H' p' => ⟨n - (i + 1), by omega, by omega, p'⟩, fun x H' y => hs i x H H' hlt p (w.yields i H x H' hlt q y)⟩
  · obtain rfl : i = n := by omega
    exact .inl ⟨w.stops H q, hd H p⟩
end SK
namespace SK
open PySem PySem.Spec PyProof.Rows L2 LamX NdefX
/-- enumerate(v) with no start -/
theorem enum_new1 {v : Value} {o : Obj} {C : Heap → Prop} (B : Begins v o C) :
    Meets (Builtin.«enumerate.__new__» ⟨[.type "enumerate", v], []⟩) (fun _ R s => C s.heap ∧
      R (.ok (.ret (.ref (s.heap.push o).objs.size))) { s with heap := (s.heap.push o).push { cls := .type "enumerate", data := .fields #[.none, .bool false, .ref s.heap.objs.size, rawInt 0, .none, .none] } }) :=
  .of_wp fun prog w A R s h => by
    obtain ⟨hp, g, d, tk, os⟩ := s
    obtain ⟨h1, h⟩ := h
    have sub0 := sub_enumerate
    have it0 : ∀ {A' : Around} {E : Value → Shared → Prop} {Q : Value → Shared → Prop}, Q (.ref hp.objs.size) ⟨hp.push o, g, d, tk, os⟩ → wpAny (model prog w) A' (pyIter v) Q E ⟨hp, g, d, tk, os⟩ :=
      fun q => B.iter prog w _ _ ⟨hp, g, d, tk, os⟩ _ h1 q
    wp_walk using it0
    refine wpAny_stack_any fun st => wpAny_pure ?_
    split
    · rename_i c _ _ _ _ _
      cases (c == Value.type "enumerate")
      all_goals
        wp_walk using it0
        exact ⟨_, rfl, h⟩
    · wp_walk using it0
      exact ⟨_, rfl, h⟩
end SK
namespace SK
open PySem PySem.Spec PyProof.Rows L2 LamX NdefX
section
variable {prog : Program} {w : World} {A : Around} {E : Value → Shared → Prop} {s : Shared}
theorem enum_tuple {a : Addr} {items : Array Value} {Q : Value → Shared → Prop} (ht : s.heap.IsTuple a items)
    (h : ∀ h', IsEnum h' (s.heap.objs.size + 1) s.heap.objs.size 0 .none → h'.IsTupleIter s.heap.objs.size a 0 → (∀ b o, s.heap.get? b = some o → h'.get? b = some o) → Q (.ref (s.heap.objs.size + 1)) { s with heap := h' }) :
    wpAny (model prog w) A (call (.type "enumerate") [.ref a]) Q E s := by
  refine callType_new F.called_enumerate (by decide) (F.typeCall_enumerate_1 _) (F.newCall_enumerate_1 _) (fun obj => F.args_object_init_2 obj _) F.entry_enumerate_new (enum_new1 (begins_tuple a items)) ⟨ht, ?_⟩
  generalize ho : ({ cls := .type "tuple_iterator", data := .fields #[.ref a, .int 0 0] } : Obj) = o
  have hfr : o.isFreed = false := by
    rw [← ho]
    rfl
  have hz : (s.heap.push o).objs.size = s.heap.objs.size + 1 := Heap.size_push ..
  show _ ∧ _
  rw [hz]
  have he : IsEnum ((s.heap.push o).push { cls := .type "enumerate", data := .fields #[.none, .bool false, .ref s.heap.objs.size, rawInt 0, .none, .none] }) (s.heap.objs.size + 1) s.heap.objs.size 0 .none := by
    have q := Heap.get?_push_size (s.heap.push o) (o := { cls := .type "enumerate", data := .fields #[.none, .bool false, .ref s.heap.objs.size, rawInt 0, .none, .none] }) rfl
    rw [hz] at q
    exact q
  have hi : (s.heap.push o).get? s.heap.objs.size = some o := Heap.get?_push_size _ hfr
  refine ⟨⟨_, he, rfl⟩, h _ he ⟨o, Heap.get?_push_of_some _ hi, by rw [← ho], by rw [← ho]; rfl⟩ fun b u q => Heap.get?_push_of_some _ (Heap.get?_push_of_some _ q)⟩
end
section
variable {X : Cx}
theorem pi_enumT {e : Expr} {ta : TA} {p pos tpos : Pos} {elts : List Expr} {kk : Nat} (hg : Gl X "enumerate") (hm : X.mg "enumerate" = none) (ha : PA X [e] ta) (hs : starEach [e] X.env = [(false, eval e X.env)] := by rfl) :
    PI X (.Tuple elts kk tpos) (.Call (.Name "enumerate" p) [e] [] pos) (iEnumT ta) := by
  refine ⟨fun pins s σ H R I h => ?_⟩
  refine Call_ (ld_blt I hg hm boot_enumerate (PyProof.Rows.callWith_type1 (thn (ha.run pos pins s σ H _ I h) fun us s1 ⟨vs, H1, I1, r1, q1⟩ => ?_) hs rfl))
  obtain ⟨a, xs, rfl, hq, q⟩ := q1
  obtain ⟨u, rfl, ru⟩ := vals1 r1
  obtain rfl : u = Value.ref a := ru
  obtain ⟨its, rv, pt, hz⟩ := I1.tuple (.inl (.inl hq))
  have pt' : s1.heap.IsTuple a its.toArray := pt
  refine enum_tuple pt' fun h' he hit hk => wpAny_pyIter_enum he ?_
  have I2 : Inv X pins σ H1 { s1 with heap := h' } := I1.kept (t' := s1.toks) hk
  refine ⟨s1.heap.objs.size + 1, [s1.heap.objs.size + 1, s1.heap.objs.size], _, _, H1, rfl, I2, turn_enumT a xs (s1.heap.objs.size + 1) s1.heap.objs.size, ⟨⟨.none, he⟩, hit, Nat.succ_ne_self _⟩, fun b hb => ?_, q⟩
  have hle : s1.heap.objs.size ≤ b := by
    simp only [List.mem_cons, List.mem_nil_iff, or_false] at hb
    rcases hb with z | z
    · rw [z]; exact Nat.le_add_right _ _
    · rw [z]; exact Nat.le_refl _
  exact I1.fpOk hle (I1.hok.fresh hle)
/-- y = {k: v for .. in ..}, y a local name -/
theorem ps_setDc {i : Nat} {y : Str} {py : Pos} {kx vx tg iter : Expr} {ifs : List Expr} {scope : Scope} {own : List (Str × Nat)} {pos spos : Pos} {wi : TI} {g : TG} {tt : TT} {tk tv : TE} (hc : X.calm = true) (hN : X.N.Nodup) (hy : X.N[i]? = some y) (hyl : X.env.scope.names.lookup y = some .local)
    (hsw : swapsWith (.DictComp kx vx [⟨tg, iter, ifs, 0⟩] scope pos) (some (.Name y py)) spos.line X.env = pure true) (hi : PI X tg iter wi) (ok : BlkOk X.N X.env.scope scope own)
    (hg : ∀ (s : Shared) (H : Hp) (C : Addr) (cl : List (Str × Addr)) (fp : List Addr), PG (X.blk s H scope (compEnvC scope cl C X.env) fp) tg g) (ht : ∀ (s : Shared) (H : Hp) (C : Addr) (cl : List (Str × Addr)) (fp : List Addr), PTs (X.blk s H scope (compEnvC scope cl C X.env) fp) ifs tt)
    (hk : ∀ (s : Shared) (H : Hp) (C : Addr) (cl : List (Str × Addr)) (fp : List Addr), PE (X.blk s H scope (compEnvC scope cl C X.env) fp) kx tk)
    (he : ∀ (s : Shared) (H : Hp) (C : Addr) (cl : List (Str × Addr)) (fp : List Addr), PE (X.blk s H scope (compEnvC scope cl C X.env) fp) vx tv) (hs : ∀ x, foldedSetIterable iter X.env x = pure x := by intro _; rfl) :
    PS X (.Assign [.Name y py] (.DictComp kx vx [⟨tg, iter, ifs, 0⟩] scope pos) spos) (tAsg (tDc wi g tt tk tv (own.map (·.2))) (gName i)) := by
  refine ⟨fun pins s σ H D I h => ?_⟩
  rw [exec_Assign_Name_used _ _ _ _ hsw]
  refine wpAny_bind (wpAny_standAt (wpAny_bind ?_))
  show wpAny _ X.A (do let _ ← comprehension (.DictComp kx vx [⟨tg, iter, ifs, 0⟩] scope pos) scope X.env (firstIterPos [⟨tg, iter, ifs, 0⟩] pos) newDict false (eval iter X.env) (some (assign (.Name y py) X.env))) _ _ s
  have hh : tDc wi g tt tk tv (own.map (·.2)) σ H (fun x H1 => gName i x σ H1 D.nx) := h
  refine wpAny_bind (thn (dc_core (Qf := fun _ s' => SP X pins D .next s') hc hN I hi ok hg ht hk he hs hh fun L C s' m H' I' q hn f => ?_) fun _ s' hq => wpAny_pure (wpAny_pure hq))
  show wpAny _ _ (assign (.Name y py) X.env (.ref L)) _ _ _
  refine wpAny_assign_Name (store_ok2 (v := V.ref L) I' hN hy (.inl hyl) rfl (fun s2 I2 ⟨a, sb, ha⟩ => ?_) (.inr hyl))
  obtain ⟨f0, f1, f2, f3, f4, f5⟩ := f
  have haC : C ≠ a := ha.elim (fun z => by rw [z]; exact f1) fun z e => f4 y a z e.symm
  refine ⟨m, hn.sameBut sb haC, fun h3 sb3 => ?_⟩
  exact ⟨_, H', I2.turned (t' := s2.toks) (fun b o hb e => (sb3.2 b hb).trans e) f0 f1 f3 f4 f5, q⟩
theorem swD_true {kx vx : Expr} {gs : List Comprehension} {scope : Scope} {pos py : Pos} {y : Str} {l : Nat} {env : Env} (hk : env.scope.kind = .function) (hy : env.scope.names.lookup y = some .local) (hl : (py.line == pos.line) = true)
    (ha : (scope.names.any fun (n, k) => n == y && (k == .local || k == .cell)) = false) : swapsWith (.DictComp kx vx gs scope pos) (some (.Name y py)) l env = pure true := by
  have ky : env.kindOf y = some .local := hy
  have hb : env.blockKind = .function := by
    unfold Env.blockKind
    rw [hk]
    rfl
  unfold swapsWith
  simp only [hb, ky, ha, Expr.pos, hl]
  rfl
end
end SK
namespace SK
open PySem PySem.Spec PyProof.Rows L2 LamX NdefX
theorem upd_new {p : Addr} {o : HO} {H : Hp} (n : H p = none) : Same H (upd H p o) := fun c u h => by
  rw [upd_ne (ne_of_none h n)]
  exact h
def top (i : Nat) : Stmt := PySem.Challenge.pw_lettertrees_k18_wishes.main.body.getD i (.Pass ⟨0, 0, 0, 0⟩)
/-- a def of the top whose code object is known -/
structure FunT (K : PySem.W.Frag) (x qual : Str) (st : Stmt) (f : Addr) (fd : FuncData) (c : Addr) : Prop where
  ex : ∃ (oc : Value) (od : Option Addr) (kV doc pm : Value) (an : Option Addr) (ct : Value) (osl : Array (Option Value)),
    fd = PySem.W.fnOf x qual (defArgs st) (defBody st) (defScope st) .none kV doc pm an (.ref c) ct ∧ K.lookup f = some ⟨oc, od, .func fd, osl⟩ ∧ PySem.W.codeIn K (.ref c) qual = true
  kp : PySem.W.keepIn K (.ref f) = true
theorem FunT.ok {P : Program} {w : World} {K : PySem.W.Frag} {mg : Str → Option Value} {base : Heap} {x qual : Str} {st : Stmt} {f c : Addr} {fd : FuncData} {N ps : List Str} {k : Nat} {sp : Sp} (F : FunT K x qual st f fd c) (S : FnScope N ps (defScope st)) (len : ∀ vs H Q E, sp vs H Q E → vs.length = ps.length)
    (hbody : ∀ (A : Around) (outer : List Env) (s : Shared) (H : Hp) (vs : List V) (Q : VK) (E : XK), Room k (A.deeper (envOfC qual (defScope st) s.heap.objs.size f (.ref c))) → sp vs H Q E →
      ∃ t, PSs (cxOf CX0 P w K mg base N qual (defScope st) f (.ref c) A outer s H E).nox (defBody st) t ∧ t { nx := fun _ H' => Q .non H', rt := Q } (start N vs) H) : FnOk P w K mg base CX0 (k + 1) f fd ps sp := by
  obtain ⟨oc, od, kV, doc, pm, an, ct, osl, rfl, lk, hcd⟩ := F.ex
  refine fn_of lk hcd S len fun A outer s H vs Q E hr hsp => ?_
  obtain ⟨t, h, q⟩ := hbody A outer s H vs Q E hr hsp
  exact ⟨t, h.nox, q⟩
def OverL (ls w : Str) : Prop := w.cps.size ≤ 200 ∧ ∀ c ∈ w.cps.toList, c ∈ ls.cps.toList
theorem join_chars : ∀ l : List Nat, Str.join (Str.ofString "") (l.map fun c => (⟨#[c]⟩ : Str)) = ⟨l.toArray⟩
  | [] => rfl
  | [c] => rfl
  | c :: d :: r => by
    have ih := join_chars (d :: r)
    simp only [List.map_cons] at ih ⊢
    show ((⟨#[c]⟩ : Str) ++ Str.ofString "") ++ Str.join (Str.ofString "") ((⟨#[d]⟩ : Str) :: r.map fun c => ⟨#[c]⟩) = _
    rw [ih]
    show (⟨(#[c] ++ (Str.ofString "").cps) ++ (d :: r).toArray⟩ : Str) = _
    have z : (Str.ofString "").cps = #[] := by decide +kernel
    rw [z]
    simp
theorem txt_join_chars (l : List Nat) : Txt.join (Str.ofString "") (l.map fun c => (⟨#[c]⟩ : Str)) = ⟨l.toArray⟩ := by
  show Builtin.Str.glued (Str.ofString "") _ = _
  rw [StrLaws.glued_eq_join]
  exact join_chars l
theorem sum_ones (l : List Nat) : ((l.map fun c => (⟨#[c]⟩ : Str)).map (·.length)).sum = l.length := by
  induction l with
  | nil => rfl
  | cons c r ih =>
    simp only [List.map_cons, List.sum_cons, ih, List.length_cons]
    show 1 + r.length = _
    omega
end SK
namespace SK
open PySem PySem.Spec PyProof.Rows L2 LamX NdefX
open K0 (De DeAll)
def isB : PyData → Bool
  | .bool _ => true
  | _ => false
def okW (ls : Str) : PyData → Bool
  | .str x => decide (x.cps.size ≤ 200) && x.cps.toList.all fun c => decide (c ∈ ls.cps.toList)
  | _ => false
def okR3 (ls : Str) : List PyData → Bool
  | [a, b, c] => okW ls a && (isB b && isB c)
  | _ => false
def okR (ls : Str) : PyData → Bool
  | .tuple ds => okR3 ls ds
  | .list ds => okR3 ls ds
  | _ => false
end SK
namespace SK
open PySem PySem.Spec PyProof.Rows L2 LamX NdefX
open K0 (De DeAll)
mutual
theorem de_mono {K : PySem.W.Frag} {H H' : Hp} (m : ∀ b o, H b = some o → H' b = some o) : ∀ (d : PyData) (v : V), De K H v d → De K H' v d
  | .none, _, h => by
    cases h
    exact .non
  | .bool b, _, h => by
    cases h
    exact .bl b
  | .int i, _, h => by
    cases h
    exact .int i
  | .str x, _, h => by
    cases h
    exact .str x
  | .list ds, _, h => by
    cases h with
    | lst ha hd => exact .lst (m _ _ ha) (de_monoAll m ds _ hd)
  | .tuple ds, _, h => by
    cases h with
    | tup ha hd => exact .tup (m _ _ ha) (de_monoAll m ds _ hd)
  | .dict _, _, h => by
    cases h with
    | dic ha => exact .dic (m _ _ ha)
theorem de_monoAll {K : PySem.W.Frag} {H H' : Hp} (m : ∀ b o, H b = some o → H' b = some o) : ∀ (ds : List PyData) (vs : List V), DeAll K H vs ds → DeAll K H' vs ds
  | [], _, h => by
    cases h
    exact .nil
  | d :: ds, _, h => by
    cases h with
    | cons h1 h2 => exact .cons (de_mono m d _ h1) (de_monoAll m ds _ h2)
end

/-- no text in it is too long -/
def Fit (d : PyData) : Prop := ∀ ds, (d = .tuple ds ∨ d = .list ds) → ∀ x, PyData.str x ∈ ds → x.cps.size ≤ 1000
def spRow (K : PySem.W.Frag) : Sp := fun vs H Q _ => ∃ (ls : Str) (v : V) (d : PyData), vs = [.str ls, v] ∧ De K H v d ∧ Fit d ∧ ∀ H', Same H H' → Q (.bl (okR ls d)) H'
theorem deAll_len {K : PySem.W.Frag} {H : Hp} : ∀ {vs : List V} {ds : List PyData}, DeAll K H vs ds → vs.length = ds.length
  | _, _, .nil => rfl
  | _, _, .cons _ t => congrArg Nat.succ (deAll_len t)
end SK
namespace SK
open PySem PySem.Spec PyProof.Rows L2 LamX NdefX
open K0 (De DeAll XCl spX withX)
/-- what is told of an own exception class, by its name -/
structure XR (P : Program) (w : World) (K : PySem.W.Frag) (mg : Str → Option Value) (base : Heap) (x : Str) (C : Addr) (fs : List Str) : Prop where
  cl : XCl K C
  gC : mg x = some (.ref C)
  no : ∀ n ∈ fs, PySem.W.findIn K (.ref C) n = some none
  ini : ∃ f fd, PySem.W.findIn K (.ref C) "__init__" = some (some (.ref f)) ∧ PySem.W.typeIn K (.ref f) = some (.type "function") ∧ FnOk P w K mg base CX0 1 f fd (("self" : Str) :: fs) (spX C fs) ∧ Binds K fd (("self" : Str) :: fs) []
theorem withX_at {H : Hp} {a dx C : Addr} {gs : List (Str × V)} : withX H C a dx gs a = some (exo a C (some dx)) := upd_same
theorem withX_dx {H : Hp} {a dx C : Addr} {gs : List (Str × V)} (ne : dx ≠ a) : withX H C a dx gs dx = some (exd dx gs) := (upd_ne ne).trans upd_same
/-- the making of such an exception, read behind its arguments -/
theorem rd_mk {C : Addr} {fs : List Str} {vs : List V} {H1 : Hp} {Q : XK} (hl : vs.length = fs.length) (hz : vs.length ≤ 1000) (k : ∀ (d : Addr) (H' : Hp), Same H1 H' → H1 d = none → H' d = some (.xd (fs.zip vs).reverse) → Q (.ref C) (some d) H') :
    vs.length ≤ 1000 ∧ ∀ a, H1 a = none → spX C fs (.ref a :: (vs ++ [])) (upd H1 a (exo a C none))
      (fun v H2 => v = .non ∧ ∃ (d : Addr) (gs : List (Str × V)), H2 a = some (exo a C (some d)) ∧ H2 d = some (exd d gs) ∧ H1 d = none ∧ Q (.ref C) (some d) (upd (del H2 a) d (.xd gs))) (fun _ _ _ => False) := by
  refine ⟨hz, fun a na => ⟨a, vs ++ [], rfl, by rw [List.append_nil]; exact hl, upd_same, fun dx nd ne => ?_⟩⟩
  rw [upd_ne ne] at nd
  refine ⟨rfl, dx, _, withX_at, withX_dx ne, nd, k dx _ (fun b o e => ?_) nd ?_⟩
  · have n1 : b ≠ a := ne_of_none e na
    have n2 : b ≠ dx := ne_of_none e nd
    rw [upd_ne n2, del_ne n1]
    show upd (upd (upd H1 a _) dx _) a _ b = some o
    rw [upd_ne n1, upd_ne n2, upd_ne n1]
    exact e
  · rw [List.append_nil]
    exact upd_same
end SK
namespace SK
open PySem PySem.Spec PyProof.Rows L2 LamX NdefX
open K0 (De DeAll XCl spX withX)
def Rows (H : Hp) (a : Addr) (xs : List V) : Prop := H a = some (.lst xs) ∨ H a = some (.tup xs)
end SK
namespace SK
open PySem PySem.Spec PyProof.Rows L2 LamX NdefX
open K0 (De DeAll XCl spX withX)
def ThrownN (E : XK) (C : Addr) (H : Hp) (gs : List (Str × V)) (T : List (Addr × Str)) : Prop := ∀ (H' : Hp) (d : Addr), ExtN H H' → Tabs T H' → H' d = some (.xd gs) → E (.ref C) (some d) H'
theorem Rows.seq {K : PySem.W.Frag} {H : Hp} {a : Addr} {xs : List V} (r : Rows H a xs) : SqL K H a xs ∨ SqT K H a xs := r.elim (fun h => .inl (.inl (.inl h))) fun h => .inr (.inl (.inl h))
end SK
namespace SK
open PySem PySem.Spec PyProof.Rows L2 LamX NdefX
abbrev Cl := Value × (Addr → Value → Option Addr → TS)
/-- what the clauses wish; i is the slot of their name -/
def wAsM (K : PySem.W.Frag) (Wout : WX) (i : Nat) (D : Ends) : List Cl → WX
  | [] => Wout
  | (c, ts) :: r => wAs K c i ts (wAsM K Wout i D r) D
inductive HdsAs (X : Cx) (n : Str) : List ExceptHandler → List Cl → Prop
  | nil : HdsAs X n [] []
  | cons {x : Str} {c : Value} {ts : Addr → Value → Option Addr → TS} {b₀ : Stmt} {suite : List Stmt} {np pos' : Pos} {hds : List ExceptHandler} {l : List Cl} (hc : Names X x c)
      (hsu : ∀ (a : Addr) (oe : Obj) (cls : Value) (d : Option Addr) (pn : List (Addr × Obj)), Zc cls d oe → (∃ vs, oe.data = .fields vs) → PSs (X.suite a ((a, oe) :: pn)) (b₀ :: suite) (ts a cls d)) (r : HdsAs X n hds l) :
      HdsAs X n (.ExceptHandler (some (.Name x np)) (some n) (b₀ :: suite) pos' :: hds) ((c, ts) :: l)
section
variable {X : Cx} {n : Str} {i : Nat} {body : List Stmt} {h₀ : ExceptHandler} {hds : List ExceptHandler} {l : List Cl} {pos : Pos} {tb : WX → TS} {Wout : WX}
theorem ps_try_asM (hs : X.stack = X.env :: X.outer) (hf : X.env.frame = some X.env.locals) (hN : X.N.Nodup) (hi : X.N[i]? = some n) (hln : X.env.kindOf n = some .local) (tk : Takes X Wout)
    (hb : ∀ (W : WX) (pn : List (Addr × Obj)) (xe : Value → Shared → Prop), Takes (X.tr pn xe) W → PassesOwn (model X.prog X.w) X.A X.env xe → PSs (X.tr pn xe) body (tb W))
    (hh : HdsAs X n (h₀ :: hds) l) : PS X (.Try body (h₀ :: hds) [] [] pos) (fun D σ H => tb (wAsM X.K Wout i D l) D σ H) := by
  refine ⟨fun pins s σ H D I h => ?_⟩
  have ok := I.ok
  have hfr : X.A.frames = some (X.env :: X.outer) := by rw [ok.frames, hs]
  have hloc : Loc X.env.scope n := .inl hln
  refine wpAny_Try_except ?_
  refine wpAny_mono ((hb (wAsM X.K Wout i D l) (X.pn ++ pins) (fun e s₁ => wpAny (model X.prog X.w) X.A (noteFrame e X.env) (fun _ s₂ => wpAny (model X.prog X.w) X.A (setFlight e none) (fun _ s₃ =>
    wpAny (model X.prog X.w) X.A (handleBy e X.env (h₀ :: hds)) (SP X pins D) X.xe s₃) X.xe s₂) X.xe s₁) (fun u s' xx => ?_) PassesOwn.looking).run [] s σ H D (I.toTry _) h) (fun f s1 hsp => ?_) (fun e s1 he => he)
  · obtain ⟨a, B, sI, pins', σ', H', cls, d, rfl, J', nb, up, sky, na, os, ag, w⟩ := xx
    have J : Inv X pins σ' H' sI := J'.ofTry ok
    have sky' : Sky B (X.env :: X.outer) a (Zc cls d) X.env.locals s'.heap := by rw [← hs]; exact sky
    show wpAny (model X.prog X.w) X.A (noteFrame (.ref a) X.env) _ _ _
    refine Sky.land Zc.steady hfr hf sky' fun h3 fl3 up3 => ?_
    have J3 : Inv X pins σ' H' { s' with heap := h3 } := J.landed nb fl3.1 (up.trans up3) os ag
    obtain ⟨oe3, vs3, he3, hz3, hd3⟩ := fl3.there
    have apart : ∀ {h : Heap} {o : Obj} {vs : Array Value}, h.FunFrames B (X.env :: X.outer) → h.get? a = some o → o.data = .fields vs → a ∉ frs (X.env :: X.outer) := fun {h o vs} ff e dd hm => by
      obtain ⟨_, o', e', hnf⟩ := ff.mem hm
      rw [e] at e'
      cases e'
      exact hnf _ dd
    have nfr := apart fl3.2.2.1 he3 hd3
    have nL : a ≠ X.env.locals := fun z => nfr (List.mem_filterMap.mpr ⟨X.env, List.mem_cons_self, by rw [hf, z]⟩)
    have nF : a ∉ X.fs := fun hm => by
      obtain ⟨e, he, q⟩ := List.mem_filterMap.mp hm
      exact nfr (List.mem_filterMap.mpr ⟨e, List.mem_cons_of_mem _ he, q⟩)
    have S3 := J3.suite he3 hd3 na nL nF
    have go : ∀ {hds' : List ExceptHandler} {l' : List Cl}, HdsAs X n hds' l' → wAsM X.K Wout i D l' cls d σ' H' → wpAny (model X.prog X.w) X.A (handleBy (.ref a) X.env hds') (SP X pins D) X.xe { s' with heap := h3 } := by
      intro hds' l' hk
      induction hk with
      | nil =>
        intro w
        refine wpAny_handleBy_nil ?_
        obtain ⟨k1, k2, k3, oe, vs, T, oT, ts', he, hz, hd, h1, hr⟩ := id fl3
        unfold PySem.passOn
        refine wpAny_bind (wpAny_field he hd h1 ?_)
        rw [if_neg (show ¬ ((Value.ref T == Value.none) = true) from by simp)]
        have fin : wpAny (model X.prog X.w) X.A (setFlight (.ref a) X.env.frame) (fun _ s4 => wpAny (model X.prog X.w) X.A (throw (.ref a) : Sem Flow) (SP X pins D) X.xe s4) X.xe { s' with heap := h3 } := by
          rw [hf]
          refine HandSPX.setFlight_upZ fl3 fun h4 hh4 up4 => wpAny_throw (tk _ _ ?_)
          exact ⟨a, B, sI, pins, σ', H', cls, d, rfl, J, nb, (up.trans up3).trans up4, .inr (.inr (by rw [hs]; exact hh4)), na, os, ag, w⟩
        first
          | exact wpAny_bind (wpAny_pure (wpAny_bind fin))
          | exact wpAny_bind fin
      | @cons x c ts b₀ suite np pos' hds2 l2 hc hsu r ih =>
        intro w
        obtain ⟨b, hb1, hyes, hno⟩ := w
        refine wpAny_handleBy_cons (codeAny_handlers_test ?_) (by intro q; cases q)
        have LT : PySem.W.Looks (model X.prog X.w) h3 (typeOf (.ref a)) cls := fun A Q E s k q => wpAny_typeOf_ref (k _ _ he3) (by rw [hz3.1]; exact q)
        have LM := PySem.W.exm_one (M := model X.prog X.w) (J3.kIn) LT hb1
        have test : ∀ {Q : Value → Shared → Prop} {E : Value → Shared → Prop}, Q c { s' with heap := h3 } → wpAny (model X.prog X.w) (X.A.mark (some (.ref a))) (eval (.Name x np) X.env) Q E { s' with heap := h3 } := fun {Q E} q => by
          obtain ⟨hg, hdbg, hm | ⟨hm, hv, hnn⟩⟩ := hc
          · exact ld_glob (X := X.suite a ((a, oe3) :: (X.pn ++ pins))) S3 hg hm q hdbg
          · exact ld_blt (X := X.suite a ((a, oe3) :: (X.pn ++ pins))) S3 hg hm hv q hnn hdbg
        refine test (LM.here ?_)
        cases b with
        | true =>
          refine codeAny_handlers_suite_as ?_
          refine HandSPX.lands_againZ fl3 fun h4 fl4 up4 => ?_
          have J4 : Inv X pins σ' H' { s' with heap := h4 } := J.landed nb fl4.1 ((up.trans up3).trans up4) os ag
          obtain ⟨oe4, vs4, he4, hz4, hd4⟩ := fl4.there
          have S4 := J4.suite he4 hd4 na nL nF
          refine store_ok (X := X.suite a ((a, oe4) :: (X.pn ++ pins))) (v := .ref a) S4 hN hi hloc rfl (fun s5 S5 => ?_) (.inr hln)
          refine wpAny_mono ((hsu a oe4 cls d (X.pn ++ pins) hz4 ⟨_, hd4⟩).run [] s5 _ H' _ S5 (hyes rfl a na)) (fun f s6 hsp => ?_) (fun _ _ z => False.elim z)
          have ends : ∀ {σ6 : St} {H6 : Hp} {Q : Shared → Prop}, Inv (X.suite a ((a, oe4) :: (X.pn ++ pins))) [] σ6 H6 s6 → (∀ s7, Inv X pins (σ6.set i none) H6 s7 → Q s7) →
              wpAny (model X.prog X.w) X.A (do bindName X.env n .none; unbindBehindTheSuite X.env n pos') (fun _ s7 => Q s7) X.xe s6 := fun {σ6 H6 Q} S6 hq => gone_ok (S6.unsuite ok) hN hi hln hq
          cases f with
          | next =>
            obtain ⟨σ6, H6, S6, q6⟩ := hsp
            exact ends S6 fun s7 J7 => ⟨_, _, J7, q6⟩
          | brk =>
            obtain ⟨σ6, H6, S6, q6⟩ := hsp
            exact ends S6 fun s7 J7 => ⟨_, _, J7, q6⟩
          | cont =>
            obtain ⟨σ6, H6, S6, q6⟩ := hsp
            exact ends S6 fun s7 J7 => ⟨_, _, J7, q6⟩
          | ret u =>
            obtain ⟨v6, σ6, H6, S6, r6, q6⟩ := hsp
            exact ends S6 fun s7 J7 => ⟨_, _, _, J7, r6, q6⟩
        | false =>
          show wpAny _ X.A (handleBy (.ref a) X.env hds2) _ _ _
          exact ih (hno rfl)
    exact go hh w
  · cases f with
    | next =>
      obtain ⟨σ', H', J', q⟩ := hsp
      exact wpAny_execs_nil ⟨σ', H', J'.ofTry ok, q⟩
    | brk =>
      obtain ⟨σ', H', J', q⟩ := hsp
      exact ⟨σ', H', J'.ofTry ok, q⟩
    | cont =>
      obtain ⟨σ', H', J', q⟩ := hsp
      exact ⟨σ', H', J'.ofTry ok, q⟩
    | ret u =>
      obtain ⟨v, σ', H', J', r, q⟩ := hsp
      exact ⟨v, σ', H', J'.ofTry ok, r, q⟩
end
/-- isinstance(e, c), e the exception that the suite holds, with fields -/
def rIsD (K : PySem.W.Frag) (a : Addr) (cls : Value) (d : Option Addr) : List V → Hp → VK → Prop := fun xs H Q => ∃ (D dx : Addr) (fs : List (Str × V)), cls = .ref D ∧ d = some dx ∧ ExcC K D ∧ H dx = some (.xd fs) ∧ rIsE K D a xs H Q
theorem call_isD {X : Cx} {a : Addr} {cls : Value} {d : Option Addr} {oe : Obj} {pn : List (Addr × Obj)} (hz : Zc cls d oe) (hf : ∃ vs, oe.data = .fields vs) : CallR (X.suite a ((a, oe) :: pn)) (.builtin "isinstance") (rIsD X.K a cls d) := by
  intro pins s σ H xs us Q I r h
  obtain ⟨D, dx, fs, rfl, rfl, C, hdx, c, cv, b, rfl, hcv, e, q⟩ := h
  obtain ⟨u1, u2, rfl, r1, r2⟩ := vals2 r
  obtain rfl : u1 = Value.ref a := r1
  obtain rfl := hcv _ r2
  obtain ⟨hget, _⟩ := I.pin (a, oe) (List.mem_append.mpr (.inl List.mem_cons_self))
  obtain ⟨vs, hv⟩ := hf
  have hx : ObjOk X.prog X.w H s.heap dx (.xd fs) := I.hok dx _ hdx
  obtain ⟨mA, hns, hr⟩ := hx
  obtain ⟨od, ho, hl⟩ := lookIn_ns hns
  have J : PySem.W.InstAt s.heap a oe D (some od) := ⟨hget, hz.1, by unfold PySem.W.notCls; rw [hv] <;> rfl, by rw [hz.2]; exact ho⟩
  have hc : (PySem.W.clsIn X.K D).isSome = true := by
    obtain ⟨cd, hcd, _⟩ := PySem.W.any_some C.hd
    rw [hcd]
    rfl
  exact PySem.W.kia_one (PySem.W.kitx_exc (ox := oe) (od := some od) hc C.hg C.hk C.hs C.ha C.hn C.ht C.hm) I.kIn J e (fun z => nomatch z) fun tk => ⟨.bl b, H, I.kept (t' := tk) fun _ _ z => z, rfl, q⟩
end SK
namespace SK
open PySem PySem.Spec PyProof.Rows L2 LamX NdefX
open K0 (De DeAll XCl spX withX)
structure FnG (P : Program) (w : World) (K : PySem.W.Frag) (mg : Str → Option Value) (base : Heap) (CX : CXT) (k : Nat) (f : Addr) (fd : FuncData) (ps : List Str) (sp : Sp) : Prop where
  len : ∀ vs H Q E, sp vs H Q E → vs.length = ps.length
  run : ∀ (A : Around) (outer : List Env) (s : Shared) (H : Hp) (args : Args) (us : List Value) (vs : List V) (Q : VK) (E : XK), A.guards = some [] → Room k A → Env0 P w K mg base A outer s H → BindsTo s fd args (ps.zip us) → Vals vs us → sp vs H Q E →
    codeAny (model P w) A (.call (.ref f) args) (CR CX outer P w H s Q E) s
theorem FnG.ok {P : Program} {w : World} {K : PySem.W.Frag} {mg : Str → Option Value} {base : Heap} {x qual : Str} {st : Stmt} {f : Addr} {fd : FuncData} {N ps : List Str} {k : Nat} {sp : Sp} (F : Fun K x qual st f fd) (S : FnScope N ps (defScope st)) (len : ∀ vs H Q E, sp vs H Q E → vs.length = ps.length)
    (hbody : ∀ (cdv : Value) (A : Around) (outer : List Env) (s : Shared) (H : Hp) (vs : List V) (Q : VK) (E : XK), (A.deeper (envOfC qual (defScope st) s.heap.objs.size f cdv)).guards = some [] → Room k (A.deeper (envOfC qual (defScope st) s.heap.objs.size f cdv)) → sp vs H Q E →
      ∃ t, PSs (cxOf CX0 P w K mg base N qual (defScope st) f cdv A outer s H E).nox (defBody st) t ∧ t { nx := fun _ H' => Q .non H', rt := Q } (start N vs) H) : FnG P w K mg base CX0 (k + 1) f fd ps sp := by
  obtain ⟨oc, od, kV, doc, pm, an, cdv, ct, osl, rfl, lk, hcd⟩ := F.ex
  refine ⟨len, fun A outer s H args us vs Q E hg hr e0 hb r hsp => run_ofS lk hcd S hr e0 hb r (len _ _ _ _ hsp) fun hr' => ?_⟩
  obtain ⟨t, h, q⟩ := hbody cdv A outer s H vs Q E hg hr' hsp
  exact ⟨t, h.nox, q⟩
def tCallG (sp : Sp) (E : XK) (t : TA) : TE := fun σ H Q => t σ H fun vs H1 => sp vs H1 Q E
section
variable {X : Cx} {CX : CXT} {k : Nat} {f C : Addr} {fd : FuncData} {ps : List Str} {ds : List Value} {dvs : List V} {sp : Sp} {E : XK} {x : Str} {p pos : Pos} {e : Expr} {es : List Expr} {t : TA}
theorem run_fnG {pins : List (Addr × Obj)} {σ : St} {H : Hp} {s : Shared} {Q : VK} {us : List Value} {vs : List V} (F : FnG X.prog X.w X.K X.mg X.base CX k f fd ps sp) (hgd : X.A.guards = some []) (hr : Room k X.A) (hb : Binds X.K fd ps []) (hx : Passes CX X E) (I : Inv X pins σ H s) (r : Vals vs us)
    (h : sp vs H Q E) : wpAny (model X.prog X.w) X.A (call (.ref f) us) (EP X pins σ Q) X.xe s := by
  have hl : us.length = ps.length := by
    rw [← r.length]
    exact F.len _ _ _ _ h
  have b := hb s us I.kIn (by rw [List.append_nil]; exact hl)
  rw [List.append_nil] at b
  refine wpAny_call (codeAny_mono (F.run X.A X.stack s H ⟨us, []⟩ us vs Q E hgd hr I.env0 b r h) fun r s' hq => ?_)
  cases r with
  | error e => exact hx pins σ H s e s' I hq
  | ok fl =>
    cases fl with
    | ret u => exact I.after hq
    | next => exact False.elim hq
    | brk => exact False.elim hq
    | cont => exact False.elim hq
theorem pe_callG (F : FnG X.prog X.w X.K X.mg X.base CX k f fd ps sp) (hgd : X.A.guards = some []) (hr : Room k X.A) (hg : Gl X x) (hm : X.mg x = some (.ref f)) (hk : PySem.W.keepIn X.K (.ref f) = true) (hb : Binds X.K fd ps []) (hx : Passes CX X E)
    (ha : PA X (e :: es) t) (hdb : (x == ("__debug__" : Str)) = false := by decide) (he : starEach (e :: es) X.env = (false, eval e X.env) :: starEach es X.env := by rfl) (hpl : (backTo pos (starEach es X.env)).any (·.1) = false := by rfl) :
    PE X (.Call (.Name x p) (e :: es) [] pos) (tCallG sp E t) := by
  refine ⟨fun pins s σ H Q I h => ?_⟩
  refine wpAny_Call_Name_kw (ld_glob I hg hm ?_ hdb)
  refine PySem.W.callWith_K (h₀ := X.base) I.ok.mod.kin hk (thn (ha.run pos pins s σ H _ I h) fun us s1 ⟨vs, H1, I1, r, q⟩ => ⟨I1.kIn, ?_⟩) he hpl
  exact run_fnG F hgd hr hb hx I1 r q
/-- C(..), what is raised wished for at the caller's slots -/
def tMakeS (C : Addr) (sp : Sp) (E : St → XK) (t : TA) : TE := fun σ H Q => t σ H fun vs H1 => ∀ x dx, H1 x = none → H1 dx = none → dx ≠ x → sp (.ref x :: vs) (upd (upd H1 dx (.own x)) x (.ins C dx [])) (fun v H2 => v = .non ∧ Q (.ref x) H2) (E σ)
theorem pe_makeS {E : St → XK} (M : Mk X.K C f) (F : FnOk X.prog X.w X.K X.mg X.base CX k f fd ps sp) (hr : Room (k + 1) X.A) (hg : Gl X x) (hm : X.mg x = some (.ref C)) (hb : Binds X.K fd ps []) (hx : ∀ σ, PassesAt CX X σ (E σ)) (ha : PA X (e :: es) t)
    (hdb : (x == ("__debug__" : Str)) = false := by decide) (he : starEach (e :: es) X.env = (false, eval e X.env) :: starEach es X.env := by rfl) (hpl : (backTo pos (starEach es X.env)).any (·.1) = false := by rfl) :
    PE X (.Call (.Name x p) (e :: es) [] pos) (tMakeS C sp E t) := by
  refine ⟨fun pins s σ H Q I h => ?_⟩
  refine wpAny_Call_Name_kw (ld_glob I hg hm ?_ hdb)
  refine PySem.W.callWith_K (h₀ := X.base) I.ok.mod.kin M.kp (thn (ha.run pos pins s σ H _ I h) fun us s1 ⟨vs, H1, I1, r, q⟩ => ⟨I1.kIn, ?_⟩) he hpl
  have hq := q (s1.heap.objs.size + 1) s1.heap.objs.size (I1.hok.fresh (Nat.le_succ _)) (I1.hok.fresh (Nat.le_refl _)) (Nat.ne_of_lt (Nat.lt_succ_self _))
  have I2 := Inv.made (C := C) I1
  have r2 : Vals (V.ref (s1.heap.objs.size + 1) :: vs) (Value.ref (s1.heap.objs.size + 1) :: us) := .cons rfl r
  have hl : (Value.ref (s1.heap.objs.size + 1) :: us).length = ps.length := by
    have z := r2.length
    rw [F.len _ _ _ _ hq] at z
    exact z.symm
  have b := hb _ (Value.ref (s1.heap.objs.size + 1) :: us) I2.kIn (by rw [List.append_nil]; exact hl)
  rw [List.append_nil] at b
  show wpAny _ _ (call (.ref C) us) _ _ _
  refine wpAny_call (make_map (f := f) I1.kIn M.makes M.init (beq_iff_eq.mp M.fn) (codeAny_mono (F.run _ X.stack _ _ ⟨Value.ref (s1.heap.objs.size + 1) :: us, []⟩ (Value.ref (s1.heap.objs.size + 1) :: us) _ _ (E σ) (hr.make C us [])
    (I2.env0.make C us []) b r2 hq) fun r s' hq' => ?_))
  cases r with
  | error er => exact hx σ pins _ _ er s' I2 hq'
  | ok fl =>
    cases fl with
    | ret u =>
      obtain ⟨v, H', I3, rv, ev, q3⟩ := I2.after hq'
      subst ev
      exact ⟨rv, ⟨V.ref (s1.heap.objs.size + 1), H', I3, rfl, q3⟩⟩
    | next => exact False.elim hq'
    | brk => exact False.elim hq'
    | cont => exact False.elim hq'
/-- repr(x), x any data -/
def rRepD (K : PySem.W.Frag) : List V → Hp → VK → Prop := fun xs H Q => ∃ (v : V) (d : PyData), xs = [v] ∧ De K H v d ∧ d.showable = true ∧ d.depth ≤ 8 ∧ d.shown.length ≤ sizeLine ∧ Q (.str d.shown) H
theorem call_repD (hg : X.A.guards = some []) (hu : X.A.units + 64 < cLine) (hsys : ∃ o, X.K.lookup sysModules = some o) : CallR X (.builtin "repr") (rRepD X.K) := by
  intro pins s σ H xs us Q I r h
  obtain ⟨v, d, rfl, hd, hsh, hdp, hz, q⟩ := h
  cases hd with
  | non =>
    obtain ⟨u, rfl, ru⟩ := vals1 r
    obtain rfl : u = Value.none := ru
    exact PySem.P.repr_of_none ⟨.str _, H, I.tok _, ⟨_, rfl⟩, q⟩
  | bl b =>
    obtain ⟨u, rfl, ru⟩ := vals1 r
    obtain rfl : u = Value.bool b := ru
    exact PySem.P.repr_of_bool ⟨.str _, H, I.tok _, ⟨_, rfl⟩, by cases b <;> exact q⟩
  | int i =>
    obtain ⟨u, rfl, t, rfl⟩ := vals1 r
    refine PySem.P.repr_of_int (by simpa [PyData.showable] using hsh) ⟨.str _, H, I.tok _, ⟨_, rfl⟩, q⟩
  | str x =>
    obtain ⟨u, rfl, t, rfl⟩ := vals1 r
    exact PySem.P.repr_of_str ⟨.str _, H, I.tok _, ⟨_, rfl⟩, q⟩ hz
  | @lst a vs ds ha hds => exact K0.call_rep hg hu hsys pins s σ H _ us Q I r ⟨a, _, rfl, .lst ha hds, hsh, hdp, hz, q⟩
  | @tup a vs ds ha hds => exact K0.call_rep hg hu hsys pins s σ H _ us Q I r ⟨a, _, rfl, .tup ha hds, hsh, hdp, hz, q⟩
  | @dic a ha => exact K0.call_rep hg hu hsys pins s σ H _ us Q I r ⟨a, _, rfl, .dic ha, hsh, hdp, hz, q⟩
end
end SK
namespace SK
open PySem PySem.Spec PyProof.Rows L2 LamX NdefX
open K0 (De DeAll XCl spX withX)
theorem xf_of {K : PySem.W.Frag} {C : Addr} (c : XCl K C) : XfC K C := ⟨c.ga, c.gg, c.T.exC, c.hd⟩
theorem ec_of {K : PySem.W.Frag} {C : Addr} (c : XCl K C) : ExcC K C := ⟨c.ga, c.gg, c.T.exC, c.hd, c.ha, c.hn, c.ht, c.hm⟩
end SK
namespace SK
open PySem PySem.Spec PyProof.Rows L2 LamX NdefX
open K0 (De DeAll XCl spX withX)
def rSortE {β : Type} (K : PySem.W.Frag) (ad : β → Addr) (enc : β → PyData) : List V → Hp → VK → Prop := fun xs H Q => ∃ (a : Addr) (bs : List β), xs = [.ref a] ∧ SqL K H a (bs.map fun b => V.ref (ad b)) ∧ (∀ b ∈ bs, De K H (.ref (ad b)) (enc b)) ∧ PySem.W.AllAlike (bs.map enc) ∧ PySem.W.Sortable (bs.map enc) ∧ (∀ b ∈ bs, (enc b).depth ≤ 8) ∧
  ∀ p, H p = none → Q (.ref p) (upd H p (.lst ((bs.mergeSort (PySem.W.dataLe false enc)).map fun b => V.ref (ad b))))
theorem each_of {β : Type} {ad : β → Addr} : ∀ {us : List Value} {bs : List β}, Vals (bs.map fun b => V.ref (ad b)) us → PySem.W.EachIs (fun v b => v = Value.ref (ad b)) us bs
  | [], [], _ => .nil
  | _ :: _, [], h => by cases h
  | [], _ :: _, h => by cases h
  | u :: us, b :: bs, h => by
    cases h with
    | cons h1 h2 => exact .cons h1 (each_of h2)
theorem each_to {β : Type} {ad : β → Addr} : ∀ {us : List Value} {bs : List β}, PySem.W.EachIs (fun v b => v = Value.ref (ad b)) us bs → Vals (bs.map fun b => V.ref (ad b)) us
  | _, _, .nil => .nil
  | _, _, .cons h1 h2 => .cons h1 (each_to h2)
theorem cr_sortE {X : Cx} {β : Type} {ad : β → Addr} {enc : β → PyData} (hu : X.A.units + 64 < cLine) (hsys : ∃ o, X.K.lookup sysModules = some o) : CallR X (.builtin "sorted") (rSortE X.K ad enc) := by
  intro pins s σ H xs us Q I r h
  obtain ⟨a, bs, rfl, hS, hd, hal, hk, hdp, q⟩ := h
  obtain ⟨u, rfl, ru⟩ := vals1 r
  obtain rfl : u = Value.ref a := ru
  obtain ⟨oS, hoS⟩ := hsys
  have hs : H sysModules = none := (I.bs _ _ (I.ok.mod.kin _ _ hoS)).2
  obtain ⟨its, rv, hl, hz⟩ := I.list hS
  rw [List.length_map] at hz
  have e := each_of rv
  have er : PySem.W.EachIs (fun v b => ∃ as, Reads s.heap v (enc b) as) its bs := by
    have z : ∀ {us : List Value} {cs : List β}, PySem.W.EachIs (fun v b => v = Value.ref (ad b)) us cs → (∀ b ∈ cs, De X.K H (.ref (ad b)) (enc b)) → PySem.W.EachIs (fun v b => ∃ as, Reads s.heap v (enc b) as) us cs := fun {us cs} ee => by
      induction ee with
      | nil => exact fun _ => .nil
      | cons h1 h2 ih =>
        intro hh
        obtain ⟨as, hr, _⟩ := K0.de_reads I hs _ _ _ (hh _ (by simp)) (show RelV (V.ref (ad _)) _ from h1)
        exact .cons ⟨as, hr⟩ (ih fun b hb => hh b (List.mem_cons_of_mem _ hb))
    exact z e hd
  refine PySem.W.sorted_data (R := fun v b => v = Value.ref (ad b)) hl.isList e er hal hk hz (fun b hb => by have := hdp b hb; omega) fun out ho eo => ?_
  obtain ⟨ep, he'⟩ := PyProof.Rows.sortedAll_at s.heap its out.toArray
  have hlen : ((bs.mergeSort (PySem.W.dataLe false enc)).map fun b => V.ref (ad b)).length ≤ sizeLine := by
    rw [List.length_map, List.length_mergeSort]
    exact hz
  exact ⟨.ref _, upd H (s.heap.objs.size + 1) (.lst ((bs.mergeSort (PySem.W.dataLe false enc)).map fun b => V.ref (ad b))), I.laid (t' := s.toks) (fun _ _ => PyProof.Rows.sortedAll_old) (Nat.le_succ _) ⟨hlen, _, ep, each_to eo, he'⟩, rfl, q _ (I.hok.fresh (Nat.le_succ _))⟩
end SK
namespace SK
open PySem PySem.Spec PyProof.Rows L2 LamX NdefX
open K0 (De DeAll XCl spX withX)
def pen (l : Addr) (k lf : Int) : List (Key × V) := [(Sum.inr "cells", V.ref l), (Sum.inr "next", V.int k), (Sum.inr "left", V.int lf)]
theorem pen_cells (l : Addr) (k lf : Int) : valV (pen l k lf) (Sum.inr "cells") = some (.ref l) := by kernel_rfl
theorem pen_next (l : Addr) (k lf : Int) : valV (pen l k lf) (Sum.inr "next") = some (.int k) := by kernel_rfl
theorem pen_left (l : Addr) (k lf : Int) : valV (pen l k lf) (Sum.inr "left") = some (.int lf) := by kernel_rfl
theorem pen_put_next (l : Addr) (k lf j : Int) : putK (pen l k lf) (Sum.inr "next") (.int j) = pen l j lf := by kernel_rfl
theorem pen_put_left (l : Addr) (k lf j : Int) : putK (pen l k lf) (Sum.inr "left") (.int j) = pen l k j := by kernel_rfl
theorem pen_merge (l : Addr) (k lf : Int) : mergeK [] (pen l k lf) = pen l k lf := by kernel_rfl
structure PenAt (H : Hp) (p l : Addr) (ns : List Int) (k lf : Int) : Prop where
  dc : H p = some (.dK (pen l k lf))
  ls : H l = some (.lst (ns.map V.int))
/-- all but p is as it was -/
def SameBut (p : Addr) (H H' : Hp) : Prop := ∀ b o, b ≠ p → H b = some o → H' b = some o
theorem SameBut.trans {p : Addr} {H H1 H2 : Hp} (a : SameBut p H H1) (b : SameBut p H1 H2) : SameBut p H H2 := fun c o n h => b c o n (a c o n h)
theorem SameBut.of {p : Addr} {H H' : Hp} (a : Same H H') : SameBut p H H' := fun c o _ h => a c o h
theorem cut63 {ns : List Int} (h : ns.length ≤ 63) : cutV (ns.map V.int) none (some 63) = ns.map V.int := by
  unfold cutV
  rw [HT.sIx_none, show ((63 : Int)) = ((63 : Nat) : Int) from rfl, HT.sIx_nat, List.drop_zero, List.length_map, Nat.min_eq_right h, Nat.sub_zero, List.take_of_length_le (by rw [List.length_map]; exact Nat.le_refl _)]
def spPen (K : PySem.W.Frag) : Sp := fun vs H Q _ => ∃ (a : Addr) (ns : List Int), vs = [.ref a] ∧ SqL K H a (ns.map V.int) ∧ ns.length ≤ 63 ∧ ∀ (H' : Hp) (p l : Addr), Same H H' → PenAt H' p l ns 0 0 → Q (.ref p) H'
section
variable {P : Program} {w : World} {K : PySem.W.Frag} {mg : Str → Option Value} {base : Heap} {f : Addr} {fd : FuncData}
theorem scPen : FnScope ["script"] ["script"] (defScope (top 10)) := ⟨rfl, rfl, rfl, by decide +kernel, rfl, by decide +kernel, by decide +kernel⟩
theorem ok_pen (F : Fun K "_law_pen_of" "_law_pen_of" (top 10) f fd) (gL : mg "list" = none) : FnOk P w K mg base CX0 1 f fd ["script"] (spPen K) := by
  refine F.ok scPen (fun vs H Q E h => ?_) (fun cdv A outer s H vs Q E hr h => ?_)
  · obtain ⟨a, ns, rfl, _⟩ := h
    rfl
  · obtain ⟨a, ns, rfl, hS, hn, k⟩ := h
    refine ⟨_, pss_one (ps_ret (pe_disp (pps_cons pe_str (pe_callTy call_list_of (by rfl) gL PyProof.Rows.boot_list (pa_cons (pe_slice sl_list (pv 0) po_none (po_some pe_int)) pa_nil)) (pps_cons pe_str pe_int (pps_cons pe_str pe_int pps_nil))) rfl rfl (by simp) (by decide))), ?_⟩
    intro p hp
    refine ⟨_, rfl, 63, rfl, a, ns.map V.int, rfl, ?_, fun q hq => ?_⟩
    · exact Same.seq (fun b o e => by rw [upd_ne (ne_of_none e hp)]; exact e) hS
    rw [cut63 hn]
    refine ⟨q, ns.map V.int, rfl, .inl (.inl (.inl upd_same)), fun l hl => ?_⟩
    have npq : p ≠ q := ne_of_none (H := upd H p (.dK [])) upd_same hq
    have npl : p ≠ l := ne_of_none (H := upd (upd H p (.dK [])) q (.lst (ns.map V.int))) (by rw [upd_ne npq, upd_same]) hl
    refine ⟨by rw [upd_ne npl, upd_ne npq, upd_same], pen l 0 0, rfl, (by show 3 ≤ 15; decide), ?_⟩
    rw [pen_merge]
    refine k _ p l (fun b o e => ?_) ⟨upd_same, ?_⟩
    · have n1 : b ≠ p := ne_of_none e hp
      have e1 : upd H p (.dK []) b = some o := by rw [upd_ne n1]; exact e
      have n2 : b ≠ q := ne_of_none e1 hq
      have e2 : upd (upd H p (.dK [])) q (.lst (ns.map V.int)) b = some o := by rw [upd_ne n2]; exact e1
      have n3 : b ≠ l := ne_of_none e2 hl
      rw [upd_ne n1, upd_ne n3]
      exact e2
    · rw [upd_ne npl.symm, upd_same]
theorem upd_but {p : Addr} {o : HO} (H : Hp) : SameBut p H (upd H p o) := fun c u n h => by
  rw [upd_ne n]
  exact h
/-- the draw: a number below the base; the pen's numbers may change -/
def spDraw : Sp := fun vs H Q _ => ∃ (p l : Addr) (ns : List Int) (k lf b : Int), vs = [.ref p, .int b] ∧ PenAt H p l ns k lf ∧ ns.length ≤ 63 ∧ 0 ≤ k ∧ k ≤ 100000 ∧ 0 ≤ lf ∧ 0 < b ∧ b ≤ 1000 ∧
  ∀ (H' : Hp) (k' lf' d : Int), k' ≤ k + 1 → 0 ≤ k' → 0 ≤ lf' → 0 ≤ d → d < b → SameBut p H H' → PenAt H' p l ns k' lf' → Q (.int d) H'
theorem scD : FnScope ["pen", "many", "digit", "index", "size", "cell", "mixed"] ["pen", "many"] (defScope (top 11)) := ⟨rfl, rfl, rfl, by decide +kernel, rfl, by decide +kernel, by decide +kernel⟩
theorem ok_draw (F : Fun K "_law_draw" "_law_draw" (top 11) f fd) (gI : mg "int" = none) (gN : mg "len" = none) (gA : mg "abs" = none) : FnOk P w K mg base CX0 1 f fd ["pen", "many"] spDraw := by
  refine F.ok scD (fun vs H Q E h => ?_) (fun cdv A outer s H vs Q E hr h => ?_)
  · obtain ⟨p, l, ns, k, lf, b, rfl, _⟩ := h
    rfl
  · obtain ⟨p, l, ns, k, lf, b, rfl, ⟨hd, hl⟩, hn, hk0, hk1, hf, hb0, hb1, kk⟩ := h
    have hu := hu_of hr
    have hu64 := hr.units
    refine ⟨_, pss_cons (ps_if (pt_cmpR op_gt (pe_dget hu (pv 0) pe_str (fun _ _ => rfl)) pe_int (nomark _)) (pss_cons (ps_set (i := 2) scD.nd rfl (Or.inl rfl) (pe_op op_mod (pe_callTy call_int1 (by rfl) gI PyProof.Rows.boot_int (pa_cons (pe_dget hu (pv 0) pe_str (fun _ _ => rfl)) pa_nil)) (pv 1))) (pss_cons (ps_dput hu (pv 0) pe_str (pe_op op_fdiv (pe_dget hu (pv 0) pe_str (fun _ _ => rfl)) (pv 1)) rfl) (pss_one (ps_ret (pv 2))))) pss_nil)
      (pss_cons (ps_par (i := 3) (j := 4) rfl scD.nd rfl rfl (by decide) rfl rfl (pa_cons (pe_dget hu (pv 0) pe_str (fun _ _ => rfl)) (pa_cons (pe_callB call_len_seq (by rfl) gN PySem.boot_len (pa_cons (pe_dget hu (pv 0) pe_str (fun _ _ => rfl)) pa_nil)) pa_nil)) rfl)
      (pss_cons (ps_dput hu (pv 0) pe_str (pe_op op_add (pv 3) pe_int) rfl)
      (pss_cons (ps_if (pt_cmpR op_eq (pv 4) pe_int (nomark _)) (pss_one (ps_ret (pe_op op_mod (pe_callTy call_int1 (by rfl) gI PyProof.Rows.boot_int (pa_cons (pe_op op_add (pe_op op_mul pe_int (pv 3)) pe_int) pa_nil)) (pv 1)))) pss_nil)
      (pss_cons (ps_set (i := 5) scD.nd rfl (Or.inl rfl) (pe_ix ix_list (pe_dget hu (pv 0) pe_str (fun _ _ => rfl)) (pe_op op_mod (pe_callTy call_int1 (by rfl) gI PyProof.Rows.boot_int (pa_cons (pv 3) pa_nil)) (pv 4)) (fun _ _ => rfl)))
      (pss_cons (ps_if ((pw_and (pt_cmpR op_lt (pv 3) (pv 4) (nomark _)) (pw_and1 (pt_cmpR op_ge (pe_callB call_abs (by rfl) gA PyProof.Rows.boot_abs (pa_cons (pv 5) pa_nil)) (pe_op op_pow pe_int pe_int) (nomark _)))).pt)
        (pss_cons (ps_dput hu (pv 0) pe_str (pe_op op_fdiv (pe_op op_sub (pe_callB call_abs (by rfl) gA PyProof.Rows.boot_abs (pa_cons (pv 5) pa_nil)) (pe_op op_pow pe_int pe_int)) (pv 1)) rfl) (pss_one (ps_ret (pe_op op_mod (pe_callTy call_int1 (by rfl) gI PyProof.Rows.boot_int (pa_cons (pe_op op_sub (pe_callB call_abs (by rfl) gA PyProof.Rows.boot_abs (pa_cons (pv 5) pa_nil)) (pe_op op_pow pe_int pe_int)) pa_nil)) (pv 1))))) pss_nil)
      (pss_cons (ps_set (i := 6) scD.nd rfl (Or.inl rfl) (pe_op op_add (pe_op op_mul (pe_op op_mod (pe_callTy call_int1 (by rfl) gI PyProof.Rows.boot_int (pa_cons (pv 5) pa_nil)) pe_int) pe_int) (pe_op op_mul (pe_op op_mul pe_int (pv 3)) (pv 3))))
      (pss_cons (ps_set (i := 6) scD.nd rfl (Or.inl rfl) (pe_op op_mod (pe_callTy call_int1 (by rfl) gI PyProof.Rows.boot_int (pa_cons (pe_op op_add (pe_op op_add (pv 6) (pe_op op_mul pe_int (pv 3))) pe_int) pa_nil)) pe_int))
      (pss_cons (ps_set (i := 6) scD.nd rfl (Or.inl rfl) (pe_op op_mod (pe_callTy call_int1 (by rfl) gI PyProof.Rows.boot_int (pa_cons (pe_op op_add (pe_op op_add (pe_op op_add (pe_op op_mul (pv 6) (pv 6)) (pe_op op_mul pe_int (pv 6))) (pe_op op_mul pe_int (pv 3))) pe_int) pa_nil)) pe_int))
      (pss_one (ps_ret (pe_op op_mod (pe_callTy call_int1 (by rfl) gI PyProof.Rows.boot_int (pa_cons (pe_op op_fdiv (pe_op op_mod (pe_callTy call_int1 (by rfl) gI PyProof.Rows.boot_int (pa_cons (pe_op op_mul (pv 6) (pe_op op_add (pv 6) pe_int)) pa_nil)) pe_int) pe_int) pa_nil)) (pv 1)))))))))))), ?_⟩
    have npl : p ≠ l := ne_of hd hl (by intro z; cases z)
    have gL : DGet H p (.str "left") (some (.int lf)) := by
      have z := DGet.k (k := Sum.inr "left") hd
      rw [pen_left] at z
      exact z
    have gO : DGet H p (.str "next") (some (.int k)) := by
      have z := DGet.k (k := Sum.inr "next") hd
      rw [pen_next] at z
      exact z
    have gC : DGet H p (.str "cells") (some (.ref l)) := by
      have z := DGet.k (k := Sum.inr "cells") hd
      rw [pen_cells] at z
      exact z
    have hlen : (ns.map V.int).length = ns.length := List.length_map _
    refine ⟨V.ref p, rfl, p, V.int lf, rfl, gL, lf, 0, rfl, rfl, _, rfl, ?_⟩
    refine ite2 (fun c => ?_) (fun c => ?_)
    · have c' : 0 < lf := of_decide_eq_true c
      refine ⟨V.ref p, rfl, p, V.int lf, rfl, gL, .inl ⟨lf, rfl, V.int b, rfl, lf, b, rfl, rfl, hb0, ?_⟩⟩
      refine ⟨V.ref p, rfl, p, V.int lf, rfl, gL, V.int b, rfl, lf, b, rfl, rfl, ⟨hb0, by omega⟩, V.ref p, rfl, p, _, rfl, DPut.k (k := Sum.inr "left") hd (by show 3 < sizeLine; decide), V.int (lf % b), rfl, ?_⟩
      rw [pen_put_left]
      exact kk _ k (lf / b) (lf % b) (by omega) hk0 (Int.ediv_nonneg hf (Int.le_of_lt hb0)) (Int.emod_nonneg _ (by omega)) (Int.emod_lt_of_pos _ hb0) (upd_but H) ⟨upd_same, by rw [upd_ne npl.symm]; exact hl⟩
    · refine ⟨V.ref p, rfl, p, V.int k, rfl, gO, V.ref p, rfl, p, V.ref l, rfl, gC, l, ns.map V.int, rfl, .inl (.inl (.inl hl)), V.int k, V.int (ns.length : Nat), by rw [hlen], ?_⟩
      refine ⟨V.int k, rfl, k, 1, rfl, rfl, V.ref p, rfl, p, _, rfl, DPut.k (k := Sum.inr "next") hd (by show 3 < sizeLine; decide), ?_⟩
      rw [pen_put_next]
      have s1 : SameBut p H (upd H p (.dK (pen l (k + 1) lf))) := upd_but H
      have hd1 : upd H p (.dK (pen l (k + 1) lf)) p = some (.dK (pen l (k + 1) lf)) := upd_same
      have hl1 : upd H p (.dK (pen l (k + 1) lf)) l = some (.lst (ns.map V.int)) := by
        rw [upd_ne npl.symm]
        exact hl
      generalize upd H p (.dK (pen l (k + 1) lf)) = H2 at s1 hd1 hl1
      have gC2 : DGet H2 p (.str "cells") (some (.ref l)) := by
        have z := DGet.k (k := Sum.inr "cells") hd1
        rw [pen_cells] at z
        exact z
      have S2 : SqL K H2 l (ns.map V.int) := .inl (.inl hl1)
      refine ⟨V.int (ns.length : Nat), rfl, rfl, _, rfl, ?_⟩
      refine ite2 (fun c2 => ?_) (fun c2 => ?_)
      · refine ⟨V.int k, rfl, 7, k, rfl, rfl, .inl ⟨by decide, by decide⟩, _, 3, rfl, rfl, .inl ⟨_, rfl, V.int b, rfl, _, b, rfl, rfl, hb0, ?_⟩⟩
        exact kk H2 (k + 1) lf _ (Int.le_refl _) (by omega) hf (Int.emod_nonneg _ (by omega)) (Int.emod_lt_of_pos _ hb0) s1 ⟨hd1, hl1⟩
      have hne : 0 < ns.length := by
        rcases Nat.eq_zero_or_pos ns.length with z | z
        · rw [z] at c2
          exact absurd (decide_eq_true rfl) c2
        · exact z
      have hi0 : 0 ≤ k % (ns.length : Int) := Int.emod_nonneg _ (by omega)
      have hi1 : k % (ns.length : Int) < (ns.length : Int) := Int.emod_lt_of_pos _ (by omega)
      obtain ⟨j, hj⟩ : ∃ j : Nat, k % (ns.length : Int) = (j : Int) := ⟨(k % (ns.length : Int)).toNat, (Int.toNat_of_nonneg hi0).symm⟩
      obtain ⟨c, hc⟩ : ∃ c, ns[j]? = some c := ⟨_, List.getElem?_eq_getElem (by omega)⟩
      have hcV : (ns.map V.int)[j]? = some (.int c) := by
        rw [List.getElem?_map, hc]
        all_goals rfl
      refine ⟨V.ref p, rfl, p, V.ref l, rfl, gC2, V.int k, rfl, .inl ⟨k, rfl, V.int (ns.length : Nat), rfl, k, _, rfl, rfl, (by omega), l, ns.map V.int, _, .int c, rfl, rfl, S2, at_of hj hcV, ?_⟩⟩
      refine ⟨V.int k, rfl, V.int (ns.length : Nat), rfl, k, _, rfl, rfl, _, rfl, ?_⟩
      refine ite2 (fun c3 => ?_) (fun c3 => iteF ?_)
      refine ⟨V.int c, rfl, c, rfl, 10, 18, rfl, rfl, ⟨by decide, by decide, by decide⟩, _, _, rfl, rfl, _, rfl, ?_⟩
      refine ite2 (fun c4 => ?_) (fun c4 => ?_)
      · have c4' := of_decide_eq_true c4
        refine ⟨V.int c, rfl, c, rfl, 10, 18, rfl, rfl, ⟨by decide, by decide, by decide⟩, _, _, rfl, rfl, V.int b, rfl, _, b, rfl, rfl, ⟨hb0, by omega⟩, V.ref p, rfl, p, _, rfl, DPut.k (k := Sum.inr "left") hd1 (by show 3 < sizeLine; decide), ?_⟩
        rw [pen_put_left]
        refine ⟨V.int c, rfl, c, rfl, 10, 18, rfl, rfl, ⟨by decide, by decide, by decide⟩, _, _, rfl, rfl, .inl ⟨_, rfl, V.int b, rfl, _, b, rfl, rfl, hb0, ?_⟩⟩
        exact kk _ (k + 1) _ _ (Int.le_refl _) (by omega) (Int.ediv_nonneg (by omega) (Int.le_of_lt hb0)) (Int.emod_nonneg _ (by omega)) (Int.emod_lt_of_pos _ hb0) (s1.trans (upd_but H2)) ⟨upd_same, by rw [upd_ne npl.symm]; exact hl1⟩
      all_goals
        refine ⟨V.int c, rfl, .inl ⟨c, rfl, c, 4294967197, rfl, rfl, (by show (0 : Int) < 4294967197; decide), _, 52711, rfl, rfl, .inr ⟨by decide, by decide⟩, ?_⟩⟩
        refine ⟨V.int k, rfl, 20353, k, rfl, rfl, .inl ⟨by decide, by decide⟩, V.int k, rfl, _, k, rfl, rfl, .inr ⟨by omega, by omega⟩, _, _, rfl, rfl, ?_⟩
        dsimp only
        generalize (c % 4294967197 * 52711 + 20353 * k * k) = e
        refine ⟨V.int e, rfl, V.int k, rfl, 1531, k, rfl, rfl, .inl ⟨by decide, by decide⟩, _, _, rfl, rfl, _, 11, rfl, rfl, .inl ⟨_, rfl, _, 4294967189, rfl, rfl, (by show (0 : Int) < 4294967189; decide), ?_⟩⟩
        dsimp only
        have a0 : 0 ≤ (e + 1531 * k + 11) % 4294967189 := Int.emod_nonneg _ (by decide)
        have a1 : (e + 1531 * k + 11) % 4294967189 < 4294967189 := Int.emod_lt_of_pos _ (by decide)
        generalize (e + 1531 * k + 11) % 4294967189 = m at a0 a1
        refine ⟨V.int m, rfl, V.int m, rfl, m, m, rfl, rfl, .inl ⟨by omega, by omega⟩, V.int m, rfl, 68903, m, rfl, rfl, .inl ⟨by decide, by decide⟩, _, _, rfl, rfl, ?_⟩
        refine ⟨V.int k, rfl, 23, k, rfl, rfl, .inl ⟨by decide, by decide⟩, _, _, rfl, rfl, _, 7, rfl, rfl, .inl ⟨_, rfl, _, 4294967161, rfl, rfl, (by show (0 : Int) < 4294967161; decide), ?_⟩⟩
        dsimp only
        have b0' : 0 ≤ (m * m + 68903 * m + 23 * k + 7) % 4294967161 := Int.emod_nonneg _ (by decide)
        have b1' : (m * m + 68903 * m + 23 * k + 7) % 4294967161 < 4294967161 := Int.emod_lt_of_pos _ (by decide)
        generalize (m * m + 68903 * m + 23 * k + 7) % 4294967161 = u at b0' b1'
        refine ⟨V.int u, rfl, V.int u, rfl, u, 57037, rfl, rfl, u, _, rfl, rfl, .inl ⟨by omega, by omega⟩, .inl ⟨_, rfl, _, 4294967143, rfl, rfl, (by show (0 : Int) < 4294967143; decide), _, 64, rfl, rfl, ⟨by decide, by decide⟩, .inl ⟨_, rfl, V.int b, rfl, _, b, rfl, rfl, hb0, ?_⟩⟩⟩
        exact kk H2 (k + 1) lf _ (Int.le_refl _) (by omega) hf (Int.emod_nonneg _ (by omega)) (Int.emod_lt_of_pos _ hb0) s1 ⟨hd1, hl1⟩
end
end SK
namespace SK
open PySem PySem.Spec PyProof.Rows L2 LamX NdefX
open K0 (De DeAll XCl spX withX)
theorem IxR.or {X : Cx} {r1 r2 : R2} (h1 : IxR X r1) (h2 : IxR X r2) : IxR X (fun x y H Q => r1 x y H Q ∨ r2 x y H Q) := by
  intro value slice pins s σ H x y v u Q I rx ry h hs
  rcases h with h | h
  · exact h1 value slice pins s σ H x y v u Q I rx ry h hs
  · exact h2 value slice pins s σ H x y v u Q I rx ry h hs
theorem CallR.or {X : Cx} {f : Value} {r1 r2 : List V → Hp → VK → Prop} (h1 : CallR X f r1) (h2 : CallR X f r2) : CallR X f (fun xs H Q => r1 xs H Q ∨ r2 xs H Q) := by
  intro pins s σ H xs us Q I r h
  rcases h with h | h
  · exact h1 pins s σ H xs us Q I r h
  · exact h2 pins s σ H xs us Q I r h
/-- a list or a text, and what stands in it -/
def Items (H : Hp) (v : V) (xs : List V) : Prop := (∃ a, v = .ref a ∧ H a = some (.lst xs)) ∨ ∃ z : Str, v = .str z ∧ xs = z.cps.toList.map fun c => V.str ⟨#[c]⟩
def spPick : Sp := fun vs H Q _ => ∃ (p l : Addr) (v : V) (ns : List Int) (k lf : Int) (xs : List V), vs = [.ref p, v] ∧ PenAt H p l ns k lf ∧ ns.length ≤ 63 ∧ 0 ≤ k ∧ k ≤ 100000 ∧ 0 ≤ lf ∧ Items H v xs ∧ 0 < xs.length ∧ xs.length ≤ 1000 ∧
  ∀ (H' : Hp) (k' lf' : Int) (y : V), k' ≤ k + 1 → 0 ≤ k' → 0 ≤ lf' → y ∈ xs → SameBut p H H' → PenAt H' p l ns k' lf' → Q y H'
section
variable {P : Program} {w : World} {K : PySem.W.Frag} {mg : Str → Option Value} {base : Heap} {f fD fP : Addr} {fd fdD fdP : FuncData}
theorem sc28 : FnScope ["pen", "items"] ["pen", "items"] (defScope (top 12)) := ⟨rfl, rfl, rfl, by decide +kernel, rfl, by decide +kernel, by decide +kernel⟩
theorem ok_pick (F : Fun K "_law_pick" "_law_pick" (top 12) f fd) (gN : mg "len" = none) (gD : mg "_law_draw" = some (.ref fD)) (kD : PySem.W.keepIn K (.ref fD) = true) (GD : FnOk P w K mg base CX0 1 fD fdD ["pen", "many"] spDraw)
    (bD : Binds K fdD ["pen", "many"] []) : FnOk P w K mg base CX0 2 f fd ["pen", "items"] spPick := by
  refine F.ok sc28 (fun vs H Q E h => ?_) (fun cdv A outer s H vs Q E hr h => ?_)
  · obtain ⟨p, l, v, ns, k, lf, xs, rfl, _⟩ := h
    rfl
  · obtain ⟨p, l, v, ns, k, lf, xs, rfl, hp, hn, hk0, hk1, hf, hv, h0, h1, kk⟩ := h
    refine ⟨_, pss_one (ps_ret (pe_ix (IxR.or ix_list ix_str) (pv 1) (pe_call GD hr (by rfl) gD kD bD .nil pass0 (pa_cons (pv 0) (pa_cons (pe_callB (CallR.or call_len_seq call_len_str) (by rfl) gN PySem.boot_len (pa_cons (pv 1) pa_nil)) pa_nil))) (fun _ _ => rfl))), ?_⟩
    rcases hv with ⟨a, rfl, ha⟩ | ⟨z, rfl, rfl⟩
    · have nap : a ≠ p := ne_of ha hp.dc (by intro z; cases z)
      refine ⟨V.ref a, rfl, V.ref p, rfl, V.ref a, rfl, .inl ⟨a, xs, rfl, .inl (.inl (.inl ha)), p, l, ns, k, lf, _, rfl, hp, hn, hk0, hk1, hf, by omega, by omega, fun H' k' lf' d e1 e2 e3 e4 e5 s5 P5 => ?_⟩⟩
      obtain ⟨j, hj⟩ : ∃ j : Nat, d = (j : Int) := ⟨d.toNat, (Int.toNat_of_nonneg e4).symm⟩
      obtain ⟨v, hv⟩ : ∃ v, xs[j]? = some v := ⟨_, List.getElem?_eq_getElem (by omega)⟩
      exact .inl ⟨a, xs, d, v, rfl, rfl, .inl (.inl (s5 _ _ nap ha)), at_of hj hv, kk H' k' lf' v e1 e2 e3 (List.mem_of_getElem? hv) s5 P5⟩
    · rw [List.length_map] at h0 h1
      have ez : z.length = z.cps.toList.length := by rw [Array.length_toList]; rfl
      have hz : z.length ≤ sizeLine := by
        have t : (1000 : Nat) < sizeLine := by decide
        omega
      refine ⟨V.str z, rfl, V.ref p, rfl, V.str z, rfl, .inr ⟨z, rfl, hz, p, l, ns, k, lf, _, rfl, hp, hn, hk0, hk1, hf, by omega, by omega, fun H' k' lf' d e1 e2 e3 e4 e5 s5 P5 => ?_⟩⟩
      obtain ⟨j, hj⟩ : ∃ j : Nat, d = (j : Int) := ⟨d.toNat, (Int.toNat_of_nonneg e4).symm⟩
      obtain ⟨c, hc⟩ : ∃ c, z.cps.toList[j]? = some c := ⟨_, List.getElem?_eq_getElem (by omega)⟩
      exact .inr ⟨z, d, c, rfl, rfl, hz, (by rw [hj]; exact atI_nat hc), kk H' k' lf' _ e1 e2 e3 (List.mem_map.mpr ⟨c, List.mem_of_getElem? hc, rfl⟩) s5 P5⟩
def six : List Str := ["ab", "ba", "cab", "zyxw", "qa", "abcdefghijklmnopqrstuvwxyz"]
def spSix : Sp := fun vs H Q _ => ∃ (p l : Addr) (ns : List Int) (k lf : Int), vs = [.ref p] ∧ PenAt H p l ns k lf ∧ ns.length ≤ 63 ∧ 0 ≤ k ∧ k ≤ 100000 ∧ 0 ≤ lf ∧
  ∀ (H' : Hp) (k' lf' : Int) (x : Str), k' ≤ k + 1 → 0 ≤ k' → 0 ≤ lf' → x ∈ six → SameBut p H H' → PenAt H' p l ns k' lf' → Q (.str x) H'
theorem sc30 : FnScope ["pen"] ["pen"] (defScope (top 14)) := ⟨rfl, rfl, rfl, by decide +kernel, rfl, by decide +kernel, by decide +kernel⟩
theorem ok_six (F : Fun K "_law_letters_of" "_law_letters_of" (top 14) f fd) (gP : mg "_law_pick" = some (.ref fP)) (kP : PySem.W.keepIn K (.ref fP) = true) (GP : FnOk P w K mg base CX0 2 fP fdP ["pen", "items"] spPick)
    (bP : Binds K fdP ["pen", "items"] []) : FnOk P w K mg base CX0 3 f fd ["pen"] spSix := by
  refine F.ok sc30 (fun vs H Q E h => ?_) (fun cdv A outer s H vs Q E hr h => ?_)
  · obtain ⟨p, l, ns, k, lf, rfl, _⟩ := h
    rfl
  · obtain ⟨p, l, ns, k, lf, rfl, hp, hn, hk0, hk1, hf, kk⟩ := h
    refine ⟨_, pss_one (ps_ret (pe_call GP hr (by rfl) gP kP bP .nil pass0 (pa_cons (pv 0) (pa_cons (pe_lst (pa_cons pe_str (pa_cons pe_str (pa_cons pe_str (pa_cons pe_str (pa_cons pe_str (pa_cons pe_str pa_nil))))))) pa_nil)))), ?_⟩
    refine ⟨V.ref p, rfl, (by show 6 ≤ sizeLine; decide), fun a na => ?_⟩
    refine ⟨p, l, .ref a, ns, k, lf, six.map V.str, rfl, ⟨upd_new na _ _ hp.dc, upd_new na _ _ hp.ls⟩, hn, hk0, hk1, hf, .inl ⟨a, rfl, upd_same⟩, by decide, by decide, fun H' k' lf' y e1 e2 e3 hy s5 P5 => ?_⟩
    obtain ⟨x, hx, rfl⟩ := List.mem_map.mp hy
    exact kk H' k' lf' x e1 e2 e3 hx ((SameBut.of (upd_new na)).trans s5) P5
end
end SK
namespace SK
open PySem PySem.Spec PyProof.Rows L2 LamX NdefX
open K0 (De DeAll XCl spX withX)
theorem eqv_nilD (ds : List PyData) : PyData.eqv (.list ds) (.list []) = ds.isEmpty := by
  cases ds with
  | nil => simp [PyData.eqv, PyData.eqvAll]
  | cons n r => simp [PyData.eqv, PyData.eqvAll]
theorem seq_ix {d : Int} {j n : Nat} (h : d = (j : Int)) (hj : j < n) : seqIndex? d n = some j := by
  subst h
  unfold seqIndex?
  have h1 : ¬ ((j : Int) < 0) := by omega
  have h2 : (j : Int) < (n : Int) := by omega
  simp [h1, h2, hj]
end SK
namespace SK
open PySem PySem.Spec PyProof.Rows L2 LamX NdefX
open K0 (De DeAll XCl spX withX)
theorem cut3_mem {ls : Str} {c : Nat} (h : c ∈ (cutS ls none (some 3)).cps.toList) : c ∈ ls.cps.toList := by
  unfold cutS at h
  rw [List.toList_toArray] at h
  exact List.mem_of_mem_drop (List.mem_of_mem_take h)
theorem cut3_len {ls : Str} (h : 0 < ls.cps.size) : 0 < (cutS ls none (some 3)).cps.toList.length ∧ (cutS ls none (some 3)).cps.toList.length ≤ 1000 := by
  unfold cutS
  rw [List.toList_toArray, HT.sIx_none, show ((3 : Int)) = ((3 : Nat) : Int) from rfl, HT.sIx_nat, List.drop_zero, Nat.sub_zero, List.length_take, Array.length_toList]
  have e : ls.length = ls.cps.size := rfl
  omega
theorem flat_strs (ws : List Str) : (ws.map V.str).all flatV = true := by
  rw [List.all_map, List.all_eq_true]
  exact fun _ _ => rfl
end SK
namespace SK
open PySem PySem.Spec PyProof.Rows L2 LamX NdefX
open K0 (De DeAll XCl spX withX)
def Al (K : PySem.W.Frag) (H0 : Hp) (σ : St) (te : TE) (d : PyData) : Prop := ∀ (H : Hp) (R : VK), Same H0 H → (∀ H' v, Same H H' → De K H' v d → R v H') → te σ H R
def AlAll (K : PySem.W.Frag) (H0 : Hp) (σ : St) (ta : TA) (ds : List PyData) : Prop := ∀ (H : Hp) (R : List V → Hp → Prop), Same H0 H → (∀ H' vs, Same H H' → DeAll K H' vs ds → R vs H') → ta σ H R
section
variable {K : PySem.W.Frag} {H0 : Hp} {σ : St}
theorem al_non : Al K H0 σ (tC .non) .none := fun H R _ k => k H _ (Same.refl _) .non
theorem al_bl {b : Bool} : Al K H0 σ (tC (.bl b)) (.bool b) := fun H R _ k => k H _ (Same.refl _) (.bl b)
theorem al_int {i : Int} : Al K H0 σ (tC (.int i)) (.int i) := fun H R _ k => k H _ (Same.refl _) (.int i)
theorem al_str {x : Str} : Al K H0 σ (tC (.str x)) (.str x) := fun H R _ k => k H _ (Same.refl _) (.str x)
theorem al_var {i : Nat} {v : V} {d : PyData} (h : σ[i]? = some (some v)) (hd : De K H0 v d) : Al K H0 σ (tVar i) d := fun H R s k => ⟨v, h, k H v (Same.refl _) (de_mono s _ _ hd)⟩
theorem al_new : Al K H0 σ tDNewK (.dict []) := fun H R s k p np => k _ _ (upd_new np) (.dic upd_same)
theorem al_nil : AlAll K H0 σ tNil [] := fun H R s k => k H [] (Same.refl _) .nil
theorem al_cons {te : TE} {ta : TA} {d : PyData} {ds : List PyData} (h1 : Al K H0 σ te d) (h2 : AlAll K H0 σ ta ds) : AlAll K H0 σ (tCons te ta) (d :: ds) := fun H R s k => by
  refine h1 H _ s fun H1 v s1 hd => ?_
  exact h2 H1 _ (s.trans s1) fun H2 vs s2 hds => k H2 (v :: vs) (s1.trans s2) (.cons (de_mono s2 _ _ hd) hds)
theorem al_tup {ta : TA} {ds : List PyData} (h : AlAll K H0 σ ta ds) (hz : ds.length ≤ 1000) : Al K H0 σ (tTup ta) (.tuple ds) := fun H R s k => by
  refine h H _ s fun H1 vs s1 hds => ⟨?_, fun p np => ?_⟩
  · rw [deAll_len hds]
    exact Nat.le_trans hz (by decide)
  · exact k _ _ (s1.trans (upd_new np)) (.tup upd_same (de_monoAll (upd_new np) _ _ hds))
theorem al_lst {ta : TA} {ds : List PyData} (h : AlAll K H0 σ ta ds) (hz : ds.length ≤ 1000) : Al K H0 σ (tLst ta) (.list ds) := fun H R s k => by
  refine h H _ s fun H1 vs s1 hds => ⟨?_, fun p np => ?_⟩
  · rw [deAll_len hds]
    exact Nat.le_trans hz (by decide)
  · exact k _ _ (s1.trans (upd_new np)) (.lst upd_same (de_monoAll (upd_new np) _ _ hds))
theorem deAll_app {H : Hp} : ∀ {xs ys : List V} {ds es : List PyData}, DeAll K H xs ds → DeAll K H ys es → DeAll K H (xs ++ ys) (ds ++ es)
  | _, _, _, _, .nil, h => h
  | _, _, _, _, .cons h t, h2 => .cons h (deAll_app t h2)
theorem al_cat {t1 t2 : TE} {ds es : List PyData} (h1 : Al K H0 σ t1 (.list ds)) (h2 : Al K H0 σ t2 (.list es)) (hz : ds.length + es.length ≤ 1000) : Al K H0 σ (tOp rCat t1 t2) (.list (ds ++ es)) := fun H R s k => by
  refine h1 H _ s fun H1 v s1 hd => ?_
  refine h2 H1 _ (s.trans s1) fun H2 u s2 he => ?_
  cases de_mono s2 _ _ hd with
  | @lst a xs _ ha hx =>
    cases he with
    | @lst b ys _ hb hy =>
      refine ⟨a, b, xs, ys, rfl, rfl, ha, hb, ?_, fun p np => ?_⟩
      · rw [deAll_len hx, deAll_len hy]
        exact Nat.le_trans hz (by decide)
      · exact k _ _ ((s1.trans s2).trans (upd_new np)) (.lst upd_same (de_monoAll (upd_new np) _ _ (deAll_app hx hy)))
end
end SK
/-! ### a text is no dict -/
namespace PySem.SeqAt
open PySem
section
variable {A : Around} {s : Shared}
theorem dict_eq_no_str (l : Addr) (es : Array DictEntry) (n : Nat) (dd : Option Addr) (sl : Array (Option Value)) (b : Str) (u : Tok) :
    Meets (Builtin.«dict.__eq__» ⟨[.ref l, .str b u], []⟩) (fun _ R s => s.heap.get? l = some { cls := .type "dict", dict := dd, data := .dict es n, slots := sl } ∧ R (.ok (.ret .notImplemented)) s) :=
  .of_wp fun prog w A R s h => by
    obtain ⟨hp, g, d, tk, os⟩ := s
    obtain ⟨hl, h⟩ := h
    have f1 := F.sub_str_dict
    wp_walk using wpAny_loadPart' hl, wpAny_load hl
    exact ⟨_, rfl, h⟩
theorem str_eq_no_dict (b : Str) (u : Tok) (l : Addr) (es : Array DictEntry) (n : Nat) (dd : Option Addr) (sl : Array (Option Value)) :
    Meets (Builtin.«str.__eq__» ⟨[.str b u, .ref l], []⟩) (fun _ R s => s.heap.get? l = some { cls := .type "dict", dict := dd, data := .dict es n, slots := sl } ∧ R (.ok (.ret .notImplemented)) s) :=
  .of_wp fun prog w A R s h => by
    obtain ⟨hp, g, d, tk, os⟩ := s
    obtain ⟨hl, h⟩ := h
    wp_walk using wpAny_loadPart' hl, wpAny_load hl
    exact ⟨_, rfl, h⟩
theorem rc_str_dict {l : Addr} {es : Array DictEntry} {n : Nat} {dd : Option Addr} {sl : Array (Option Value)} (b : Str) (u : Tok) (ho : s.heap.get? l = some { cls := .type "dict", dict := dd, data := .dict es n, slots := sl }) (hu : A.units < cLine) : RcAt A s (.str b u) (.ref l) false := fun prog w E Q h =>
  rc_eq_decline_or (k := false) (typeIs_str s b u) ⟨_, ho, rfl⟩ (by decide) F.sub_dict_str F.slot_str_eq F.slot_dict_eq_refl
    (fun _ hq => call_meets F.slot_str_eq (typeIs_str s b u) F.entry_str_eq (F.args_str_eq_2 _ _) (str_eq_no_dict b u l es n dd sl) ⟨ho, hq⟩)
    (fun _ hq => call_meets F.slot_dict_eq_refl ⟨_, ho, rfl⟩ F.entry_dict_eq (F.args_dict_eq_2 _ _) (dict_eq_no_str l es n dd sl b u) ⟨ho, hq⟩)
    (fun _ hq => wpAny_of_eq (rfl : isSame (.str b u) (.ref l) = pure false) hq) (.inr hu) h
theorem eq_str_dict {l : Addr} {es : Array DictEntry} {n : Nat} {dd : Option Addr} {sl : Array (Option Value)} (b : Str) (u : Tok) (ho : s.heap.get? l = some { cls := .type "dict", dict := dd, data := .dict es n, slots := sl }) (hu : A.units < cLine) : EqAt A s (.str b u) (.ref l) false := fun prog w E Q h => by
  unfold eqBool
  refine wpAny_holding (wpAny_ite_split (fun hab => absurd (eq_of_beq hab) nofun) fun _ => ?_)
  exact wpAny_bind (rc_str_dict b u ho hu prog w E _ (wpAny_truthy_bool h))
end
end PySem.SeqAt
namespace SK
open PySem PySem.Spec PyProof.Rows L2 LamX NdefX
open K0 (De DeAll XCl spX withX)
/-! ### any data not in a tuple of texts -/
def rNotT (K : PySem.W.Frag) : R2 := fun x y H Q => rIn K true x y H Q ∨ ∃ (p a : Addr) (d : PyData) (ts : List Str), x = .ref a ∧ y = .ref p ∧ SqT K H p (ts.map V.str) ∧ De K H (.ref a) d ∧ Q (.bl true) H
theorem op_notT {X : Cx} (hu : X.A.units + 64 < cLine) : OpR X (compareOp .NotIn) (rNotT X.K) := by
  intro pins s σ H x y v u Q I rx ry h
  rcases h with h | ⟨p, a, d, ts, rfl, rfl, hT, hd, q⟩
  · exact op_notIn_seq pins s σ H x y v u Q I rx ry h
  obtain rfl : v = Value.ref a := rx
  obtain rfl : u = Value.ref p := ry
  obtain ⟨its, r, pl, hz⟩ := I.tuple hT
  have hu1 : X.A.in1.units < cLine := by
    show X.A.units + 1 < cLine
    omega
  refine SeqAt.notIn_tupleAt (fun _ => false) pl (fun w hw => ?_) ⟨.bl true, H, I, ?_, q⟩
  · have hw' : w ∈ its := by simpa using hw
    have tx : ∀ {xs : List Str} {us : List Value}, Vals (xs.map V.str) us → ∀ w ∈ us, ∃ z t, w = Value.str z t := fun {xs us} => by
      intro rv
      induction xs generalizing us with
      | nil =>
        cases rv
        intro w hw
        cases hw
      | cons z zs ih =>
        cases rv with
        | cons h1 h2 =>
          intro w hw
          rcases List.mem_cons.mp hw with rfl | hw
          · obtain ⟨t, e⟩ := h1
            exact ⟨z, t, e⟩
          · exact ih h2 w hw
    obtain ⟨z, t, rfl⟩ := tx r w hw'
    cases hd with
    | lst ha hds =>
      obtain ⟨js, rj, pj, hj⟩ := I.list (.inl (.inl ha))
      exact SeqAt.EqAt.str_list z t pj.isList hu1
    | tup ha hds =>
      obtain ⟨js, rj, pj, hj⟩ := I.tuple (.inl (.inl ha))
      exact SeqAt.EqAt.str_tuple z t pj hu1
    | dic ha =>
      obtain ⟨_, _, vs, rv, o, es, ep, ho, hx, hdd, _, hp, _⟩ := (show ObjOk X.prog X.w H s.heap a (.dK []) from I.hok a _ ha)
      obtain ⟨oc, od, dt, sl⟩ := o
      have hc : oc = .type "dict" := hx.1
      have hdd : dt = .dict es ep := hdd
      subst hc hdd
      exact SeqAt.eq_str_dict z t ho hu1
  · have e : its.toArray.any (fun _ => false) = false := by simp
    show RelV (V.bl true) (Value.bool (!its.toArray.any fun _ => false))
    rw [e]
    rfl
/-! ### sorted of texts, a list or a tuple, any length -/
def srt (ws : List Str) : List Str := ws.mergeSort (PySem.W.dataLe false PyData.str)
def rSrt (K : PySem.W.Frag) : List V → Hp → VK → Prop := fun xs H Q => ∃ (a : Addr) (ws : List Str), xs = [.ref a] ∧ (SqL K H a (ws.map V.str) ∨ SqT K H a (ws.map V.str)) ∧ ∀ p, H p = none → Q (.ref p) (upd H p (.lst ((srt ws).map V.str)))
end SK
namespace PyProof.Rows
open PySem PySem.Calls
section
variable {prog : Program} {w : World} {A : Around} {E : Value → Shared → Prop} {s : Shared}
theorem tupled {l : Addr} {vs : List Value} {Q : List Value → Shared → Prop} (hl : s.heap.IsTuple l vs.toArray) (hsz : vs.length ≤ sizeLine)
    (k : Q vs { s with heap := (s.heap.push (seqObj "list" #[] 0)).update s.heap.objs.size (Obj.mapSeq (· ++ vs.toArray)) }) : wpAny (model prog w) A (collect (.ref l)) Q E s := by
  obtain ⟨ot, hot, hct, nt, hdt⟩ := id hl
  unfold collect
  refine wpAny_bind (wpAny_runValue (codeAny_builtin entry_proto_collect' ?_))
  show wpAny _ _ (do again (.builtin "list.__iadd__" ⟨[← newList [], Value.ref l], []⟩)) _ _ s
  refine wpAny_bind (wpAny_newList (wpAny_pure ⟨Code.quiet_builtin _ (by decide +kernel), codeAny_builtin entry_list_iadd' ?_⟩))
  show wpAny _ _ (Builtin.List.listExtendWith (Value.ref s.heap.objs.size) (Value.ref l) (Value.ref s.heap.objs.size)) _ _ { s with heap := s.heap.push (seqObj "list" #[] 0) }
  unfold Builtin.List.listExtendWith
  have hot' : (s.heap.push (seqObj "list" #[] 0)).get? l = some ot := Heap.get?_push_of_some _ hot
  have new0 : (s.heap.push (seqObj "list" #[] 0)).get? s.heap.objs.size = some (seqObj "list" #[] 0) := Heap.get?_push_size _ rfl
  refine wpAny_bind (wpAny_typeOf (T := "tuple") ⟨ot, hot', hct⟩ ?_)
  have ht : (Value.type "tuple" == Value.type "tuple") = true := by rfl
  rw [if_pos (by rw [ht]; simp)]
  refine wpAny_bind (listItems_at hot' hdt ?_)
  refine wpAny_bind (listItems_at (xs := #[]) (n := 0) new0 rfl ?_)
  rw [if_neg (show ¬ ((!(#[] : Array Value).isEmpty && _) = true) by simp)]
  have room : (#[] ++ vs.toArray).size ≤ sizeLine + 1 := by
    simp only [Array.size_append, List.size_toArray, List.length_nil]
    omega
  refine wpAny_bind (listUpdate_at (xs := #[]) (n := 0) new0 rfl ?_ (Nat.zero_le _) room)
  refine wpAny_pure ?_
  show wpAny _ _ (do
      let ob ← load s.heap.objs.size
      match ob.data with
      | .seq ys _ => pure ys.toList
      | _ => unsupported "internal:collect") _ _ { s with heap := (s.heap.push (seqObj "list" #[] 0)).update s.heap.objs.size (Obj.mapSeq (· ++ vs.toArray)) }
  refine wpAny_bind (wpAny_load (get?_update_seq new0 _) ?_)
  show wpAny _ _ (pure ((#[] : Array Value) ++ vs.toArray).toList) _ _ _
  have all : ((#[] : Array Value) ++ vs.toArray).toList = vs := by simp
  rw [all]
  exact wpAny_pure k
end
end PyProof.Rows
namespace PySem.W
open PySem PyProof.Rows PySem.Calls
section
variable {prog : Program} {w : World} {A : Around} {E : Value → Shared → Prop} {s : Shared} {β : Type} {vs : List Value} {bs : List β} {enc : β → PyData} {R : Value → β → Prop}
theorem sortT {l : Addr} {vs : List Value} {kw : List (Str × Value)} {Q : Value → Shared → Prop} (hl : s.heap.IsTuple l vs.toArray) (hL : vs.length ≤ sizeLine) (a1 : argsOk "sorted" ⟨[.ref l], kw⟩) (a2 : ∀ x, argsOk "list.sort" ⟨[.ref x], kw⟩)
    (h : ∀ E' : Value → Shared → Prop, wpAny (model prog w) A.in1.in1 (Builtin.«list.sort» ⟨[.ref (s.heap.objs.size + 1)], kw⟩) (fun f s' => f = .done (.ret .none) ∧ Q (.ref (s.heap.objs.size + 1)) s') E' { s with heap := copyHeap s.heap vs }) :
    wpAny (model prog w) A (call (.builtin "sorted") [.ref l] kw) Q E s := by
  refine call_function_entry_kw kind_sorted plain_sorted entry_sorted a1 ?_
  unfold Builtin.«sorted»
  refine wpAny_bind (m := checkCount "sorted" 1 1 _) (wpAny_pure (wpAny_bind (tupled hl hL ?_)))
  refine wpAny_bind (wpAny_newList ?_ hL)
  have len : ((s.heap.push (seqObj "list" #[] 0)).update s.heap.objs.size (Obj.mapSeq (· ++ vs.toArray))).objs.size = s.heap.objs.size + 1 := by
    rw [Heap.size_update, size_push']
  show wpAny _ _ _ _ _ ({ s with heap := copyHeap s.heap vs } : Shared)
  rw [len]
  refine wpAny_bind (wpAny_holding (wpAny_call_entry_kw slot_list_sort ⟨_, copyHeap_at s.heap vs, rfl⟩ entry_list_sort ?body (a2 _)))
  case body =>
    refine wpAny_mono (h _) (fun f s' hf => ?_) fun _ _ z => z
    obtain ⟨rfl, q⟩ := hf
    exact ⟨_, rfl, wpAny_pure ⟨_, rfl, q⟩⟩
theorem sortedT {l : Addr} {Q : Value → Shared → Prop} (hl : s.heap.IsTuple l vs.toArray) (e : EachIs R vs bs) (er : EachIs (fun v b => ∃ as, Reads s.heap v (enc b) as) vs bs) (hal : AllAlike (bs.map enc)) (hk : Sortable (bs.map enc)) (hL : bs.length ≤ sizeLine)
    (hu : ∀ b, b ∈ bs → A.units + 2 + (enc b).depth < cLine) (h : ∀ out, out.length = bs.length → EachIs R out (bs.mergeSort (dataLe false enc)) → Q (.ref (s.heap.objs.size + 1)) { s with heap := sortedAll s.heap vs (List.toArray out) }) :
    wpAny (model prog w) A (call (.builtin "sorted") [.ref l]) Q E s := by
  have er2 : EachIs (fun v b => ∃ as, Reads (sortingHeap (copyHeap s.heap vs) (s.heap.objs.size + 1) vs) v (enc b) as) vs bs := er.mono fun _ _ ⟨as, r⟩ => ⟨as, PyProof.Rows.Reads.keeps (fun _ _ => sorting_copy_old) r⟩
  have S : SortsAt prog w A.in1.in1 { s with heap := sortingHeap (copyHeap s.heap vs) (s.heap.objs.size + 1) vs } _ vs := SortsAt.data (s := { s with heap := sortingHeap (copyHeap s.heap vs) (s.heap.objs.size + 1) vs }) (each_map (R := fun v d => ∃ as, Reads (sortingHeap (copyHeap s.heap vs) (s.heap.objs.size + 1) vs) v d as) enc er2) hal hk (bound_map hu)
  have hL2 : vs.length ≤ sizeLine := by rw [e.length]; exact hL
  exact sortT hl hL2 (args_sorted1 _) (fun _ => args_list_sort _) fun _ => list_sort_vals (s := { s with heap := copyHeap s.heap vs }) (copyHeap_at s.heap vs) S hL2 ⟨rfl, h _ (by rw [sortVals_length false rfl]; exact e.length) (sortVals_data false e er2 hal)⟩
end
end PySem.W
namespace SK
open PySem PySem.Spec PyProof.Rows L2 LamX NdefX
open K0 (De DeAll XCl spX withX)
theorem strs_of : ∀ {ws : List Str} {us : List Value}, Vals (ws.map V.str) us → PySem.W.EachIs (fun v b => ∃ t, v = Value.str b t) us ws
  | [], [], _ => .nil
  | [], _ :: _, h => by cases h
  | _ :: _, [], h => by cases h
  | w :: ws, u :: us, h => by
    cases h with
    | cons h1 h2 => exact .cons h1 (strs_of h2)
theorem strs_to : ∀ {us : List Value} {ws : List Str}, PySem.W.EachIs (fun v b => ∃ t, v = Value.str b t) us ws → Vals (ws.map V.str) us
  | _, _, .nil => .nil
  | _, _, .cons h1 h2 => .cons h1 (strs_to h2)
theorem strs_alike (ws : List Str) : PySem.W.AllAlike (ws.map PyData.str) := fun d hd e he => by
  obtain ⟨x, _, rfl⟩ := List.mem_map.mp hd
  obtain ⟨y, _, rfl⟩ := List.mem_map.mp he
  simp [PySem.W.alike]
theorem strs_sortable (ws : List Str) : PySem.W.Sortable (ws.map PyData.str) := .inr fun d hd => by
  obtain ⟨x, _, rfl⟩ := List.mem_map.mp hd
  exact ⟨(fun z => nomatch z), fun xs z => nomatch z⟩
theorem cr_srt {X : Cx} (hu : X.A.units + 64 < cLine) : CallR X (.builtin "sorted") (rSrt X.K) := by
  intro pins s σ H xs us Q I r h
  obtain ⟨a, ws, rfl, hS, q⟩ := h
  obtain ⟨u, rfl, ru⟩ := vals1 r
  obtain rfl : u = Value.ref a := ru
  have rd : ∀ {us : List Value} {cs : List Str}, PySem.W.EachIs (fun v b => ∃ t, v = Value.str b t) us cs → PySem.W.EachIs (fun v b => ∃ as, Reads s.heap v (PyData.str b) as) us cs := fun {us cs} ee => by
    induction ee with
    | nil => exact .nil
    | cons h1 h2 ih =>
      obtain ⟨t, rfl⟩ := h1
      exact .cons ⟨_, Reads.str _ t⟩ ih
  have dep : ∀ b : Str, b ∈ ws → X.A.units + 2 + (PyData.str b).depth < cLine := fun b _ => by
    simp only [PyData.depth]
    omega
  have fin : ∀ (its out : List Value), ws.length ≤ sizeLine → PySem.W.EachIs (fun v b => ∃ t, v = Value.str b t) out (ws.mergeSort (PySem.W.dataLe false PyData.str)) → ∃ (v : V) (H' : Hp), Inv X pins σ H' { s with heap := sortedAll s.heap its (List.toArray out) } ∧ RelV v (.ref (s.heap.objs.size + 1)) ∧ Q v H' := fun its out hz eo => by
    obtain ⟨ep, he'⟩ := PyProof.Rows.sortedAll_at s.heap its out.toArray
    have hlen : ((srt ws).map V.str).length ≤ sizeLine := by
      unfold srt
      rw [List.length_map, List.length_mergeSort]
      exact hz
    exact ⟨.ref _, upd H (s.heap.objs.size + 1) (.lst ((srt ws).map V.str)), I.laid (t' := s.toks) (fun _ _ => PyProof.Rows.sortedAll_old) (Nat.le_succ _) ⟨hlen, _, ep, strs_to eo, he'⟩, rfl, q _ (I.hok.fresh (Nat.le_succ _))⟩
  rcases hS with hS | hS
  · obtain ⟨its, rv, hl, hz⟩ := I.list hS
    rw [List.length_map] at hz
    have e := strs_of rv
    exact PySem.W.sorted_data (R := fun v b => ∃ t, v = Value.str b t) hl.isList e (rd e) (strs_alike ws) (strs_sortable ws) hz dep fun out ho eo => fin its out hz eo
  · obtain ⟨its, rv, hl, hz⟩ := I.tuple hS
    rw [List.length_map] at hz
    have e := strs_of rv
    exact PySem.W.sortedT (R := fun v b => ∃ t, v = Value.str b t) hl e (rd e) (strs_alike ws) (strs_sortable ws) hz dep fun out ho eo => fin its out hz eo
/-! ### in a drawn order, whatever the items -/
theorem erase_perm {α : Type} {y : α} : ∀ {l : List α} {j : Nat}, l[j]? = some y → (y :: l.eraseIdx j).Perm l
  | [], j, h => by simp at h
  | x :: l, 0, h => by
    simp at h
    subst h
    exact .refl _
  | x :: l, j + 1, h => by
    have ih := erase_perm (l := l) (j := j) (by simpa using h)
    exact (List.Perm.swap x y _).trans (ih.cons x)
structure ShufR (K : PySem.W.Frag) (R : Hp → V → Prop) : Prop where
  mono : ∀ {H H' : Hp} {x : V} {p : Addr} {kv : List (Key × V)}, R H x → H p = some (.dK kv) → SameBut p H H' → R H' x
  data : ∀ {H : Hp} {zs : List V}, (∀ z ∈ zs, R H z) → ∃ ds, DpAll K H zs ds ∧ SeqAt.shaped (.list ds) = true ∧ ds.length = zs.length
def spShufG (K : PySem.W.Frag) (R : Hp → V → Prop) : Sp := fun vs H Q _ => ∃ (p l a : Addr) (ns : List Int) (k lf : Int) (xs : List V), vs = [.ref p, .ref a] ∧ PenAt H p l ns k lf ∧ ns.length ≤ 63 ∧ 0 ≤ k ∧ k ≤ 90000 ∧ 0 ≤ lf ∧ SqL K H a xs ∧ xs.length ≤ 900 ∧ (∀ x ∈ xs, R H x) ∧
  ∀ (H' : Hp) (k' lf' : Int) (b : Addr) (ys : List V), k' ≤ k + xs.length → 0 ≤ k' → 0 ≤ lf' → ys.Perm xs → SameBut p H H' → PenAt H' p l ns k' lf' → H' b = some (.lst ys) → H b = none → Q (.ref b) H'
section
variable {P : Program} {w : World} {K : PySem.W.Frag} {mg : Str → Option Value} {base : Heap} {f fD fP : Addr} {fd fdD fdP : FuncData} {R : Hp → V → Prop}
theorem scShuf : FnScope ["pen", "items", "rest", "found"] ["pen", "items"] (defScope (top 13)) := ⟨rfl, rfl, rfl, by decide +kernel, rfl, by decide +kernel, by decide +kernel⟩
theorem ok_shufG (SR : ShufR K R) (F : Fun K "_law_shuffled" "_law_shuffled" (top 13) f fd) (gN : mg "len" = none) (gL : mg "list" = none) (gD : mg "_law_draw" = some (.ref fD)) (kD : PySem.W.keepIn K (.ref fD) = true) (GD : FnOk P w K mg base CX0 1 fD fdD ["pen", "many"] spDraw)
    (bD : Binds K fdD ["pen", "many"] []) : FnOk P w K mg base CX0 2 f fd ["pen", "items"] (spShufG K R) := by
  refine F.ok scShuf (fun vs H Q E h => ?_) (fun cdv A outer s H vs Q E hr h => ?_)
  · obtain ⟨p, l, a, ns, k, lf, xs, rfl, _⟩ := h
    rfl
  · obtain ⟨p, l, a, ns, k, lf, xs, rfl, hp, hn, hk0, hk1, hf, hS, hz, hx, kk⟩ := h
    have hu64 := hr.units
    refine ⟨_, pss_cons (ps_par (i := 2) (j := 3) rfl scShuf.nd rfl rfl (by decide) rfl rfl (pa_cons (pe_callTy call_list_of (by rfl) gL PyProof.Rows.boot_list (pa_cons (pv 1) pa_nil)) (pa_cons (pe_lst pa_nil) pa_nil)) rfl)
      (pss_cons (ps_while PassesOwn.never (pt_cmpR (op_neD hu64) (pv 2) (pe_lst pa_nil) (nomark _)) (pss_one (ps_expr (pe_bm PySem.F.plainAttrs_list PySem.F.slot_list_append PySem.F.type_list_append mt_append (pv 3) (pa_cons
          (pe_bm PySem.F.plainAttrs_list PySem.F.slot_list_pop PySem.F.type_list_pop mt_popAt (pv 2) (pa_cons (pe_call GD hr (by rfl) gD kD bD .nil pass0 (pa_cons (pv 0) (pa_cons (pe_callB call_len_seq (by rfl) gN PySem.boot_len (pa_cons (pv 2) pa_nil)) pa_nil))) pa_nil)) pa_nil)))))
      (pss_one (ps_ret (pv 3)))), ?_⟩
    refine ⟨V.ref a, rfl, a, xs, rfl, .inl hS, fun r nr => ⟨Nat.zero_le _, fun b nb => ⟨V.ref r, V.ref b, rfl, ?_⟩⟩⟩
    have s0 : Same H (upd (upd H r (.lst xs)) b (.lst [])) := (upd_new nr).trans (upd_new nb)
    have r0 : upd (upd H r (.lst xs)) b (.lst []) r = some (.lst xs) := upd_new nb _ _ upd_same
    have b0 : upd (upd H r (.lst xs)) b (.lst []) b = some (.lst []) := upd_same
    have nrb : r ≠ b := fun z => by
      rw [← z, upd_same] at nb
      cases nb
    have nbH : H b = none := by
      rw [upd_ne (Ne.symm nrb)] at nb
      exact nb
    generalize upd (upd H r (.lst xs)) b (.lst []) = H0 at s0 r0 b0
    refine ⟨fun m σ H1 => ∃ (k1 lf1 : Int) (zs ys : List V), σ = [some (.ref p), some (.ref a), some (.ref r), some (.ref b)] ∧ zs.length = m ∧ (ys ++ zs).Perm xs ∧ k1 ≤ k + ys.length ∧ 0 ≤ k1 ∧ 0 ≤ lf1 ∧ PenAt H1 p l ns k1 lf1 ∧ SameBut p H H1 ∧
      H1 r = some (.lst zs) ∧ H1 b = some (.lst ys), ⟨xs.length, k, lf, xs, [], rfl, rfl, .refl _, by simp, hk0, hf, ⟨s0 _ _ hp.dc, s0 _ _ hp.ls⟩, .of s0, r0, b0⟩, ?_⟩
    rintro m σ H1 ⟨k1, lf1, zs, ys, rfl, hm, hperm, e1, e2, e3, P1, s1, hr1, hb1⟩
    have hsum : ys.length + zs.length = xs.length := by
      have z := hperm.length_eq
      rw [List.length_append] at z
      exact z
    refine ⟨V.ref r, rfl, Nat.zero_le _, fun q nq => ?_⟩
    have s2 := upd_new (o := .lst []) nq
    have hq2 : upd H1 q (.lst []) q = some (.lst []) := upd_same
    have P2 : PenAt (upd H1 q (.lst [])) p l ns k1 lf1 := ⟨s2 _ _ P1.dc, s2 _ _ P1.ls⟩
    have s02 := s1.trans (SameBut.of s2)
    have hr2 := s2 _ _ hr1
    have hb2 := s2 _ _ hb1
    generalize upd H1 q (.lst []) = H2 at s2 hq2 P2 s02 hr2 hb2
    obtain ⟨ds, d1, d2, d3⟩ := SR.data (H := H2) (zs := zs) fun z hz => SR.mono (hx z (hperm.subset (List.mem_append_right _ hz))) hp.dc s02
    refine ⟨.list ds, .list [], .lst (.inl (.inl hr2)) d1, .lst (.inl (.inl hq2)) .nil, d2, (by decide +kernel), _, rfl, ?_⟩
    rw [eqv_nilD]
    have npr : r ≠ p := ne_of hr2 P2.dc (by intro z; cases z)
    have npb : b ≠ p := ne_of hb2 P2.dc (by intro z; cases z)
    cases zs with
    | nil =>
      have z0 : ds = [] := List.eq_nil_of_length_eq_zero d3
      rw [z0]
      have hy : ys.length = xs.length := hsum
      rw [List.append_nil] at hperm
      exact ⟨V.ref b, rfl, kk H2 k1 lf1 b ys (by omega) e2 e3 hperm s02 P2 hb2 nbH⟩
    | cons z0 zr =>
      have ed : ds.isEmpty = false := by
        cases ds with
        | nil => cases d3
        | cons _ _ => rfl
      rw [ed]
      generalize hzs : z0 :: zr = zs at *
      have hpos : 0 < zs.length := by rw [← hzs]; simp
      refine ⟨_, fun σ' H' q => q, ?_⟩
      refine ⟨V.ref b, rfl, .inl ⟨rfl, _, .inl (.inl hb2)⟩, V.ref r, rfl, .inl ⟨rfl, _, .inl (.inl hr2)⟩, V.ref p, rfl, V.ref r, rfl, r, zs, rfl, .inl (.inl (.inl hr2)), p, l, ns, k1, lf1, _, rfl, P2, hn, e2, by omega, e3, by omega, by omega, fun H3 k3 lf3 d g1 g2 g3 g4 g5 s3 P3 => ?_⟩
      obtain ⟨j, hj⟩ : ∃ j : Nat, d = (j : Int) := ⟨d.toNat, (Int.toNat_of_nonneg g4).symm⟩
      have hjl : j < zs.length := by omega
      obtain ⟨y, hy⟩ : ∃ y, zs[j]? = some y := ⟨_, List.getElem?_eq_getElem hjl⟩
      have hr3 := s3 _ _ npr hr2
      have hb3 := s3 _ _ npb hb2
      have b63 : (900 : Int) < 2 ^ 63 := by decide
      have b900 : (900 : Nat) < sizeLine := by decide
      refine ⟨r, zs, d, j, y, rfl, rfl, hr3, by omega, by omega, seq_ix hj hjl, hy, b, ys, y, rfl, rfl, (upd_ne (Ne.symm nrb)).trans hb3, by omega, ?_⟩
      refine ⟨(zs.eraseIdx j).length, ?_, k3, lf3, zs.eraseIdx j, ys ++ [y], rfl, rfl, ?_, ?_, g2, g3, ⟨?_, ?_⟩, ?_, ?_, upd_same⟩
      · rw [List.length_eraseIdx_of_lt hjl]
        omega
      · have e := erase_perm hy
        rw [List.append_assoc]
        exact (e.append_left ys).trans hperm
      · rw [List.length_append]
        show k3 ≤ k + ((ys.length + 1 : Nat) : Int)
        omega
      · rw [upd_ne (Ne.symm npb), upd_ne (Ne.symm npr)]
        exact P3.dc
      · rw [upd_ne (ne_of_none hp.ls nbH), upd_ne (ne_of_none hp.ls nr)]
        exact P3.ls
      · intro c o hc e
        have n1 : c ≠ r := fun z => by
          rw [z] at e
          rw [e] at nr
          cases nr
        have n2 : c ≠ b := fun z => by
          rw [z] at e
          rw [e] at nbH
          cases nbH
        rw [upd_ne n2, upd_ne n1]
        exact s3 _ _ hc (s02 _ _ hc e)
      · rw [upd_ne nrb, upd_same]
end
end SK
namespace SK
open PySem PySem.Spec PyProof.Rows L2 LamX NdefX
open K0 (De DeAll XCl spX withX)
/-! ### some words -/
def spSomeG : Sp := fun vs H Q _ => ∃ (p l : Addr) (ns : List Int) (k lf : Int) (ls : Str) (mm nn : Int), vs = [.ref p, .str ls, .int mm, .int nn] ∧ 0 ≤ mm ∧ mm ≤ 40 ∧ 0 ≤ nn ∧ nn ≤ 40 ∧ PenAt H p l ns k lf ∧ ns.length ≤ 63 ∧ 0 ≤ k ∧ k ≤ 90000 ∧ 0 ≤ lf ∧ 0 < ls.cps.size ∧ ls.cps.size ≤ 26 ∧
  ∀ (H' : Hp) (k' lf' : Int) (b : Addr) (ws : List Str), k' ≤ k + 2000 → 0 ≤ k' → 0 ≤ lf' → (∀ y ∈ ws, OverL ls y ∧ (y.cps.size : Int) ≤ nn) → (ws.length : Int) ≤ mm → SameBut p H H' → PenAt H' p l ns k' lf' → H' b = some (.lst (ws.map V.str)) → H b = none → Q (.ref b) H'
section
variable {P : Program} {w : World} {K : PySem.W.Frag} {mg : Str → Option Value} {base : Heap} {f fD fP : Addr} {fd fdD fdP : FuncData}
theorem scSome : FnScope ["pen", "letters", "many", "longest", "found", "k", "word", "j"] ["pen", "letters", "many", "longest"] (defScope (top 15)) := ⟨rfl, rfl, rfl, by decide +kernel, rfl, by decide +kernel, by decide +kernel⟩
theorem ok_someG (F : Fun K "_law_some_words" "_law_some_words" (top 15) f fd) (gR : mg "range" = none) (gD : mg "_law_draw" = some (.ref fD)) (kD : PySem.W.keepIn K (.ref fD) = true) (GD : FnOk P w K mg base CX0 1 fD fdD ["pen", "many"] spDraw)
    (bD : Binds K fdD ["pen", "many"] []) (gP : mg "_law_pick" = some (.ref fP)) (kP : PySem.W.keepIn K (.ref fP) = true) (GP : FnOk P w K mg base CX0 2 fP fdP ["pen", "items"] spPick)
    (bP : Binds K fdP ["pen", "items"] []) : FnOk P w K mg base CX0 3 f fd ["pen", "letters", "many", "longest"] spSomeG := by
  refine F.ok scSome (fun vs H Q E h => ?_) (fun cdv A outer s H vs Q E hr h => ?_)
  · obtain ⟨p, l, ns, k, lf, ls, mm, nn, rfl, _⟩ := h
    rfl
  · obtain ⟨p, l, ns, k, lf, ls, mm, nn, rfl, hm0, hm1, hn0, hn1, hp, hn, hk0, hk1, hf, hl0, hl1, kk⟩ := h
    have hr1 : Room 1 _ := hr.mono (by decide)
    refine ⟨_, pss_cons (ps_set (i := 4) scSome.nd rfl (Or.inl rfl) (pe_lst pa_nil)) (pss_cons (ps_for PassesOwn.never rfl (pi_range1 (by rfl) gR (pa_cons (pe_call GD hr1 (by rfl) gD kD bD .nil pass0 (pa_cons (pv 0) (pa_cons (pe_op op_add (pv 2) pe_int) pa_nil))) pa_nil)) (pg_name (i := 5) scSome.nd rfl (Or.inl rfl))
        (pss_cons (ps_set (i := 6) scSome.nd rfl (Or.inl rfl) (pe_bm PySem.F.plainAttrs_str PySem.F.slot_str_join PySem.F.type_str_join mt_join pe_str (pa_cons (pe_lc (own := [("j", 7)]) (g := gName 7) (tt := tYes) rfl scSome.nd
            (pi_range1 (by rfl) gR (pa_cons (pe_call GD hr1 (by rfl) gD kD bD .nil pass0 (pa_cons (pv 0) (pa_cons (pe_op op_add (pv 3) pe_int) pa_nil))) pa_nil))
            (blkOk_by (N := ["pen", "letters", "many", "longest", "found", "k", "word", "j"]) (sc := defScope (top 15)) (by decide +kernel))
            (fun _ _ _ _ _ => pg_name (i := 7) scSome.nd rfl (Or.inl rfl)) (fun _ _ _ _ _ => pts_nil) (fun _ _ _ _ _ => pe_call GP hr (by rfl) gP kP bP .nil pass0 (pa_cons (pv 0) (pa_cons (pe_slice sl_str (pv 1) po_none (po_some pe_int)) pa_nil)))) pa_nil)))
        (pss_one (ps_if (pt_cmpR op_notIn_seq (pv 6) (pv 4) (by rfl)) (pss_one (ps_expr (pe_bm PySem.F.plainAttrs_list PySem.F.slot_list_append PySem.F.type_list_append mt_append (pv 4) (pa_cons (pv 6) pa_nil)))) pss_nil))))
      (pss_one (ps_ret (pv 4)))), ?_⟩
    refine ⟨Nat.zero_le _, fun b nb => ?_⟩
    have s0 := upd_new (o := .lst []) nb
    have b0 : upd H b (.lst []) b = some (.lst []) := upd_same
    generalize upd H b (.lst []) = H0 at s0 b0
    refine ⟨V.ref p, rfl, V.int mm, rfl, mm, 1, rfl, rfl, p, l, ns, k, lf, mm + 1, rfl, ⟨s0 _ _ hp.dc, s0 _ _ hp.ls⟩, hn, hk0, by omega, hf, by omega, by omega, fun H1 k1 lf1 d e1 e2 e3 e4 e5 s1 P1 => ?_⟩
    have b62 : (41 : Int) < 2 ^ 62 := by decide
    have bn : b ≠ p := ne_of b0 (s0 _ _ hp.dc) (by intro z; cases z)
    have hdn : (d.toNat : Int) ≤ mm := by omega
    refine ⟨d, rfl, by omega, by omega, for_it walk_range (fun i σ G => ∃ (x5 x6 : Option V) (kk lg : Int) (ws : List Str), σ = [some (.ref p), some (.str ls), some (.int mm), some (.int nn), some (.ref b), x5, x6, none] ∧ kk ≤ k + 1 + 42 * i ∧ 0 ≤ kk ∧ 0 ≤ lg ∧ PenAt G p l ns kk lg ∧ SameBut p H G ∧
      G b = some (.lst (ws.map V.str)) ∧ ws.length ≤ i ∧ ∀ y ∈ ws, OverL ls y ∧ (y.cps.size : Int) ≤ nn) ⟨none, none, k1, lf1, [], rfl, by omega, e2, e3, P1, (SameBut.of s0).trans s1, s1 _ _ bn b0, Nat.le_refl _, fun y hy => absurd hy (by simp)⟩ (fun _ _ _ _ _ => trivial) ?_ ?_⟩
    · rintro i x σ G G2 hi ⟨x5, x6, kk1, lg, ws, rfl, f1, f2, f3, P2, s2, hb2, hw, hW⟩ ⟨rfl, rfl⟩
      refine ⟨rfl, V.ref p, rfl, V.int nn, rfl, nn, 1, rfl, rfl, p, l, ns, kk1, lg, nn + 1, rfl, P2, hn, f2, by omega, f3, by omega, by omega, fun G3 k3 lf3 d3 g1 g2 g3 g4 g5 s3 P3 => ?_⟩
      refine ⟨d3, rfl, by omega, by omega, fun D2 nD2 => lc_it walk_range (fun j G4 => ∃ (k4 lf4 : Int) (cs : List Nat), k4 ≤ k3 + j ∧ 0 ≤ k4 ∧ 0 ≤ lf4 ∧ PenAt G4 p l ns k4 lf4 ∧ SameBut p G3 G4 ∧ G4 D2 = some (.lst ((cs.map fun c => (⟨#[c]⟩ : Str)).map V.str)) ∧ cs.length = j ∧ ∀ c ∈ cs, c ∈ ls.cps.toList)
        ⟨k3, lf3, [], by omega, g2, g3, ⟨upd_new nD2 _ _ P3.dc, upd_new nD2 _ _ P3.ls⟩, .of (upd_new nD2), upd_same, rfl, fun c hc => absurd hc (by simp)⟩ (fun _ _ _ _ => trivial) ?_ ?_⟩
      · rintro j x G4 G5 hj ⟨k4, lf4, cs, i1, i2, i3, P4, s4, h4, hcs, hC⟩ ⟨rfl, rfl⟩
        have hls : ls.length ≤ sizeLine := by
          have e : ls.length = ls.cps.size := rfl
          have t : (26 : Nat) < sizeLine := by decide
          omega
        obtain ⟨c1, c2⟩ := cut3_len hl0
        refine ⟨rfl, V.ref p, rfl, V.str ls, rfl, 3, rfl, ls, rfl, hls, p, l, .str (cutS ls none (some 3)), ns, k4, lf4, _, rfl, P4, hn, i2, by omega, i3, .inr ⟨_, rfl, rfl⟩, by rw [List.length_map]; exact c1, by rw [List.length_map]; exact c2, fun G6 k6 lf6 y j1 j2 j3 hy s6 P6 => ?_⟩
        obtain ⟨c, hc, rfl⟩ := List.mem_map.mp hy
        have nDp : D2 ≠ p := ne_of h4 P4.dc (by intro z; cases z)
        have hD6 := s6 _ _ nDp h4
        refine ⟨_, hD6, ?_, k6, lf6, cs ++ [c], ?_, j2, j3, ⟨?_, ?_⟩, ?_, ?_, ?_, ?_⟩
        · rw [List.length_map, List.length_map, hcs]
          have t : (45 : Nat) < sizeLine := by decide
          omega
        · have z : ((j + 1 : Nat) : Int) = (j : Int) + 1 := by omega
          omega
        · rw [upd_ne (Ne.symm nDp)]
          exact P6.dc
        · rw [upd_ne (ne_of_none P3.ls nD2)]
          exact P6.ls
        · intro c o hc e
          rw [upd_ne (ne_of_none e nD2)]
          exact s6 _ _ hc (s4 _ _ hc e)
        · rw [List.map_append, List.map_append]
          exact upd_same
        · rw [List.length_append, hcs]
          rfl
        · intro z hz
          rcases List.mem_append.mp hz with hz | hz
          · exact hC z hz
          · obtain rfl : z = c := by simpa using hz
            exact cut3_mem hc
      · rintro G4 ⟨k4, lf4, cs, i1, i2, i3, P4, s4, h4, hcs, hC⟩
        have hc4 : (cs.length : Int) ≤ nn := by omega
        refine ⟨"", D2, _, rfl, rfl, .inl (.inl (.inl h4)), ?_, ?_⟩
        · rw [sum_ones]
          have z : (Str.ofString "").length = 0 := by decide
          rw [z]
          omega
        rw [txt_join_chars]
        have hb4 := s4 _ _ bn (s3 _ _ bn hb2)
        have s04 := (s2.trans s3).trans s4
        have hov : OverL ls ⟨cs.toArray⟩ ∧ ((⟨cs.toArray⟩ : Str).cps.size : Int) ≤ nn := by
          refine ⟨⟨?_, fun c hc => hC c (by simpa using hc)⟩, ?_⟩
          · show cs.toArray.size ≤ 200
            rw [List.size_toArray]
            omega
          · show (cs.toArray.size : Int) ≤ nn
            rw [List.size_toArray]
            omega
        refine ⟨V.str ⟨cs.toArray⟩, rfl, V.ref b, rfl, b, ws.map V.str, rfl, .inl (.inl (.inl hb4)), rfl, flat_strs ws, _, rfl, ?_⟩
        have b5 : (45 : Nat) < sizeLine := by decide
        have z : ((i + 1 : Nat) : Int) = (i : Int) + 1 := by omega
        refine ite2 (fun c => ?_) (fun c => ?_)
        · refine ⟨V.ref b, rfl, .inl ⟨rfl, _, .inl (.inl hb4)⟩, V.str ⟨cs.toArray⟩, rfl, b, _, _, rfl, rfl, hb4, by rw [List.length_map]; omega, _, _, k4, lf4, ws ++ [⟨cs.toArray⟩], rfl, by omega, i2, i3, ⟨?_, ?_⟩, ?_, ?_, ?_, ?_⟩
          · rw [upd_ne (Ne.symm bn)]
            exact P4.dc
          · rw [upd_ne (ne_of_none hp.ls nb)]
            exact P4.ls
          · intro c o hc e
            rw [upd_ne (ne_of_none e nb)]
            exact s04 _ _ hc e
          · rw [List.map_append]
            exact upd_same
          · rw [List.length_append]
            show ws.length + 1 ≤ i + 1
            omega
          · intro y hy
            rcases List.mem_append.mp hy with hy | hy
            · exact hW y hy
            · obtain rfl : y = ⟨cs.toArray⟩ := by simpa using hy
              exact hov
        · exact ⟨_, _, k4, lf4, ws, rfl, by omega, i2, i3, P4, s04, hb4, by omega, hW⟩
    · rintro σ G ⟨x5, x6, kk1, lg, ws, rfl, f1, f2, f3, P2, s2, hb2, hw, hW⟩
      exact ⟨V.ref b, rfl, kk G kk1 lg b ws (by omega) f2 f3 hW (by omega) s2 P2 hb2 nb⟩
end
end SK
namespace SK
open PySem PySem.Spec PyProof.Rows L2 LamX NdefX
open K0 (De DeAll XCl spX withX)
/-! ### comprehensions that make nothing beside their list -/
theorem Same.seqT {K : PySem.W.Frag} {H H' : Hp} {a : Addr} {xs : List V} (s : Same H H') (h : SqT K H a xs) : SqT K H' a xs := by
  rcases h with (h | ⟨o, h⟩) | h
  · exact .inl (.inl (s _ _ h))
  · exact .inl (.inr ⟨o, s _ _ h⟩)
  · exact .inr h
section
variable {K : PySem.W.Frag} {a : Addr} {xs : List V} {g : TG} {tt : TT} {te : TE} {vs : List Nat} {σ : St} {H1 : Hp} {D : Addr} {Qd : Hp → Prop}
/-- what is asked of one turn -/
def TurnF (g : TG) (tt : TT) (te : TE) (vs : List Nat) (σ : St) (x y : V) (b : Bool) (H : Hp) : Prop :=
  ∀ (A : V → Hp → Prop) (B : Hp → Prop), (b = true → A y H) → (b = false → B H) → g x (wipe σ vs) H fun σ2 H2 => wipe σ2 vs = wipe σ vs ∧ tt σ2 H2 fun b H3 => if b = true then te σ2 H3 A else B H3
theorem same_new (nD : H1 D = none) {o : HO} : Same H1 (upd H1 D o) := fun c u h => by
  rw [upd_ne (ne_of_none h nD)]
  exact h
theorem same_upd {H : Hp} (nD : H1 D = none) {o : HO} (s : Same H1 H) : Same H1 (upd H D o) := fun c u h => by
  rw [upd_ne (ne_of_none h nD)]
  exact s _ _ h
theorem take_snoc {α : Type} {l : List α} {i : Nat} {x : α} (h : l[i]? = some x) : l.take (i + 1) = l.take i ++ [x] := by
  rw [List.take_add_one, h]
  rfl
theorem filt_snoc {α : Type} {ws : List α} {f : α → V} {c : α → Bool} {i : Nat} {x : α} (h : ws[i]? = some x) : ((ws.take (i + 1)).filter c).map f = ((ws.take i).filter c).map f ++ (if c x = true then [f x] else []) := by
  rw [take_snoc h, List.filter_append, List.map_append]
  by_cases hc : c x = true
  · rw [if_pos hc, List.filter_cons_of_pos hc]
    rfl
  · rw [if_neg hc, List.filter_cons_of_neg hc]
    rfl
theorem filt_len {α : Type} {ws : List α} {f : α → V} {c : α → Bool} {i : Nat} : (((ws.take i).filter c).map f).length ≤ ws.length := by
  rw [List.length_map]
  exact Nat.le_trans (List.length_filter_le _ _) (by rw [List.length_take]; omega)
theorem map_at {α : Type} {enc : α → V} {ws : List α} {i : Nat} {x : V} (h : (ws.map enc)[i]? = some x) : ∃ y, ws[i]? = some y ∧ x = enc y := by
  rw [List.getElem?_map] at h
  cases e : ws[i]? with
  | none =>
    rw [e] at h
    cases h
  | some y =>
    rw [e] at h
    exact ⟨y, rfl, (Option.some.inj h).symm⟩
theorem lcF_list {α : Type} {ws : List α} (enc : α → V) (nD : H1 D = none) (f : α → V) (c : α → Bool) (hS : SqL K H1 a (ws.map enc)) (hz : ws.length < sizeLine) (step : ∀ (i : Nat) (x : α) (H : Hp), ws[i]? = some x → Same H1 H → TurnF g tt te vs σ (enc x) (f x) (c x) H)
    (fin : ∀ H, Same H1 H → H D = some (.lst ((ws.filter c).map f)) → Qd H) :
    ∃ W : Nat → Nat → Hp → Prop, (∃ m, W 0 m (upd H1 D (.lst []))) ∧ ∀ i m H, W i m H →
      ((Itl K a).stop i H ∧ Qd H) ∨ ((Itl K a).go i H ∧ ∃ Nx : Hp → Prop, (∀ H', Nx H' → ∃ m', m' < m ∧ W (i + 1) m' H') ∧ ∀ x H', (Itl K a).yld i H x H' → g x (wipe σ vs) H' fun σ2 H2 => wipe σ2 vs = wipe σ vs ∧ tt σ2 H2 fun b H3 =>
        if b = true then te σ2 H3 fun y H4 => ∃ acc, H4 D = some (.lst acc) ∧ acc.length < sizeLine ∧ Nx (upd H4 D (.lst (acc ++ [y]))) else Nx H3) := by
  refine lc_list (K := K) (a := a) (xs := ws.map enc) (fun i H => Same H1 H ∧ H D = some (.lst (((ws.take i).filter c).map f))) ⟨same_new nD, upd_same⟩ (fun i H _ p => Same.seq p.1 hS) (fun i x H hx p => ?_) fun H p => fin H p.1 (by rw [List.length_map, List.take_length] at p; exact p.2)
  obtain ⟨s, hD⟩ := p
  obtain ⟨y, hy, rfl⟩ := map_at hx
  refine step i y H hy s _ _ (fun hc => ⟨_, hD, Nat.lt_of_le_of_lt filt_len hz, same_upd nD s, ?_⟩) fun hc => ⟨s, ?_⟩
  · rw [filt_snoc hy, if_pos hc]
    exact upd_same
  · rw [filt_snoc hy, if_neg (by rw [hc]; simp), List.append_nil]
    exact hD
theorem lcF_tup {α : Type} {ws : List α} (enc : α → V) (nD : H1 D = none) (f : α → V) (c : α → Bool) (hS : SqT K H1 a (ws.map enc)) (hz : ws.length < sizeLine) (step : ∀ (i : Nat) (x : α) (H : Hp), ws[i]? = some x → Same H1 H → TurnF g tt te vs σ (enc x) (f x) (c x) H)
    (fin : ∀ H, Same H1 H → H D = some (.lst ((ws.filter c).map f)) → Qd H) :
    ∃ W : Nat → Nat → Hp → Prop, (∃ m, W 0 m (upd H1 D (.lst []))) ∧ ∀ i m H, W i m H →
      ((Itt K a).stop i H ∧ Qd H) ∨ ((Itt K a).go i H ∧ ∃ Nx : Hp → Prop, (∀ H', Nx H' → ∃ m', m' < m ∧ W (i + 1) m' H') ∧ ∀ x H', (Itt K a).yld i H x H' → g x (wipe σ vs) H' fun σ2 H2 => wipe σ2 vs = wipe σ vs ∧ tt σ2 H2 fun b H3 =>
        if b = true then te σ2 H3 fun y H4 => ∃ acc, H4 D = some (.lst acc) ∧ acc.length < sizeLine ∧ Nx (upd H4 D (.lst (acc ++ [y]))) else Nx H3) := by
  refine lc_tup (K := K) (a := a) (xs := ws.map enc) (fun i H => Same H1 H ∧ H D = some (.lst (((ws.take i).filter c).map f))) ⟨same_new nD, upd_same⟩ (fun i H _ p => SK.Same.seqT p.1 hS) (fun i x H hx p => ?_) fun H p => fin H p.1 (by rw [List.length_map, List.take_length] at p; exact p.2)
  obtain ⟨s, hD⟩ := p
  obtain ⟨y, hy, rfl⟩ := map_at hx
  refine step i y H hy s _ _ (fun hc => ⟨_, hD, Nat.lt_of_le_of_lt filt_len hz, same_upd nD s, ?_⟩) fun hc => ⟨s, ?_⟩
  · rw [filt_snoc hy, if_pos hc]
    exact upd_same
  · rw [filt_snoc hy, if_neg (by rw [hc]; simp), List.append_nil]
    exact hD
theorem range_filt {n : Nat} (f : Nat → V) (c : Nat → Bool) : ((List.range (n + 1)).filter c).map f = ((List.range n).filter c).map f ++ (if c n = true then [f n] else []) := by
  rw [List.range_succ, List.filter_append, List.map_append]
  by_cases hc : c n = true
  · rw [if_pos hc, List.filter_cons_of_pos hc]
    rfl
  · rw [if_neg hc, List.filter_cons_of_neg hc]
    rfl
theorem lcF_range {lo : Int} {n : Nat} (nD : H1 D = none) (f : Nat → V) (c : Nat → Bool) (hz : n < sizeLine) (step : ∀ i H, i < n → Same H1 H → TurnF g tt te vs σ (.int (lo + i)) (f i) (c i) H)
    (fin : ∀ H, Same H1 H → H D = some (.lst (((List.range n).filter c).map f)) → Qd H) :
    ∃ W : Nat → Nat → Hp → Prop, (∃ m, W 0 m (upd H1 D (.lst []))) ∧ ∀ i m H, W i m H →
      ((Itr lo n).stop i H ∧ Qd H) ∨ ((Itr lo n).go i H ∧ ∃ Nx : Hp → Prop, (∀ H', Nx H' → ∃ m', m' < m ∧ W (i + 1) m' H') ∧ ∀ x H', (Itr lo n).yld i H x H' → g x (wipe σ vs) H' fun σ2 H2 => wipe σ2 vs = wipe σ vs ∧ tt σ2 H2 fun b H3 =>
        if b = true then te σ2 H3 fun y H4 => ∃ acc, H4 D = some (.lst acc) ∧ acc.length < sizeLine ∧ Nx (upd H4 D (.lst (acc ++ [y]))) else Nx H3) := by
  refine lc_range (fun i H => i ≤ n ∧ Same H1 H ∧ H D = some (.lst (((List.range i).filter c).map f))) ⟨Nat.zero_le _, same_new nD, upd_same⟩ (fun i H hi p => ?_) fun H p => fin H p.2.1 p.2.2
  obtain ⟨h1, s, hD⟩ := p
  have hl : (((List.range i).filter c).map f).length < sizeLine := by
    rw [List.length_map]
    have z := List.length_filter_le c (List.range i)
    rw [List.length_range] at z
    omega
  refine step i H hi s _ _ (fun hc => ⟨_, hD, hl, hi, same_upd nD s, ?_⟩) fun hc => ⟨hi, s, ?_⟩
  · rw [range_filt, if_pos hc]
    exact upd_same
  · rw [range_filt, if_neg (by rw [hc]; simp), List.append_nil]
    exact hD
end
/-! ### what a wish asks -/
theorem eqV_str (x y : Str) : eqV (.str x) (.str y) = decide (x = y) := by
  show (x == y) = _
  by_cases h : x = y
  · subst h
    simp
  · rw [decide_eq_false h]
    simpa using h
theorem inV_str (w : Str) (ws : List Str) : inV (.str w) (ws.map V.str) = decide (w ∈ ws) := by
  unfold inV
  induction ws with
  | nil => simp
  | cons y ws ih =>
    rw [List.map_cons, List.any_cons, ih, eqV_str]
    by_cases h : y = w <;> by_cases h2 : w ∈ ws <;> simp [h, h2, eq_comm]
    exact fun z => absurd z.symm h
def cutTo (w : Str) (k : Nat) : Str := ⟨(w.cps.toList.take k).toArray⟩
theorem cutS_to {w : Str} {k : Nat} (h : k ≤ w.cps.size) : cutS w none (some (k : Int)) = cutTo w k := by
  unfold cutS cutTo
  rw [HT.sIx_none, HT.sIx_nat, List.drop_zero, Nat.sub_zero]
  have e : w.length = w.cps.size := rfl
  rw [e, Nat.min_eq_left h]
theorem str_ext {x y : Str} (h : x.cps.toList = y.cps.toList) : x = y := by
  obtain ⟨a⟩ := x
  obtain ⟨b⟩ := y
  have z : a.toList = b.toList := h
  obtain ⟨a⟩ := a
  obtain ⟨b⟩ := b
  have z : a = b := z
  rw [z]
theorem sw_iff (w y : Str) : Txt.startswith w y = true ↔ y.cps.size ≤ w.cps.size ∧ cutTo w y.cps.size = y := by
  unfold Txt.startswith
  rw [Bool.and_eq_true, decide_eq_true_eq]
  have e1 : w.length = w.cps.size := rfl
  have e2 : y.length = y.cps.size := rfl
  rw [e1, e2, Nat.zero_add, StrLaws.subAt_eq]
  have e3 : y.cps.toList.length = y.cps.size := Array.length_toList
  constructor
  · rintro ⟨h1, h2⟩
    refine ⟨h1, str_ext ?_⟩
    have h3 := eq_of_beq h2
    unfold cutTo
    rw [List.toList_toArray]
    exact h3
  · rintro ⟨h1, h2⟩
    refine ⟨h1, ?_⟩
    have h3 := congrArg (fun z : Str => z.cps.toList) h2
    unfold cutTo at h3
    simp only [List.toList_toArray] at h3
    exact beq_iff_eq.mpr h3
end SK
namespace SK
open PySem PySem.Spec PyProof.Rows L2 LamX NdefX
open K0 (De DeAll XCl spX withX)
/-- the greatest number of signs of w that make a kept word -/
def longO (ws : List Str) (w : Str) : Option Nat := ((List.range (w.cps.size + 1)).filter fun k => decide (cutTo w k ∈ ws)).getLast?
theorem last_filter {P : Nat → Bool} {m : Nat} : ∀ {n : Nat}, m < n → P m = true → (∀ k, k < n → P k = true → k ≤ m) → ((List.range n).filter P).getLast? = some m
  | 0, h, _, _ => absurd h (Nat.not_lt_zero _)
  | n + 1, h, hm, hk => by
    rw [List.range_succ, List.filter_append]
    cases hc : P n with
    | true =>
      have e : n = m := by
        have z := hk n (Nat.lt_succ_self _) hc
        omega
      rw [List.filter_cons_of_pos hc, ← e]
      simp
    | false =>
      have ne : m ≠ n := fun z => by
        rw [z, hc] at hm
        cases hm
      rw [List.filter_cons_of_neg (by rw [hc]; simp), List.filter_nil, List.append_nil]
      exact last_filter (by omega) hm fun k h1 h2 => hk k (by omega) h2
theorem cutTo_size {w : Str} {k : Nat} (h : k ≤ w.cps.size) : (cutTo w k).cps.size = k := by
  unfold cutTo
  rw [List.size_toArray, List.length_take, Array.length_toList]
  omega
theorem longO_max {ws : List Str} {w : Str} {m : Nat} (h1 : m ≤ w.cps.size) (h2 : cutTo w m ∈ ws) (h3 : ∀ k, k ≤ w.cps.size → cutTo w k ∈ ws → k ≤ m) : longO ws w = some m :=
  last_filter (Nat.lt_succ_of_le h1) (decide_eq_true h2) fun k a b => h3 k (Nat.le_of_lt_succ a) (of_decide_eq_true b)
theorem longO_none {ws : List Str} {w : Str} (h : ∀ k, k ≤ w.cps.size → cutTo w k ∉ ws) : longO ws w = none := by
  unfold longO
  have e : (List.range (w.cps.size + 1)).filter (fun k => decide (cutTo w k ∈ ws)) = [] := by
    rw [List.filter_eq_nil_iff]
    intro k hk
    rw [List.mem_range] at hk
    have z := h k (by omega)
    simp [z]
  rw [e]
  rfl
theorem sw_cut {w : Str} {k : Nat} (h : k ≤ w.cps.size) : Txt.startswith w (cutTo w k) = true := by
  rw [sw_iff, cutTo_size h]
  exact ⟨h, rfl⟩
/-- the lengths of the kept words with which w begins -/
def begs (ws : List Str) (w : Str) : List Str := ws.filter fun y => Txt.startswith w y
theorem long_of_nil {ws : List Str} {w : Str} (h : begs ws w = []) : longO ws w = none := by
  unfold begs at h
  rw [List.filter_eq_nil_iff] at h
  exact longO_none fun k hk hm => h _ hm (sw_cut hk)
theorem long_of_max {ws : List Str} {w : Str} {m : Int} (h1 : m ∈ (begs ws w).map fun y => ((y.cps.size : Nat) : Int)) (h2 : ∀ j ∈ (begs ws w).map fun y => ((y.cps.size : Nat) : Int), j ≤ m) : ∃ k : Nat, m = k ∧ k ≤ w.cps.size ∧ longO ws w = some k := by
  obtain ⟨y, hy, rfl⟩ := List.mem_map.mp h1
  obtain ⟨hm, hs⟩ := List.mem_filter.mp hy
  obtain ⟨g1, g2⟩ := (sw_iff w y).mp hs
  refine ⟨y.cps.size, rfl, g1, longO_max g1 (by rw [g2]; exact hm) fun k hk hc => ?_⟩
  have z := h2 _ (List.mem_map.mpr ⟨cutTo w k, List.mem_filter.mpr ⟨hc, sw_cut hk⟩, rfl⟩)
  rw [cutTo_size hk] at z
  omega
def yn (b : Bool) : Str := if b = true then "yes" else "no"
def longD (ws : List Str) (w : Str) : PyData := match longO ws w with
  | none => .none
  | some m => .tuple [.str "at", .str (cutTo w m)]
def ansW (name : Str) (ws : List Str) (w : Str) : PyData :=
  if name = "put" then .str (yn (!decide (w ∈ ws))) else if name = "strike" then .str (yn (decide (w ∈ ws))) else if name = "has" then .str (yn (decide (w ∈ ws))) else if name = "begins" then .str (yn (ws.any fun y => Txt.startswith y w)) else longD ws w
def aft (name : Str) (ws : List Str) (w : Str) : List Str :=
  if name = "put" then srt ((ws.filter fun y => !decide (y = w)) ++ [w]) else if name = "strike" then srt (ws.filter fun y => !decide (y = w)) else srt ws
def dueD (name : Str) (ws : List Str) (w : Str) : PyData := .tuple [ansW name ws w, .tuple ((aft name ws w).map PyData.str)]
def five : List Str := [("has" : Str), "put", "strike", "begins", "longest"]
end SK
namespace SK
open PySem PySem.Spec PyProof.Rows L2 LamX NdefX
open K0 (De DeAll XCl spX withX)
theorem same_len (w : Str) : w.length = w.cps.size := rfl
theorem small_line {n : Nat} (h : n ≤ 5000) : n < sizeLine := Nat.lt_of_le_of_lt h (by decide)
/-! ### yes or no -/
def spYn : Sp := fun vs H Q _ => ∃ b : Bool, vs = [.bl b] ∧ Q (.str (yn b)) H
section
variable {P : Program} {w : World} {K : PySem.W.Frag} {mg : Str → Option Value} {base : Heap} {f : Addr} {fd : FuncData}
theorem scYn : FnScope ["holds"] ["holds"] (defScope (top 6)) := ⟨rfl, rfl, rfl, by decide +kernel, rfl, by decide +kernel, by decide +kernel⟩
theorem ok_yn (F : Fun K "yes_or_no" "yes_or_no" (top 6) f fd) : FnOk P w K mg base CX0 1 f fd ["holds"] spYn := by
  refine F.ok scYn (fun vs H Q E h => ?_) (fun cdv A outer s H vs Q E hr h => ?_)
  · obtain ⟨b, rfl, _⟩ := h
    rfl
  · obtain ⟨b, rfl, q⟩ := h
    refine ⟨_, pss_one (ps_ret (pe_ifExp (pt_val (pv 0)) pe_str pe_str)), ?_⟩
    refine ⟨V.bl b, rfl, b, rfl, ?_⟩
    cases b with
    | true => exact iteT q
    | false => exact iteF q
end
/-! ### the longest beginning -/
def spLongL (K : PySem.W.Frag) : Sp := fun vs H Q _ => ∃ (a : Addr) (ws : List Str) (w : Str), vs = [.ref a, .str w] ∧ SqL K H a (ws.map V.str) ∧ ws.length ≤ 1000 ∧ w.cps.size ≤ 1000 ∧ (∀ y ∈ ws, y.cps.size ≤ 1000) ∧ ∀ (H' : Hp) (v : V), Same H H' → Dp K H' v (longD ws w) → Q v H'
section
variable {P : Program} {w : World} {K : PySem.W.Frag} {mg : Str → Option Value} {base : Heap} {f : Addr} {fd : FuncData}
theorem scLongL : FnScope ["words", "word", "lengths", "kept"] ["words", "word"] (defScope (top 7)) := ⟨rfl, rfl, rfl, by decide +kernel, rfl, by decide +kernel, by decide +kernel⟩
theorem ok_longL (F : Fun K "longest_beginning" "longest_beginning" (top 7) f fd) (gN : mg "len" = none) (gM : mg "max" = none) : FnOk P w K mg base CX0 1 f fd ["words", "word"] (spLongL K) := by
  refine F.ok scLongL (fun vs H Q E h => ?_) (fun cdv A outer s H vs Q E hr h => ?_)
  · obtain ⟨a, ws, w, rfl, _⟩ := h
    rfl
  · obtain ⟨a, ws, w, rfl, hS, hz, hw, hy, kk⟩ := h
    refine ⟨_, pss_cons (ps_setLc (i := 2) (own := [("kept", 3)]) (g := gName 3) rfl scLongL.nd rfl rfl (sw_true rfl rfl rfl (by decide +kernel)) (pi_list (pv 0)) (blkOk_by (N := ["words", "word", "lengths", "kept"]) (sc := defScope (top 7)) (by decide +kernel)) (fun _ _ _ _ _ => pg_name (i := 3) scLongL.nd rfl (Or.inl rfl))
        (fun _ _ _ _ _ => pts_one (pt_val (pe_m1 PySem.F.slot_str_startswith PySem.F.type_str_startswith mt_startswith (pv 1) (pv 3)))) (fun _ _ _ _ _ => pe_callB call_len_str (by rfl) gN PySem.boot_len (pa_cons (pv 3) pa_nil)))
      (pss_one (ps_ret (pe_ifExp (pt_truth (pv 2) (by intro _; rfl)) (pe_tup (pa_cons pe_str (pa_cons (pe_slice sl_str (pv 1) po_none (po_some (pe_callB (cr_max rfl) (by rfl) gM PyProof.Rows.boot_max (pa_cons (pv 2) pa_nil)))) pa_nil))) pe_non))), ?_⟩
    refine ⟨V.ref a, rfl, a, rfl, ⟨_, hS⟩, fun D nD => lcF_list (K := K) V.str nD (fun y => .int ((y.cps.size : Nat) : Int)) (fun y => Txt.startswith w y) hS (small_line (by omega)) (fun i y G hi sG A B kA kB => ?_) fun G sG hD => ?_⟩
    · refine ⟨rfl, V.str w, rfl, ⟨w, rfl⟩, V.str y, rfl, w, y, rfl, rfl, _, rfl, ?_⟩
      cases hc : Txt.startswith w y with
      | true => exact iteT ⟨V.str y, rfl, y, rfl, Nat.le_of_lt (small_line (by rw [same_len]; have z := hy y (List.mem_of_getElem? hi); omega)), kA hc⟩
      | false => exact iteF (kB hc)
    have eD : (List.filter (fun y => Txt.startswith w y) ws).map (fun y : Str => V.int ((y.cps.size : Nat) : Int)) = ((begs ws w).map fun y : Str => ((y.cps.size : Nat) : Int)).map V.int := by
      rw [List.map_map]
      rfl
    rw [eD] at hD
    refine ⟨V.ref D, rfl, _, .inl ⟨_, .inl (.inl hD), rfl⟩, ?_⟩
    cases hb : begs ws w with
    | nil =>
      rw [hb] at hD
      refine iteF ?_
      refine kk G .non sG ?_
      unfold longD
      rw [long_of_nil hb]
      exact .non
    | cons y0 yr =>
      refine iteT ⟨V.str w, rfl, V.ref D, rfl, D, _, rfl, .inl (.inl hD), by rw [hb, List.length_map]; exact Nat.succ_pos _, fun m hm hle => ?_⟩
      obtain ⟨k, rfl, hk, hl⟩ := long_of_max hm hle
      refine ⟨_, rfl, w, rfl, Nat.le_of_lt (small_line (by rw [same_len]; omega)), (by show 2 ≤ sizeLine; decide), fun p np => ?_⟩
      rw [cutS_to hk]
      refine kk _ (.ref p) (sG.trans (upd_new np)) ?_
      unfold longD
      rw [hl]
      exact .tup (.inl (.inl upd_same)) (.cons (.str _) (.cons (.str _) .nil))
end
def spLongT (K : PySem.W.Frag) : Sp := fun vs H Q _ => ∃ (a : Addr) (ws : List Str) (w : Str), vs = [.ref a, .str w] ∧ SqT K H a (ws.map V.str) ∧ ws.length ≤ 1000 ∧ w.cps.size ≤ 1000 ∧ (∀ y ∈ ws, y.cps.size ≤ 1000) ∧ ∀ (H' : Hp) (v : V), Same H H' → Dp K H' v (longD ws w) → Q v H'
section
variable {P : Program} {w : World} {K : PySem.W.Frag} {mg : Str → Option Value} {base : Heap} {f : Addr} {fd : FuncData}
theorem scLongT : FnScope ["words", "word", "lengths", "kept"] ["words", "word"] (defScope (top 7)) := ⟨rfl, rfl, rfl, by decide +kernel, rfl, by decide +kernel, by decide +kernel⟩
theorem ok_longT (F : Fun K "longest_beginning" "longest_beginning" (top 7) f fd) (gN : mg "len" = none) (gM : mg "max" = none) : FnOk P w K mg base CX0 1 f fd ["words", "word"] (spLongT K) := by
  refine F.ok scLongT (fun vs H Q E h => ?_) (fun cdv A outer s H vs Q E hr h => ?_)
  · obtain ⟨a, ws, w, rfl, _⟩ := h
    rfl
  · obtain ⟨a, ws, w, rfl, hS, hz, hw, hy, kk⟩ := h
    refine ⟨_, pss_cons (ps_setLc (i := 2) (own := [("kept", 3)]) (g := gName 3) rfl scLongT.nd rfl rfl (sw_true rfl rfl rfl (by decide +kernel)) (pi_tup (pv 0)) (blkOk_by (N := ["words", "word", "lengths", "kept"]) (sc := defScope (top 7)) (by decide +kernel)) (fun _ _ _ _ _ => pg_name (i := 3) scLongT.nd rfl (Or.inl rfl))
        (fun _ _ _ _ _ => pts_one (pt_val (pe_m1 PySem.F.slot_str_startswith PySem.F.type_str_startswith mt_startswith (pv 1) (pv 3)))) (fun _ _ _ _ _ => pe_callB call_len_str (by rfl) gN PySem.boot_len (pa_cons (pv 3) pa_nil)))
      (pss_one (ps_ret (pe_ifExp (pt_truth (pv 2) (by intro _; rfl)) (pe_tup (pa_cons pe_str (pa_cons (pe_slice sl_str (pv 1) po_none (po_some (pe_callB (cr_max rfl) (by rfl) gM PyProof.Rows.boot_max (pa_cons (pv 2) pa_nil)))) pa_nil))) pe_non))), ?_⟩
    refine ⟨V.ref a, rfl, a, rfl, ⟨_, hS⟩, fun D nD => lcF_tup (K := K) V.str nD (fun y => .int ((y.cps.size : Nat) : Int)) (fun y => Txt.startswith w y) hS (small_line (by omega)) (fun i y G hi sG A B kA kB => ?_) fun G sG hD => ?_⟩
    · refine ⟨rfl, V.str w, rfl, ⟨w, rfl⟩, V.str y, rfl, w, y, rfl, rfl, _, rfl, ?_⟩
      cases hc : Txt.startswith w y with
      | true => exact iteT ⟨V.str y, rfl, y, rfl, Nat.le_of_lt (small_line (by rw [same_len]; have z := hy y (List.mem_of_getElem? hi); omega)), kA hc⟩
      | false => exact iteF (kB hc)
    have eD : (List.filter (fun y => Txt.startswith w y) ws).map (fun y : Str => V.int ((y.cps.size : Nat) : Int)) = ((begs ws w).map fun y : Str => ((y.cps.size : Nat) : Int)).map V.int := by
      rw [List.map_map]
      rfl
    rw [eD] at hD
    refine ⟨V.ref D, rfl, _, .inl ⟨_, .inl (.inl hD), rfl⟩, ?_⟩
    cases hb : begs ws w with
    | nil =>
      rw [hb] at hD
      refine iteF ?_
      refine kk G .non sG ?_
      unfold longD
      rw [long_of_nil hb]
      exact .non
    | cons y0 yr =>
      refine iteT ⟨V.str w, rfl, V.ref D, rfl, D, _, rfl, .inl (.inl hD), by rw [hb, List.length_map]; exact Nat.succ_pos _, fun m hm hle => ?_⟩
      obtain ⟨k, rfl, hk, hl⟩ := long_of_max hm hle
      refine ⟨_, rfl, w, rfl, Nat.le_of_lt (small_line (by rw [same_len]; omega)), (by show 2 ≤ sizeLine; decide), fun p np => ?_⟩
      rw [cutS_to hk]
      refine kk _ (.ref p) (sG.trans (upd_new np)) ?_
      unfold longD
      rw [hl]
      exact .tup (.inl (.inl upd_same)) (.cons (.str _) (.cons (.str _) .nil))
end
end SK
namespace SK
open PySem PySem.Spec PyProof.Rows L2 LamX NdefX
open K0 (De DeAll XCl spX withX)
theorem dp_strs {K : PySem.W.Frag} {H : Hp} : ∀ ws : List Str, DpAll K H (ws.map V.str) (ws.map PyData.str)
  | [] => .nil
  | w :: ws => .cons (.str w) (dp_strs ws)
mutual
theorem dp_same {K : PySem.W.Frag} {H H' : Hp} (s : Same H H') : ∀ {d : PyData} {v : V}, Dp K H v d → Dp K H' v d
  | _, _, .non => .non
  | _, _, .bl b => .bl b
  | _, _, .int i => .int i
  | _, _, .str x => .str x
  | _, _, .lst h hs => .lst (Same.seq s h) (dp_sames s hs)
  | _, _, .tup h hs => .tup (SK.Same.seqT s h) (dp_sames s hs)
theorem dp_sames {K : PySem.W.Frag} {H H' : Hp} (s : Same H H') : ∀ {ds : List PyData} {vs : List V}, DpAll K H vs ds → DpAll K H' vs ds
  | _, _, .nil => .nil
  | _, _, .cons h hs => .cons (dp_same s h) (dp_sames s hs)
end
theorem fin2 {K : PySem.W.Frag} {H : Hp} {t u : Addr} {v : V} {d : PyData} {ks : List Str} (nu : H u = none) (h : Dp K H v d) (ht : H t = some (.tup (ks.map V.str))) : Dp K (upd H u (.tup [v, .ref t])) (.ref u) (.tuple [d, .tuple (ks.map PyData.str)]) :=
  .tup (.inl (.inl upd_same)) (.cons (dp_same (same_new nu) h) (.cons (.tup (.inl (.inl ((upd_ne (ne_of_none ht nu)).trans ht))) (dp_strs ks)) .nil))
theorem nm_eq {x y : Str} (c : decide (V.str x = V.str y) = true) : x = y := by
  have z := of_decide_eq_true c
  injection z
theorem nm_ne {x y : Str} (c : ¬ decide (V.str x = V.str y) = true) : x ≠ y := fun z => c (by rw [z]; exact decide_eq_true rfl)
/-! ### the wishes -/
def Odd (v : V) : Prop := (flatV v = true ∧ inV v (five.map V.str) = false) ∨ ∃ a, v = .ref a
def Thrown (E : XK) (C : Addr) (H : Hp) (gs : List (Str × V)) : Prop := ∀ (H' : Hp) (d : Addr), Same H H' → H d = none → H' d = some (.xd gs) → E (.ref C) (some d) H'
def spCheck (K : PySem.W.Frag) (C : Addr) : Sp := fun vs H Q E => ∃ (v : V) (d : PyData), vs = [v] ∧ De K H v d ∧ (((∃ nm ∈ five, v = .str nm) ∧ Q .non H) ∨ (Odd v ∧ Thrown E C H [("name", v)]))
section
variable {P : Program} {w : World} {K : PySem.W.Frag} {mg : Str → Option Value} {base : Heap} {f fC fY fL C WA : Addr} {fd fdC fdY fdL : FuncData}
theorem scCheck : FnScope ["name"] ["name"] (defScope (top 5)) := ⟨rfl, rfl, rfl, by decide +kernel, rfl, by decide +kernel, by decide +kernel⟩
theorem ok_check (F : Fun K "check_wish" "check_wish" (top 5) f fd) (D : XR P w K mg base "BadWish" C ["name"]) (gW : mg "WISHES" = some (.ref WA)) (hW : ∀ H, SqT K H WA (five.map V.str)) :
    FnOk P w K mg base (L2.CX P w) 3 f fd ["name"] (spCheck K C) := by
  refine F.okX scCheck (fun vs H Q E h => ?_) (fun cdv A outer s H vs Q E hr h => ?_)
  · obtain ⟨v, d, rfl, _⟩ := h
    rfl
  · obtain ⟨v, d, rfl, hd, hk⟩ := h
    obtain ⟨fi, fdi, iC, tI, F1, b1⟩ := D.ini
    have hu64 := hr.units
    refine ⟨_, pss_one (ps_if (pt_cmpR (op_notT hu64) (pv 0) (pe_glob (v := V.ref WA) (by rfl) gW rfl) (by rfl)) (pss_one (ps_raise rfl (takes_of rfl rfl rfl rfl) (pmk_oex D.cl.T iC tI F1 hr b1 .nil pass0 (by rfl) D.gC (pa_cons (pv 0) pa_nil)))) pss_nil), ?_⟩
    refine ⟨v, rfl, ?_⟩
    rcases hk with ⟨⟨nm, hn, rfl⟩, q⟩ | ⟨ho, thr⟩
    · refine .inl ⟨WA, _, rfl, .inr (hW H), rfl, by decide, _, rfl, ?_⟩
      rw [inV_str, decide_eq_true hn]
      exact iteF q
    · have out : tCons (tVar 0) tNil (start ["name"] [v]) H fun vs H1 => vs.length ≤ 1000 ∧ ∀ a, H1 a = none → spX C ["name"] (.ref a :: (vs ++ [])) (upd H1 a (exo a C none))
          (fun v H2 => v = .non ∧ ∃ (d : Addr) (gs : List (Str × V)), H2 a = some (exo a C (some d)) ∧ H2 d = some (exd d gs) ∧ H1 d = none ∧ E (.ref C) (some d) (upd (del H2 a) d (.xd gs))) (fun _ _ _ => False) :=
        ⟨v, rfl, rd_mk rfl (by show 1 ≤ 1000; decide) fun dx H' s' n q => thr H' dx s' n q⟩
      rcases ho with ⟨h1, h2⟩ | ⟨a, rfl⟩
      · refine .inl ⟨WA, _, rfl, .inr (hW H), h1, by decide, _, rfl, ?_⟩
        rw [h2]
        exact iteT out
      · exact .inr ⟨WA, a, d, five, rfl, rfl, hW H, hd, _, rfl, iteT out⟩
end
def spWantL (K : PySem.W.Frag) (C : Addr) : Sp := fun vs H Q E => ∃ (v : V) (d : PyData) (a : Addr) (ws : List Str) (w : Str), vs = [v, .ref a, .str w] ∧ De K H v d ∧ SqL K H a (ws.map V.str) ∧ ws.length ≤ 900 ∧ w.cps.size ≤ 1000 ∧ (∀ y ∈ ws, y.cps.size ≤ 1000) ∧
  ((∃ nm ∈ five, v = .str nm ∧ ∀ (H' : Hp) (u : V), Same H H' → Dp K H' u (dueD nm ws w) → Q u H') ∨ (Odd v ∧ Thrown E C H [("name", v)]))
section
variable {P : Program} {w : World} {K : PySem.W.Frag} {mg : Str → Option Value} {base : Heap} {f fC fY fL C WA : Addr} {fd fdC fdY fdL : FuncData}
theorem scWantL : FnScope ["name", "words", "word", "kept", "others", "same", "other"] ["name", "words", "word"] (defScope (top 8)) := ⟨rfl, rfl, rfl, by decide +kernel, rfl, by decide +kernel, by decide +kernel⟩
theorem ok_wantL (F : Fun K "wanted" "wanted" (top 8) f fd) (gT : mg "tuple" = none) (gS : mg "sorted" = none) (gA : mg "any" = none)
    (gC : mg "check_wish" = some (.ref fC)) (kC : PySem.W.keepIn K (.ref fC) = true) (GC : FnOk P w K mg base (L2.CX P w) 3 fC fdC ["name"] (spCheck K C)) (bC : Binds K fdC ["name"] [])
    (gY : mg "yes_or_no" = some (.ref fY)) (kY : PySem.W.keepIn K (.ref fY) = true) (GY : FnOk P w K mg base CX0 1 fY fdY ["holds"] spYn) (bY : Binds K fdY ["holds"] [])
    (gL : mg "longest_beginning" = some (.ref fL)) (kL : PySem.W.keepIn K (.ref fL) = true) (GL : FnOk P w K mg base CX0 1 fL fdL ["words", "word"] (spLongL K)) (bL : Binds K fdL ["words", "word"] []) :
    FnOk P w K mg base (L2.CX P w) 4 f fd ["name", "words", "word"] (spWantL K C) := by
  refine F.okX scWantL (fun vs H Q E h => ?_) (fun cdv A outer s H vs Q E hr h => ?_)
  · obtain ⟨v, d, a, ws, w, rfl, _⟩ := h
    rfl
  · obtain ⟨v, d, a, ws, w, rfl, hd, hS, hz, hw, hy, hk⟩ := h
    have hu64 := hr.units
    have hr1 : Room 1 _ := hr.mono (by decide)
    have nd := scWantL.nd
    refine ⟨_, pss_cons (ps_expr (pe_call GC hr (by rfl) gC kC bC .nil (passes_call (takes_of rfl rfl rfl rfl) (fun _ _ _ _ h => h)) (pa_cons (pv 0) pa_nil)))
      (pss_cons (ps_set (i := 3) nd rfl (Or.inl rfl) (pe_cmpR op_in_seq (pv 2) (pv 1) (by rfl)))
      (pss_cons (ps_setLc (i := 4) (own := [("other", 6)]) (g := gName 6) rfl nd rfl rfl (sw_true rfl rfl rfl (by decide +kernel)) (pi_list (pv 1)) (blkOk_by (N := ["name", "words", "word", "kept", "others", "same", "other"]) (sc := defScope (top 8)) (by decide +kernel)) (fun _ _ _ _ _ => pg_name (i := 6) nd rfl (Or.inl rfl))
        (fun _ _ _ _ _ => pts_one (pt_cmpR op_ne (pv 6) (pv 2) (nomark _))) (fun _ _ _ _ _ => pv 6))
      (pss_cons (ps_if (pt_cmpR op_eq (pv 0) pe_str (nomark _)) (pss_one (ps_ret (pe_tup (pa_cons (pe_call GY hr1 (by rfl) gY kY bY .nil pass0 (pa_cons (pe_not (pv 3)) pa_nil)) (pa_cons (pe_callTy call_tuple_of (by rfl) gT PyProof.Rows.boot_tuple (pa_cons (pe_callB (cr_srt hu64) (by rfl) gS PyProof.Rows.boot_sorted (pa_cons (pe_op op_cat (pv 4) (pe_lst (pa_cons (pv 2) pa_nil))) pa_nil)) pa_nil)) pa_nil))))) pss_nil)
      (pss_cons (ps_if (pt_cmpR op_eq (pv 0) pe_str (nomark _)) (pss_one (ps_ret (pe_tup (pa_cons (pe_call GY hr1 (by rfl) gY kY bY .nil pass0 (pa_cons (pv 3) pa_nil)) (pa_cons (pe_callTy call_tuple_of (by rfl) gT PyProof.Rows.boot_tuple (pa_cons (pe_callB (cr_srt hu64) (by rfl) gS PyProof.Rows.boot_sorted (pa_cons (pv 4) pa_nil)) pa_nil)) pa_nil))))) pss_nil)
      (pss_cons (ps_set (i := 5) nd rfl (Or.inl rfl) (pe_callTy call_tuple_of (by rfl) gT PyProof.Rows.boot_tuple (pa_cons (pe_callB (cr_srt hu64) (by rfl) gS PyProof.Rows.boot_sorted (pa_cons (pv 1) pa_nil)) pa_nil)))
      (pss_cons (ps_if (pt_cmpR op_eq (pv 0) pe_str (nomark _)) (pss_one (ps_ret (pe_tup (pa_cons (pe_call GY hr1 (by rfl) gY kY bY .nil pass0 (pa_cons (pv 3) pa_nil)) (pa_cons (pv 5) pa_nil))))) pss_nil)
      (pss_cons (ps_if (pt_cmpR op_eq (pv 0) pe_str (nomark _)) (pss_one (ps_ret (pe_tup (pa_cons (pe_call GY hr1 (by rfl) gY kY bY .nil pass0 (pa_cons (pe_callB (cr_any rfl) (by rfl) gA (by decide +kernel) (pa_cons (pe_lc (own := [("other", 6)]) (g := gName 6) (tt := tYes) rfl nd (pi_list (pv 1)) (blkOk_by (N := ["name", "words", "word", "kept", "others", "same", "other"]) (sc := defScope (top 8)) (by decide +kernel))
          (fun _ _ _ _ _ => pg_name (i := 6) nd rfl (Or.inl rfl)) (fun _ _ _ _ _ => pts_nil) (fun _ _ _ _ _ => pe_m1 PySem.F.slot_str_startswith PySem.F.type_str_startswith mt_startswith (pv 6) (pv 2))) pa_nil)) pa_nil)) (pa_cons (pv 5) pa_nil))))) pss_nil)
      (pss_one (ps_ret (pe_tup (pa_cons (pe_call GL hr1 (by rfl) gL kL bL .nil pass0 (pa_cons (pv 1) (pa_cons (pv 2) pa_nil))) (pa_cons (pv 5) pa_nil)))))))))))), ?_⟩
    refine ⟨v, rfl, v, d, rfl, hd, ?_⟩
    rcases hk.symm with ho | ⟨nm, hn, rfl, kk⟩
    · exact .inr ho
    refine .inl ⟨⟨nm, hn, rfl⟩, ?_⟩
    have flat := flat_strs ws
    refine ⟨V.str w, rfl, V.ref a, rfl, a, _, rfl, .inl hS, rfl, flat, ?_⟩
    rw [inV_str]
    refine ⟨V.ref a, rfl, a, rfl, ⟨_, hS⟩, fun D nD => lcF_list (K := K) V.str nD V.str (fun y => !decide (y = w)) hS (small_line (by omega)) (fun i y G hi sG A B kA kB => ?_) fun G sG hD => ?_⟩
    · have e0 : decide (V.str y = V.str w) = decide (y = w) := decide_eq_decide.mpr ⟨fun z => by injection z, fun z => by rw [z]⟩
      refine ⟨rfl, V.str y, rfl, V.str w, rfl, rfl, _, rfl, ite2 (fun c => ⟨V.str y, rfl, kA (by rw [← e0]; exact c)⟩) fun c => kB (by rw [← e0]; exact Bool.eq_false_iff.mpr c)⟩
    have kH := fun (H' : Hp) (u : V) (s : Same G H') => kk H' u (sG.trans s)
    clear kk
    have two : 2 ≤ sizeLine := by decide
    have hf : (ws.filter fun y => !decide (y = w)).length ≤ 900 := Nat.le_trans (List.length_filter_le _ _) hz
    have hn0 : G D = some (.lst ((ws.filter fun y => !decide (y = w)).map V.str)) := hD
    have hSG := Same.seq sG hS
    refine ⟨V.str nm, rfl, rfl, _, rfl, ite2 (fun c => ?_) (fun c => ?_)⟩
    · have e := nm_eq c
      subst e
      refine ⟨_, rfl, _, rfl, _, rfl, V.ref D, rfl, V.str w, rfl, (by show 1 ≤ sizeLine; decide), fun p np => ?_⟩
      refine ⟨D, p, (ws.filter fun y => !decide (y = w)).map V.str, [V.str w], rfl, rfl, (upd_ne (ne_of_none hn0 np)).trans hn0, upd_same, Nat.le_of_lt (small_line (by rw [List.length_map]; show _ + 1 ≤ 5000; omega)), fun q nq => ?_⟩
      refine ⟨q, (ws.filter fun y => !decide (y = w)) ++ [w], rfl, .inl (.inl (.inl (by rw [upd_same, List.map_append]; rfl))), fun r nr => ⟨r, _, rfl, .inl ⟨.inl (.inl upd_same), fun t nt => ⟨two, fun u nu => ?_⟩⟩⟩⟩
      refine kH _ _ ((((upd_new np).trans (upd_new nq)).trans (upd_new nr)).trans ((upd_new nt).trans (upd_new nu))) ?_
      exact fin2 (d := .str _) nu (.str _) upd_same
    have n1 := nm_ne c
    refine ⟨V.str nm, rfl, rfl, _, rfl, ite2 (fun c => ?_) (fun c => ?_)⟩
    · have e := nm_eq c
      subst e
      refine ⟨_, rfl, _, rfl, V.ref D, rfl, D, _, rfl, .inl (.inl (.inl hn0)), fun r nr => ⟨r, _, rfl, .inl ⟨.inl (.inl upd_same), fun t nt => ⟨two, fun u nu => ?_⟩⟩⟩⟩
      refine kH _ _ ((upd_new nr).trans ((upd_new nt).trans (upd_new nu))) ?_
      exact fin2 (d := .str _) nu (.str _) upd_same
    have n2 := nm_ne c
    refine ⟨V.ref a, rfl, a, ws, rfl, .inl hSG, fun r nr => ⟨r, _, rfl, .inl ⟨.inl (.inl upd_same), fun t nt => ?_⟩⟩⟩
    have s1 := (upd_new (o := .lst ((srt ws).map V.str)) nr).trans (upd_new (o := .tup ((srt ws).map V.str)) nt)
    have ht : upd (upd G r (.lst ((srt ws).map V.str))) t (.tup ((srt ws).map V.str)) t = some (.tup ((srt ws).map V.str)) := upd_same
    generalize upd (upd G r (.lst ((srt ws).map V.str))) t (.tup ((srt ws).map V.str)) = G1 at s1 ht
    have hS1 := Same.seq s1 hSG
    refine ⟨V.str nm, rfl, rfl, _, rfl, ite2 (fun c => ?_) (fun c => ?_)⟩
    · have e := nm_eq c
      subst e
      refine ⟨_, rfl, _, rfl, V.ref t, rfl, two, fun u nu => kH _ _ (s1.trans (upd_new nu)) ?_⟩
      exact fin2 (d := .str _) nu (.str _) ht
    have n3 := nm_ne c
    refine ⟨V.str nm, rfl, rfl, _, rfl, ite2 (fun c => ?_) (fun c => ?_)⟩
    · have e := nm_eq c
      subst e
      refine ⟨V.ref a, rfl, a, rfl, ⟨_, hS1⟩, fun D2 nD2 => lcF_list (K := K) V.str nD2 (fun y => V.bl (Txt.startswith y w)) (fun _ => true) hS1 (small_line (by omega)) (fun i y G2 hi sG2 A B kA kB => ⟨rfl, V.str y, rfl, ⟨y, rfl⟩, V.str w, rfl, y, w, rfl, rfl, kA rfl⟩) fun G2 sG2 hD2 => ?_⟩
      have ef : ws.filter (fun _ => true) = ws := List.filter_eq_self.mpr fun _ _ => rfl
      rw [ef] at hD2
      have eb : ws.map (fun y => V.bl (Txt.startswith y w)) = (ws.map fun y => Txt.startswith y w).map V.bl := by
        rw [List.map_map]
        rfl
      rw [eb] at hD2
      refine ⟨D2, _, rfl, .inl (.inl hD2), _, rfl, V.ref t, rfl, two, fun u nu => kH _ _ ((s1.trans sG2).trans (upd_new nu)) ?_⟩
      have ea : (ws.map fun y => Txt.startswith y w).any id = ws.any fun y => Txt.startswith y w := by
        rw [List.any_map]
        rfl
      rw [ea]
      exact fin2 (d := .str _) nu (.str _) (sG2 _ _ ht)
    have n4 := nm_ne c
    refine ⟨V.ref a, rfl, V.str w, rfl, a, ws, w, rfl, hS1, by omega, hw, hy, fun G2 v sG2 hv => ⟨V.ref t, rfl, two, fun u nu => kH _ _ ((s1.trans sG2).trans (upd_new nu)) ?_⟩⟩
    unfold dueD ansW aft
    rw [if_neg n1, if_neg n2, if_neg n3, if_neg n4, if_neg n1, if_neg n2]
    exact fin2 nu hv (sG2 _ _ ht)
end
def spWantT (K : PySem.W.Frag) (C : Addr) : Sp := fun vs H Q E => ∃ (v : V) (d : PyData) (a : Addr) (ws : List Str) (w : Str), vs = [v, .ref a, .str w] ∧ De K H v d ∧ SqT K H a (ws.map V.str) ∧ ws.length ≤ 900 ∧ w.cps.size ≤ 1000 ∧ (∀ y ∈ ws, y.cps.size ≤ 1000) ∧
  ((∃ nm ∈ five, v = .str nm ∧ ∀ (H' : Hp) (u : V), Same H H' → Dp K H' u (dueD nm ws w) → Q u H') ∨ (Odd v ∧ Thrown E C H [("name", v)]))
section
variable {P : Program} {w : World} {K : PySem.W.Frag} {mg : Str → Option Value} {base : Heap} {f fC fY fL C WA : Addr} {fd fdC fdY fdL : FuncData}
theorem scWantT : FnScope ["name", "words", "word", "kept", "others", "same", "other"] ["name", "words", "word"] (defScope (top 8)) := ⟨rfl, rfl, rfl, by decide +kernel, rfl, by decide +kernel, by decide +kernel⟩
theorem ok_wantT (F : Fun K "wanted" "wanted" (top 8) f fd) (gT : mg "tuple" = none) (gS : mg "sorted" = none) (gA : mg "any" = none)
    (gC : mg "check_wish" = some (.ref fC)) (kC : PySem.W.keepIn K (.ref fC) = true) (GC : FnOk P w K mg base (L2.CX P w) 3 fC fdC ["name"] (spCheck K C)) (bC : Binds K fdC ["name"] [])
    (gY : mg "yes_or_no" = some (.ref fY)) (kY : PySem.W.keepIn K (.ref fY) = true) (GY : FnOk P w K mg base CX0 1 fY fdY ["holds"] spYn) (bY : Binds K fdY ["holds"] [])
    (gL : mg "longest_beginning" = some (.ref fL)) (kL : PySem.W.keepIn K (.ref fL) = true) (GL : FnOk P w K mg base CX0 1 fL fdL ["words", "word"] (spLongT K)) (bL : Binds K fdL ["words", "word"] []) :
    FnOk P w K mg base (L2.CX P w) 4 f fd ["name", "words", "word"] (spWantT K C) := by
  refine F.okX scWantT (fun vs H Q E h => ?_) (fun cdv A outer s H vs Q E hr h => ?_)
  · obtain ⟨v, d, a, ws, w, rfl, _⟩ := h
    rfl
  · obtain ⟨v, d, a, ws, w, rfl, hd, hS, hz, hw, hy, hk⟩ := h
    have hu64 := hr.units
    have hr1 : Room 1 _ := hr.mono (by decide)
    have nd := scWantT.nd
    refine ⟨_, pss_cons (ps_expr (pe_call GC hr (by rfl) gC kC bC .nil (passes_call (takes_of rfl rfl rfl rfl) (fun _ _ _ _ h => h)) (pa_cons (pv 0) pa_nil)))
      (pss_cons (ps_set (i := 3) nd rfl (Or.inl rfl) (pe_cmpR op_in_seq (pv 2) (pv 1) (by rfl)))
      (pss_cons (ps_setLc (i := 4) (own := [("other", 6)]) (g := gName 6) rfl nd rfl rfl (sw_true rfl rfl rfl (by decide +kernel)) (pi_tup (pv 1)) (blkOk_by (N := ["name", "words", "word", "kept", "others", "same", "other"]) (sc := defScope (top 8)) (by decide +kernel)) (fun _ _ _ _ _ => pg_name (i := 6) nd rfl (Or.inl rfl))
        (fun _ _ _ _ _ => pts_one (pt_cmpR op_ne (pv 6) (pv 2) (nomark _))) (fun _ _ _ _ _ => pv 6))
      (pss_cons (ps_if (pt_cmpR op_eq (pv 0) pe_str (nomark _)) (pss_one (ps_ret (pe_tup (pa_cons (pe_call GY hr1 (by rfl) gY kY bY .nil pass0 (pa_cons (pe_not (pv 3)) pa_nil)) (pa_cons (pe_callTy call_tuple_of (by rfl) gT PyProof.Rows.boot_tuple (pa_cons (pe_callB (cr_srt hu64) (by rfl) gS PyProof.Rows.boot_sorted (pa_cons (pe_op op_cat (pv 4) (pe_lst (pa_cons (pv 2) pa_nil))) pa_nil)) pa_nil)) pa_nil))))) pss_nil)
      (pss_cons (ps_if (pt_cmpR op_eq (pv 0) pe_str (nomark _)) (pss_one (ps_ret (pe_tup (pa_cons (pe_call GY hr1 (by rfl) gY kY bY .nil pass0 (pa_cons (pv 3) pa_nil)) (pa_cons (pe_callTy call_tuple_of (by rfl) gT PyProof.Rows.boot_tuple (pa_cons (pe_callB (cr_srt hu64) (by rfl) gS PyProof.Rows.boot_sorted (pa_cons (pv 4) pa_nil)) pa_nil)) pa_nil))))) pss_nil)
      (pss_cons (ps_set (i := 5) nd rfl (Or.inl rfl) (pe_callTy call_tuple_of (by rfl) gT PyProof.Rows.boot_tuple (pa_cons (pe_callB (cr_srt hu64) (by rfl) gS PyProof.Rows.boot_sorted (pa_cons (pv 1) pa_nil)) pa_nil)))
      (pss_cons (ps_if (pt_cmpR op_eq (pv 0) pe_str (nomark _)) (pss_one (ps_ret (pe_tup (pa_cons (pe_call GY hr1 (by rfl) gY kY bY .nil pass0 (pa_cons (pv 3) pa_nil)) (pa_cons (pv 5) pa_nil))))) pss_nil)
      (pss_cons (ps_if (pt_cmpR op_eq (pv 0) pe_str (nomark _)) (pss_one (ps_ret (pe_tup (pa_cons (pe_call GY hr1 (by rfl) gY kY bY .nil pass0 (pa_cons (pe_callB (cr_any rfl) (by rfl) gA (by decide +kernel) (pa_cons (pe_lc (own := [("other", 6)]) (g := gName 6) (tt := tYes) rfl nd (pi_tup (pv 1)) (blkOk_by (N := ["name", "words", "word", "kept", "others", "same", "other"]) (sc := defScope (top 8)) (by decide +kernel))
          (fun _ _ _ _ _ => pg_name (i := 6) nd rfl (Or.inl rfl)) (fun _ _ _ _ _ => pts_nil) (fun _ _ _ _ _ => pe_m1 PySem.F.slot_str_startswith PySem.F.type_str_startswith mt_startswith (pv 6) (pv 2))) pa_nil)) pa_nil)) (pa_cons (pv 5) pa_nil))))) pss_nil)
      (pss_one (ps_ret (pe_tup (pa_cons (pe_call GL hr1 (by rfl) gL kL bL .nil pass0 (pa_cons (pv 1) (pa_cons (pv 2) pa_nil))) (pa_cons (pv 5) pa_nil)))))))))))), ?_⟩
    refine ⟨v, rfl, v, d, rfl, hd, ?_⟩
    rcases hk.symm with ho | ⟨nm, hn, rfl, kk⟩
    · exact .inr ho
    refine .inl ⟨⟨nm, hn, rfl⟩, ?_⟩
    have flat := flat_strs ws
    refine ⟨V.str w, rfl, V.ref a, rfl, a, _, rfl, .inr hS, rfl, flat, ?_⟩
    rw [inV_str]
    refine ⟨V.ref a, rfl, a, rfl, ⟨_, hS⟩, fun D nD => lcF_tup (K := K) V.str nD V.str (fun y => !decide (y = w)) hS (small_line (by omega)) (fun i y G hi sG A B kA kB => ?_) fun G sG hD => ?_⟩
    · have e0 : decide (V.str y = V.str w) = decide (y = w) := decide_eq_decide.mpr ⟨fun z => by injection z, fun z => by rw [z]⟩
      refine ⟨rfl, V.str y, rfl, V.str w, rfl, rfl, _, rfl, ite2 (fun c => ⟨V.str y, rfl, kA (by rw [← e0]; exact c)⟩) fun c => kB (by rw [← e0]; exact Bool.eq_false_iff.mpr c)⟩
    have kH := fun (H' : Hp) (u : V) (s : Same G H') => kk H' u (sG.trans s)
    clear kk
    have two : 2 ≤ sizeLine := by decide
    have hf : (ws.filter fun y => !decide (y = w)).length ≤ 900 := Nat.le_trans (List.length_filter_le _ _) hz
    have hn0 : G D = some (.lst ((ws.filter fun y => !decide (y = w)).map V.str)) := hD
    have hSG := SK.Same.seqT sG hS
    refine ⟨V.str nm, rfl, rfl, _, rfl, ite2 (fun c => ?_) (fun c => ?_)⟩
    · have e := nm_eq c
      subst e
      refine ⟨_, rfl, _, rfl, _, rfl, V.ref D, rfl, V.str w, rfl, (by show 1 ≤ sizeLine; decide), fun p np => ?_⟩
      refine ⟨D, p, (ws.filter fun y => !decide (y = w)).map V.str, [V.str w], rfl, rfl, (upd_ne (ne_of_none hn0 np)).trans hn0, upd_same, Nat.le_of_lt (small_line (by rw [List.length_map]; show _ + 1 ≤ 5000; omega)), fun q nq => ?_⟩
      refine ⟨q, (ws.filter fun y => !decide (y = w)) ++ [w], rfl, .inl (.inl (.inl (by rw [upd_same, List.map_append]; rfl))), fun r nr => ⟨r, _, rfl, .inl ⟨.inl (.inl upd_same), fun t nt => ⟨two, fun u nu => ?_⟩⟩⟩⟩
      refine kH _ _ ((((upd_new np).trans (upd_new nq)).trans (upd_new nr)).trans ((upd_new nt).trans (upd_new nu))) ?_
      exact fin2 (d := .str _) nu (.str _) upd_same
    have n1 := nm_ne c
    refine ⟨V.str nm, rfl, rfl, _, rfl, ite2 (fun c => ?_) (fun c => ?_)⟩
    · have e := nm_eq c
      subst e
      refine ⟨_, rfl, _, rfl, V.ref D, rfl, D, _, rfl, .inl (.inl (.inl hn0)), fun r nr => ⟨r, _, rfl, .inl ⟨.inl (.inl upd_same), fun t nt => ⟨two, fun u nu => ?_⟩⟩⟩⟩
      refine kH _ _ ((upd_new nr).trans ((upd_new nt).trans (upd_new nu))) ?_
      exact fin2 (d := .str _) nu (.str _) upd_same
    have n2 := nm_ne c
    refine ⟨V.ref a, rfl, a, ws, rfl, .inr hSG, fun r nr => ⟨r, _, rfl, .inl ⟨.inl (.inl upd_same), fun t nt => ?_⟩⟩⟩
    have s1 := (upd_new (o := .lst ((srt ws).map V.str)) nr).trans (upd_new (o := .tup ((srt ws).map V.str)) nt)
    have ht : upd (upd G r (.lst ((srt ws).map V.str))) t (.tup ((srt ws).map V.str)) t = some (.tup ((srt ws).map V.str)) := upd_same
    generalize upd (upd G r (.lst ((srt ws).map V.str))) t (.tup ((srt ws).map V.str)) = G1 at s1 ht
    have hS1 := SK.Same.seqT s1 hSG
    refine ⟨V.str nm, rfl, rfl, _, rfl, ite2 (fun c => ?_) (fun c => ?_)⟩
    · have e := nm_eq c
      subst e
      refine ⟨_, rfl, _, rfl, V.ref t, rfl, two, fun u nu => kH _ _ (s1.trans (upd_new nu)) ?_⟩
      exact fin2 (d := .str _) nu (.str _) ht
    have n3 := nm_ne c
    refine ⟨V.str nm, rfl, rfl, _, rfl, ite2 (fun c => ?_) (fun c => ?_)⟩
    · have e := nm_eq c
      subst e
      refine ⟨V.ref a, rfl, a, rfl, ⟨_, hS1⟩, fun D2 nD2 => lcF_tup (K := K) V.str nD2 (fun y => V.bl (Txt.startswith y w)) (fun _ => true) hS1 (small_line (by omega)) (fun i y G2 hi sG2 A B kA kB => ⟨rfl, V.str y, rfl, ⟨y, rfl⟩, V.str w, rfl, y, w, rfl, rfl, kA rfl⟩) fun G2 sG2 hD2 => ?_⟩
      have ef : ws.filter (fun _ => true) = ws := List.filter_eq_self.mpr fun _ _ => rfl
      rw [ef] at hD2
      have eb : ws.map (fun y => V.bl (Txt.startswith y w)) = (ws.map fun y => Txt.startswith y w).map V.bl := by
        rw [List.map_map]
        rfl
      rw [eb] at hD2
      refine ⟨D2, _, rfl, .inl (.inl hD2), _, rfl, V.ref t, rfl, two, fun u nu => kH _ _ ((s1.trans sG2).trans (upd_new nu)) ?_⟩
      have ea : (ws.map fun y => Txt.startswith y w).any id = ws.any fun y => Txt.startswith y w := by
        rw [List.any_map]
        rfl
      rw [ea]
      exact fin2 (d := .str _) nu (.str _) (sG2 _ _ ht)
    have n4 := nm_ne c
    refine ⟨V.ref a, rfl, V.str w, rfl, a, ws, w, rfl, hS1, by omega, hw, hy, fun G2 v sG2 hv => ⟨V.ref t, rfl, two, fun u nu => kH _ _ ((s1.trans sG2).trans (upd_new nu)) ?_⟩⟩
    unfold dueD ansW aft
    rw [if_neg n1, if_neg n2, if_neg n3, if_neg n4, if_neg n1, if_neg n2]
    exact fin2 nu hv (sG2 _ _ ht)
end
end SK
namespace SK
open PySem PySem.Spec PyProof.Rows L2 LamX NdefX
open K0 (De DeAll XCl spX withX)
theorem strs_lay : ∀ {ws : List Str}, (∀ y ∈ ws, PyData.strOk y = true) → PyData.canLayAll0 (ws.map PyData.str) = true ∧ PyData.depthAll (ws.map PyData.str) ≤ 1
  | [], _ => ⟨by simp [PyData.canLayAll0], by simp [PyData.depthAll]⟩
  | w :: ws, h => by
    obtain ⟨h1, h2⟩ := strs_lay (ws := ws) fun y hy => h y (List.mem_cons_of_mem _ hy)
    refine ⟨by simp [PyData.canLayAll0, PyData.canLay0, h1, h w (by simp)], ?_⟩
    simp only [List.map_cons, PyData.depthAll, PyData.depth]
    omega
theorem strs_shaped {ws : List Str} (h : ∀ y ∈ ws, PyData.strOk y = true) : SeqAt.shaped (.list (ws.map PyData.str)) = true := by
  obtain ⟨h1, h2⟩ := strs_lay h
  unfold SeqAt.shaped
  rw [Bool.and_eq_true, decide_eq_true_eq]
  refine ⟨by simp only [PyData.canLay0, h1], ?_⟩
  simp only [PyData.depth]
  omega
theorem cut_ok {w : Str} {k : Nat} (h : PyData.strOk w = true) : PyData.strOk (cutTo w k) = true := by
  unfold PyData.strOk at h ⊢
  rw [← Array.all_toList, List.all_eq_true] at h ⊢
  intro c hc
  unfold cutTo at hc
  rw [List.toList_toArray] at hc
  exact h c (List.mem_of_mem_take hc)
theorem ite_str {b : Bool} {x y : Str} {σ : St} {H : Hp} {Q : VK} (h : Q (.str (if b = true then x else y)) H) : if b = true then tC (.str x) σ H Q else tC (.str y) σ H Q := by
  cases b with
  | true => exact iteT h
  | false => exact iteF h
def spDueL (K : PySem.W.Frag) : Sp := fun vs H Q _ => ∃ (nm : Str) (a : Addr) (ws : List Str) (w : Str), vs = [.str nm, .ref a, .str w] ∧ nm ∈ five ∧ SqL K H a (ws.map V.str) ∧ ws.length ≤ 900 ∧ w.cps.size ≤ 1000 ∧ (∀ y ∈ ws, y.cps.size ≤ 1000) ∧ PyData.strOk w = true ∧
  ∀ (H' : Hp) (u : V), Same H H' → Dp K H' u (dueD nm ws w) → Q u H'
section
variable {P : Program} {w : World} {K : PySem.W.Frag} {mg : Str → Option Value} {base : Heap} {f : Addr} {fd : FuncData}
theorem scDueL : FnScope ["name", "words", "word", "left", "answer", "found", "one", "size"] ["name", "words", "word"] (defScope (top 17)) := ⟨rfl, rfl, rfl, by decide +kernel, rfl, by decide +kernel, by decide +kernel⟩
theorem ok_dueL (F : Fun K "_law_due" "_law_due" (top 17) f fd) (gT : mg "tuple" = none) (gS : mg "sorted" = none) (gA : mg "any" = none) (gR : mg "range" = none) (gN : mg "len" = none) :
    FnOk P w K mg base CX0 1 f fd ["name", "words", "word"] (spDueL K) := by
  refine F.ok scDueL (fun vs H Q E h => ?_) (fun cdv A outer s H vs Q E hr h => ?_)
  · obtain ⟨nm, a, ws, w, rfl, _⟩ := h
    rfl
  · obtain ⟨nm, a, ws, w, rfl, hn, hS, hz, hw, hy, hok, kk⟩ := h
    have hu64 := hr.units
    have nd := scDueL.nd
    refine ⟨_, pss_cons (ps_setLc (i := 3) (own := [("one", 6)]) (g := gName 6) rfl nd rfl rfl (sw_true rfl rfl rfl (by decide +kernel)) (pi_list (pv 1)) (blkOk_by (N := ["name", "words", "word", "left", "answer", "found", "one", "size"]) (sc := defScope (top 17)) (by decide +kernel)) (fun _ _ _ _ _ => pg_name (i := 6) nd rfl (Or.inl rfl))
        (fun _ _ _ _ _ => pts_one (pt_cmpR op_ne (pv 6) (pv 2) (nomark _))) (fun _ _ _ _ _ => pv 6))
      (pss_cons (ps_if (pt_cmpR op_eq (pv 0) pe_str (nomark _)) (pss_one (ps_ret (pe_tup (pa_cons (pe_ifExp (pt_cmpR op_in_seq (pv 2) (pv 1) (by rfl)) pe_str pe_str) (pa_cons (pe_callTy call_tuple_of (by rfl) gT PyProof.Rows.boot_tuple (pa_cons (pe_callB (cr_srt hu64) (by rfl) gS PyProof.Rows.boot_sorted (pa_cons (pe_op op_cat (pv 3) (pe_lst (pa_cons (pv 2) pa_nil))) pa_nil)) pa_nil)) pa_nil))))) pss_nil)
      (pss_cons (ps_if (pt_cmpR op_eq (pv 0) pe_str (nomark _)) (pss_one (ps_ret (pe_tup (pa_cons (pe_ifExp (pt_cmpR op_in_seq (pv 2) (pv 1) (by rfl)) pe_str pe_str) (pa_cons (pe_callTy call_tuple_of (by rfl) gT PyProof.Rows.boot_tuple (pa_cons (pe_callB (cr_srt hu64) (by rfl) gS PyProof.Rows.boot_sorted (pa_cons (pv 3) pa_nil)) pa_nil)) pa_nil))))) pss_nil)
      (pss_cons (ps_set (i := 4) nd rfl (Or.inl rfl) (pe_ifExp (pt_cmpR op_in_seq (pv 2) (pv 1) (by rfl)) pe_str pe_str))
      (pss_cons (ps_if (pt_cmpR op_eq (pv 0) pe_str (nomark _)) (pss_one (ps_set (i := 4) nd rfl (Or.inl rfl) (pe_ifExp (pt_val (pe_callB (cr_any rfl) (by rfl) gA (by decide +kernel) (pa_cons (pe_lc (own := [("one", 6)]) (g := gName 6) (tt := tYes) rfl nd (pi_list (pv 1)) (blkOk_by (N := ["name", "words", "word", "left", "answer", "found", "one", "size"]) (sc := defScope (top 17)) (by decide +kernel))
          (fun _ _ _ _ _ => pg_name (i := 6) nd rfl (Or.inl rfl)) (fun _ _ _ _ _ => pts_nil) (fun _ _ _ _ _ => pe_m1 PySem.F.slot_str_startswith PySem.F.type_str_startswith mt_startswith (pv 6) (pv 2))) pa_nil))) pe_str pe_str))) pss_nil)
      (pss_cons (ps_if (pt_cmpR op_eq (pv 0) pe_str (nomark _)) (pss_cons (ps_setLc (i := 5) (own := [("size", 7)]) (g := gName 7) (tt := tTest (tOp (rIn K false) (tSl rSlS (tVar 2) tNoPart (tPart (tVar 7))) (tVar 1))) rfl nd rfl rfl (sw_true rfl rfl rfl (by decide +kernel)) (pi_range1 (by rfl) gR (pa_cons (pe_op op_add (pe_callB call_len_str (by rfl) gN PySem.boot_len (pa_cons (pv 2) pa_nil)) pe_int) pa_nil)) (blkOk_by (N := ["name", "words", "word", "left", "answer", "found", "one", "size"]) (sc := defScope (top 17)) (by decide +kernel))
            (fun _ _ _ _ _ => pg_name (i := 7) nd rfl (Or.inl rfl)) (fun _ _ _ _ _ => pts_one (pt_cmpR op_in_seq (pe_slice sl_str (pv 2) po_none (po_some (pv 7))) (pv 1) (by rfl))) (fun _ _ _ _ _ => pe_slice sl_str (pv 2) po_none (po_some (pv 7))))
          (pss_one (ps_set (i := 4) nd rfl (Or.inl rfl) (pe_ifExp (pt_cmpR (op_neD hu64) (pv 5) (pe_lst pa_nil) (nomark _)) (pe_tup (pa_cons pe_str (pa_cons (pe_ix ix_list (pv 5) (pe_un un_neg pe_int) (fun _ _ => rfl)) pa_nil))) pe_non)))) pss_nil)
      (pss_one (ps_ret (pe_tup (pa_cons (pv 4) (pa_cons (pe_callTy call_tuple_of (by rfl) gT PyProof.Rows.boot_tuple (pa_cons (pe_callB (cr_srt hu64) (by rfl) gS PyProof.Rows.boot_sorted (pa_cons (pv 1) pa_nil)) pa_nil)) pa_nil)))))))))), ?_⟩
    have flat := flat_strs ws
    have two : 2 ≤ sizeLine := by decide
    have e0 : ∀ y : Str, decide (V.str y = V.str w) = decide (y = w) := fun y => decide_eq_decide.mpr ⟨fun z => by injection z, fun z => by rw [z]⟩
    refine ⟨V.ref a, rfl, a, rfl, ⟨_, hS⟩, fun D nD => lcF_list (K := K) V.str nD V.str (fun y => !decide (y = w)) hS (small_line (by omega)) (fun i y G hi sG A B kA kB => ⟨rfl, V.str y, rfl, V.str w, rfl, rfl, _, rfl, ite2 (fun c => ⟨V.str y, rfl, kA (by rw [← e0]; exact c)⟩) fun c => kB (by rw [← e0]; exact Bool.eq_false_iff.mpr c)⟩) fun G sG hD => ?_⟩
    have kH := fun (H' : Hp) (u : V) (s : Same G H') => kk H' u (sG.trans s)
    clear kk
    have hf : (ws.filter fun y => !decide (y = w)).length ≤ 900 := Nat.le_trans (List.length_filter_le _ _) hz
    have hn0 : G D = some (.lst ((ws.filter fun y => !decide (y = w)).map V.str)) := hD
    have hSG := Same.seq sG hS
    refine ⟨V.str nm, rfl, rfl, _, rfl, ite2 (fun c => ?_) (fun c => ?_)⟩
    · have e := nm_eq c
      subst e
      refine ⟨V.str w, rfl, V.ref a, rfl, a, _, rfl, .inl hSG, rfl, flat, _, rfl, ?_⟩
      rw [inV_str]
      refine ite_str (b := decide (w ∈ ws)) ?_
      refine ⟨V.ref D, rfl, V.str w, rfl, (by show 1 ≤ sizeLine; decide), fun p np => ?_⟩
      refine ⟨D, p, (ws.filter fun y => !decide (y = w)).map V.str, [V.str w], rfl, rfl, (upd_ne (ne_of_none hn0 np)).trans hn0, upd_same, Nat.le_of_lt (small_line (by rw [List.length_map]; show _ + 1 ≤ 5000; omega)), fun q nq => ?_⟩
      refine ⟨q, (ws.filter fun y => !decide (y = w)) ++ [w], rfl, .inl (.inl (.inl (by rw [upd_same, List.map_append]; rfl))), fun r nr => ⟨r, _, rfl, .inl ⟨.inl (.inl upd_same), fun t nt => ⟨two, fun u nu => ?_⟩⟩⟩⟩
      refine kH _ _ ((((upd_new np).trans (upd_new nq)).trans (upd_new nr)).trans ((upd_new nt).trans (upd_new nu))) ?_
      have ey : yn (!decide (w ∈ ws)) = if decide (w ∈ ws) = true then ("no" : Str) else "yes" := by
        unfold yn
        cases decide (w ∈ ws) <;> rfl
      have e2 : dueD "put" ws w = .tuple [.str (if decide (w ∈ ws) = true then ("no" : Str) else "yes"), .tuple ((srt ((ws.filter fun y => !decide (y = w)) ++ [w])).map PyData.str)] := by
        rw [← ey]
        rfl
      rw [e2]
      exact fin2 (d := .str _) nu (.str _) upd_same
    have n1 := nm_ne c
    refine ⟨V.str nm, rfl, rfl, _, rfl, ite2 (fun c => ?_) (fun c => ?_)⟩
    · have e := nm_eq c
      subst e
      refine ⟨V.str w, rfl, V.ref a, rfl, a, _, rfl, .inl hSG, rfl, flat, _, rfl, ?_⟩
      rw [inV_str]
      refine ite_str (b := decide (w ∈ ws)) ?_
      refine ⟨V.ref D, rfl, D, _, rfl, .inl (.inl (.inl hn0)), fun r nr => ⟨r, _, rfl, .inl ⟨.inl (.inl upd_same), fun t nt => ⟨two, fun u nu => ?_⟩⟩⟩⟩
      refine kH _ _ ((upd_new nr).trans ((upd_new nt).trans (upd_new nu))) ?_
      exact fin2 (d := .str _) nu (.str _) upd_same
    have n2 := nm_ne c
    -- the last statement, whatever the answer
    have fin : ∀ (G1 : Hp) (v : V) (σ : St), Same G G1 → Dp K G1 v (ansW nm ws w) → σ[4]? = some (some v) → σ[1]? = some (some (V.ref a)) → tRet (tTup (tCons (tVar 4) (tCons (tCB (fun xs H Q => ∃ p ys, xs = [V.ref p] ∧ ((SqL K H p ys ∧ ∀ l : Addr, H l = none → Q (V.ref l) (upd H l (HO.tup ys))) ∨ (SqT K H p ys ∧ Q (V.ref p) H))) (tCons (tCB (rSrt K) (tCons (tVar 1) tNil)) tNil)) tNil)))
        { nx := fun _ H' => Q .non H', rt := Q } σ G1 := fun G1 v σ s1 hv h4 h1 => by
      refine ⟨v, h4, V.ref a, h1, a, ws, rfl, .inl (Same.seq s1 hSG), fun r nr => ⟨r, _, rfl, .inl ⟨.inl (.inl upd_same), fun t nt => ⟨two, fun u nu => ?_⟩⟩⟩⟩
      refine kH _ _ (s1.trans ((upd_new nr).trans ((upd_new nt).trans (upd_new nu)))) ?_
      have e : dueD nm ws w = .tuple [ansW nm ws w, .tuple ((srt ws).map PyData.str)] := by
        unfold dueD aft
        rw [if_neg n1, if_neg n2]
      rw [e]
      exact fin2 nu (dp_same ((upd_new nr).trans (upd_new nt)) hv) upd_same
    refine ⟨V.str w, rfl, V.ref a, rfl, a, _, rfl, .inl hSG, rfl, flat, _, rfl, ?_⟩
    rw [inV_str]
    refine ite_str (b := decide (w ∈ ws)) ?_
    refine ⟨V.str nm, rfl, rfl, _, rfl, ite2 (fun c => ?_) (fun c => ?_)⟩
    · have e := nm_eq c
      subst e
      refine ⟨V.ref a, rfl, a, rfl, ⟨_, hSG⟩, fun D2 nD2 => lcF_list (K := K) V.str nD2 (fun y => V.bl (Txt.startswith y w)) (fun _ => true) hSG (small_line (by omega)) (fun i y G2 hi sG2 A B kA kB => ⟨rfl, V.str y, rfl, ⟨y, rfl⟩, V.str w, rfl, y, w, rfl, rfl, kA rfl⟩) fun G2 sG2 hD2 => ?_⟩
      have ef : ws.filter (fun _ => true) = ws := List.filter_eq_self.mpr fun _ _ => rfl
      rw [ef] at hD2
      have eb : ws.map (fun y => V.bl (Txt.startswith y w)) = (ws.map fun y => Txt.startswith y w).map V.bl := by
        rw [List.map_map]
        rfl
      rw [eb] at hD2
      refine ⟨D2, _, rfl, .inl (.inl hD2), _, rfl, ite_str (b := (ws.map fun y => Txt.startswith y w).any id) ?_⟩
      have ea : (ws.map fun y => Txt.startswith y w).any id = ws.any fun y => Txt.startswith y w := by
        rw [List.any_map]
        rfl
      refine ⟨V.str "begins", rfl, rfl, _, rfl, ite2 (fun c => absurd (nm_eq c) (by decide +kernel)) fun _ => fin G2 _ _ sG2 ?_ rfl rfl⟩
      rw [ea]
      exact .str _
    have n3 := nm_ne c
    refine ⟨V.str nm, rfl, rfl, _, rfl, ite2 (fun c => ?_) (fun c => ?_)⟩
    · have e := nm_eq c
      subst e
      have hwl : w.length ≤ sizeLine := Nat.le_of_lt (small_line (by rw [same_len]; omega))
      refine ⟨V.str w, rfl, w, rfl, hwl, _, 1, rfl, rfl, _, rfl, ?_, ?_, fun D2 nD2 => lcF_range (lo := 0) nD2 (fun k => V.str (cutTo w k)) (fun k => decide (cutTo w k ∈ ws)) ?_ (fun i G2 hi sG2 A B kA kB => ?_) fun G2 sG2 hD2 => ?_⟩
      · omega
      · have z : (1001 : Int) < 2 ^ 62 := by decide
        have z2 := same_len w
        omega
      · refine small_line ?_
        have z2 := same_len w
        omega
      · have hk : i ≤ w.cps.size := by
          have z2 := same_len w
          omega
        have ez : (0 : Int) + (i : Int) = (i : Int) := Int.zero_add _
        rw [ez]
        refine ⟨rfl, V.str w, rfl, V.int i, rfl, (i : Int), rfl, w, rfl, hwl, V.ref a, rfl, a, _, rfl, .inl (Same.seq sG2 hSG), rfl, flat, _, rfl, ?_⟩
        rw [cutS_to hk, inV_str]
        refine ite2 (fun c => ⟨V.str w, rfl, V.int i, rfl, (i : Int), rfl, w, rfl, hwl, ?_⟩) fun c => kB (Bool.eq_false_iff.mpr c)
        rw [cutS_to hk]
        exact kA c
      have er : ((w.length : Int) + 1).toNat = w.cps.size + 1 := by
        have z2 := same_len w
        omega
      rw [er] at hD2
      have eL : longO ws w = ((List.range (w.cps.size + 1)).filter fun k => decide (cutTo w k ∈ ws)).getLast? := rfl
      have eA : ansW "longest" ws w = longD ws w := rfl
      generalize (List.range (w.cps.size + 1)).filter (fun k => decide (cutTo w k ∈ ws)) = L at hD2 eL
      refine ⟨V.ref D2, rfl, Nat.zero_le _, fun q nq => ?_⟩
      have s3 := sG2.trans (upd_new (o := .lst []) nq)
      have hD3 : upd G2 q (.lst []) D2 = some (.lst (L.map fun k => V.str (cutTo w k))) := upd_new nq _ _ hD2
      have hq3 : upd G2 q (.lst []) q = some (.lst []) := upd_same
      generalize upd G2 q (.lst []) = G3 at s3 hD3 hq3
      have eM : L.map (fun k => V.str (cutTo w k)) = (L.map (cutTo w)).map V.str := by
        rw [List.map_map]
        rfl
      have hD4 := hD3
      rw [eM] at hD4
      refine ⟨.list ((L.map (cutTo w)).map PyData.str), .list [], .lst (.inl (.inl hD4)) (dp_strs _), .lst (.inl (.inl hq3)) .nil, strs_shaped (fun y hy => ?_), (by decide +kernel), _, rfl, ?_⟩
      · obtain ⟨k, _, rfl⟩ := List.mem_map.mp hy
        exact cut_ok hok
      rw [eqv_nilD]
      cases hL : L.getLast? with
      | none =>
        obtain rfl : L = [] := List.getLast?_eq_none_iff.mp hL
        refine iteF (fin G3 _ _ s3 ?_ rfl rfl)
        rw [eA]
        unfold longD
        rw [eL]
        exact .non
      | some m =>
        obtain ⟨ys, rfl⟩ := List.getLast?_eq_some_iff.mp hL
        have ee : (((ys ++ [m]).map (cutTo w)).map PyData.str).isEmpty = false := by simp
        rw [ee]
        have hat : atI ((ys ++ [m]).map fun k => V.str (cutTo w k)) (-1) = some (V.str (cutTo w m)) := by
          rw [List.map_append]
          exact atI_last _ _
        refine iteT ⟨V.ref D2, rfl, 1, rfl, D2, _, -1, _, rfl, rfl, .inl (.inl hD3), hat, two, fun p np => fin _ _ _ (s3.trans (upd_new np)) ?_ rfl rfl⟩
        rw [eA]
        unfold longD
        rw [eL, hL]
        exact .tup (.inl (.inl upd_same)) (.cons (.str _) (.cons (.str _) .nil))
    have n4 := nm_ne c
    refine fin G _ _ (Same.refl _) ?_ rfl rfl
    have hh : nm = "has" := by
      simp only [five, List.mem_cons, List.mem_nil_iff, or_false] at hn
      rcases hn with z | z | z | z | z
      · exact z
      · exact absurd z n1
      · exact absurd z n2
      · exact absurd z n3
      · exact absurd z n4
    subst hh
    exact .str _
end
end SK
namespace SK
open PySem PySem.Spec PyProof.Rows L2 LamX NdefX
open K0 (De DeAll XCl spX withX)
/-! ### how a call is met -/
def TTmet (K : PySem.W.Frag) (C : Addr) : (XK → Hp → VK → Prop) → Hp → VK → Prop := fun tl H Q =>
  tl (fun cls d H' => ∃ (dx : Addr) (v : V) (dd : PyData), cls = .ref C ∧ d = some dx ∧ H' dx = some (.xd [("name", v)]) ∧ De K H' v dd ∧ dd.showable = true ∧ dd.depth ≤ 8 ∧ dd.shown.length ≤ sizeLine ∧
    ∀ p, H' p = none → Q (.ref p) (upd H' p (.tup [.str "wish", .str dd.shown, .bl true]))) H (fun _ H' => ([] : List V).length ≤ sizeLine ∧ ∀ p, H' p = none → Q (.ref p) (upd H' p (.tup [])))
/-- what is raised comes with as many slots as there are names -/
theorem takes_len {X : Cx} {W : WX} (tk : Takes X W) : Takes X (fun cls d σ H => σ.length = X.N.length → W cls d σ H) := fun e s x => by
  obtain ⟨a, B, sI, pins, σ', H', cls, d, e1, I, nb, up, sky, na, os, ag, w⟩ := x
  exact tk e s ⟨a, B, sI, pins, σ', H', cls, d, e1, I, nb, up, sky, na, os, ag, w I.len⟩
theorem scMet : FnScope ["call", "e"] ["call"] (defScope (top 16)) := ⟨rfl, rfl, rfl, by decide +kernel, rfl, by decide +kernel, by decide +kernel⟩
theorem met_gives {X : Cx} {g C tE : Addr} {cdg : Value} {q : Str} (D : XR X.prog X.w X.K X.mg X.base "BadWish" C ["name"]) (gTE : X.mg "TreesError" = some (.ref tE)) (kit : PySem.W.kitOne X.K (.ref C) (.ref tE) = some true)
    (exm : PySem.W.exmOne X.K (.ref C) (.ref C) = some true) (gR : X.mg "repr" = none) (gI : X.mg "isinstance" = none) (hsys : ∃ o, X.K.lookup sysModules = some o) (hg : X.A.guards = some []) (hr : Room 2 X.A) :
    GivesTo X ["call", "e"] "_law_met" (defScope (top 16)) g cdg (defBody (top 16)) "call" q (TTmet X.K C) := by
  intro f c' s H Q tl act hc h
  have hr2 : Room 1 (X.A.deeper (envOfC "_law_met" (defScope (top 16)) s.heap.objs.size g cdg)) := hr.deeper _
  have hu64 := hr2.units
  have hgd : (X.A.deeper (envOfC "_law_met" (defScope (top 16)) s.heap.objs.size g cdg)).guards = some [] := hg
  refine ⟨_, pss_cons (ps_try_asM (X := (cxOf C8.CX0 X.prog X.w X.K X.mg X.base ["call", "e"] "_law_met" (defScope (top 16)) g cdg X.A X.stack s H C8.E0).nox) (i := 1) (n := "e")
      (tb := fun W D σ H => ∃ Ech : XK, (∀ cls d σ' H', Ech cls d H' → σ'.length = 2 → W cls d σ' H') ∧ σ[0]? = some (some (.ref f)) ∧ H c' = some (CodeO c' q) ∧ tl Ech H fun _ H' => D.nx σ H')
      rfl rfl scMet.nd rfl rfl LamX.takes0 (fun W pn xe tk _ => ?_)
      (HdsAs.cons (c := .ref C) ⟨rfl, by decide, .inl D.gC⟩ (fun a oe cls d pn hz hf => pss_one (ps_ret (pe_tup (pa_cons pe_str (pa_cons (pe_callB (r := rRepD X.K) (call_repD hgd hu64 hsys) (by rfl) gR PyProof.Rows.boot_repr (pa_cons (pe_xf (xf_of D.cl) (D.no _ (by simp)) hz hf (pv 1)) pa_nil))
        (pa_cons (pe_callB (r := rIsD X.K a cls d) (call_isD hz hf) (by rfl) gI PyProof.Rows.boot_isinstance (pa_cons (pv 1) (pa_cons (pe_glob (v := V.ref tE) (by rfl) gTE rfl) pa_nil))) pa_nil)))))) HdsAs.nil))
    (pss_one (ps_ret (pe_tup pa_nil))), ?_⟩
  · refine ⟨fun pins s' σ H' D I h' => ?_⟩
    obtain ⟨Ech, hW, h1, h2, h3⟩ := h'
    exact (pss_one (ps_expr (act _ pn xe Ech _ _ (takes_len tk) hW))).run pins s' σ H' D I ⟨h1, h2, h3⟩
  · refine ⟨_, ?_, rfl, hc, h⟩
    rintro cls d σ' H' ⟨dx, v, dd, rfl, rfl, hdx, hd, h1, h2, h3, kk⟩ hl
    have at1 : ∀ z : Addr, (List.set σ' 1 (some (V.ref z)))[1]? = some (some (V.ref z)) := fun z => by
      rw [List.getElem?_set_self]
      omega
    refine ⟨true, exm, fun _ q nq => ?_, fun z => nomatch z⟩
    refine ⟨V.ref q, at1 q, rfl, rfl, dx, _, v, rfl, hdx, by simp [List.lookup], v, dd, rfl, hd, h1, h2, h3, V.ref q, at1 q, C, dx, _, rfl, rfl, ec_of D.cl, hdx, .ref tE, .ref tE, true, rfl, fun u z => z, kit, (by show 3 ≤ sizeLine; decide), kk⟩
end SK
namespace SK
open PySem PySem.Spec PyProof.Rows L2 LamX NdefX
open K0 (De DeAll XCl spX withX)
/-! ### what the law needs -/
theorem FunT.okG {P : Program} {w : World} {K : PySem.W.Frag} {mg : Str → Option Value} {base : Heap} {x qual : Str} {st : Stmt} {f c : Addr} {fd : FuncData} {N ps : List Str} {k : Nat} {sp : Sp} (F : FunT K x qual st f fd c) (S : FnScope N ps (defScope st)) (len : ∀ vs H Q E, sp vs H Q E → vs.length = ps.length)
    (hbody : ∀ (A : Around) (outer : List Env) (s : Shared) (H : Hp) (vs : List V) (Q : VK) (E : XK), (A.deeper (envOfC qual (defScope st) s.heap.objs.size f (.ref c))).guards = some [] → Room k (A.deeper (envOfC qual (defScope st) s.heap.objs.size f (.ref c))) → sp vs H Q E →
      ∃ t, PSs (cxOf CX0 P w K mg base N qual (defScope st) f (.ref c) A outer s H E).nox (defBody st) t ∧ t { nx := fun _ H' => Q .non H', rt := Q } (start N vs) H) : FnG P w K mg base CX0 (k + 1) f fd ps sp := by
  obtain ⟨oc, od, kV, doc, pm, an, ct, osl, rfl, lk, hcd⟩ := F.ex
  refine ⟨len, fun A outer s H args us vs Q E hg hr e0 hb r hsp => run_ofS lk hcd S hr e0 hb r (len _ _ _ _ hsp) fun hr' => ?_⟩
  obtain ⟨t, h, q⟩ := hbody A outer s H vs Q E hg hr' hsp
  exact ⟨t, h.nox, q⟩
theorem FunT.bindsT {K : PySem.W.Frag} {x qual : Str} {st : Stmt} {f c : Addr} {fd : FuncData} {ps : List Str} (F : FunT K x qual st f fd c)
    (h : ∀ (kV doc pm : Value) (an : Option Addr) (cdv ct : Value) (us : List Value), us.length = ps.length → bindArgs (PySem.W.fnOf x qual (defArgs st) (defBody st) (defScope st) .none kV doc pm an cdv ct) ⟨us, []⟩ = pure (ps.zip us)) : Binds K fd ps [] := by
  obtain ⟨oc, od, kV, doc, pm, an, ct, osl, e, lk, hcd⟩ := F.ex
  exact Fun.binds (f := f) ⟨⟨oc, od, kV, doc, pm, an, .ref c, ct, osl, e, lk, hcd⟩, F.kp⟩ h
theorem Tabs.pen {T : List (Addr × Str)} {H H' : Hp} {p : Addr} {kvs : List (Key × V)} (t : Tabs T H) (hp : H p = some (.dK kvs)) (e : SameBut p H H') : Tabs T H' := fun q hq => by
  obtain ⟨ps, h1, h2, h3⟩ := t q hq
  refine ⟨ps, e _ _ (fun z => by rw [z, hp] at h1; cases h1) h1, h2, fun pos cv hc => ?_⟩
  obtain ⟨c, e1, e2⟩ := h3 pos cv hc
  refine ⟨c, e1, e _ _ (fun z => ?_) e2⟩
  rw [z, hp] at e2
  unfold CodeO at e2
  cases e2
/-- a small text -/
def Good (y : Str) : Prop := y.cps.size ≤ 10 ∧ PyData.strOk y = true
def GoodV (H : Hp) (x : V) : Prop := ∃ y, x = .str y ∧ Good y
theorem good_strs {H : Hp} : ∀ {zs : List V}, (∀ z ∈ zs, GoodV H z) → ∃ ws : List Str, zs = ws.map V.str ∧ ∀ y ∈ ws, Good y
  | [], _ => ⟨[], rfl, fun y h => absurd h (by simp)⟩
  | z :: zs, h => by
    obtain ⟨ws, h1, h2⟩ := good_strs (zs := zs) fun y hy => h y (List.mem_cons_of_mem _ hy)
    obtain ⟨y, e, g⟩ := h z (by simp)
    refine ⟨y :: ws, by rw [h1, e]; rfl, fun u hu => ?_⟩
    rcases List.mem_cons.mp hu with rfl | hu
    · exact g
    · exact h2 u hu
theorem good_shuf {K : PySem.W.Frag} : ShufR K GoodV := ⟨fun h _ _ => h, fun {H zs} h => by
  obtain ⟨ws, rfl, g⟩ := good_strs h
  exact ⟨ws.map PyData.str, dp_strs ws, strs_shaped fun y hy => (g y hy).2, by rw [List.length_map, List.length_map]⟩⟩
theorem cutV_mem {xs : List V} {b : Int} {x : V} (h : x ∈ cutV xs none (some b)) : x ∈ xs := by
  unfold cutV at h
  exact List.mem_of_mem_drop (List.mem_of_mem_take h)
theorem good_cut {y : Str} {b : Int} (h : Good y) : Good (cutS y none (some b)) := by
  obtain ⟨h1, h2⟩ := h
  unfold PyData.strOk at h2
  rw [← Array.all_toList, List.all_eq_true] at h2
  unfold cutS Good PyData.strOk
  refine ⟨?_, ?_⟩
  · rw [List.size_toArray, List.length_take, List.length_drop, Array.length_toList]
    omega
  · rw [← Array.all_toList, List.toList_toArray, List.all_eq_true]
    exact fun c hc => h2 c (List.mem_of_mem_drop (List.mem_of_mem_take hc))
theorem good_of_over {ls y : Str} {n : Int} (ha : ls.cps.all (· < 128) = true) (o : OverL ls y) (hn : (y.cps.size : Int) ≤ n) (h4 : n ≤ 4) : y.cps.size ≤ 4 ∧ PyData.strOk y = true := by
  rw [← Array.all_toList, List.all_eq_true] at ha
  refine ⟨by omega, ?_⟩
  unfold PyData.strOk
  rw [← Array.all_toList, List.all_eq_true]
  intro c hc
  have z := of_decide_eq_true (ha c (o.2 c hc))
  exact decide_eq_true (by omega)
theorem six_facts : ∀ x ∈ six, x.cps.all (· < 128) = true ∧ 2 ≤ x.cps.size ∧ x.cps.size ≤ 26 := by
  intro x hx
  simp only [six, List.mem_cons, List.mem_nil_iff, or_false] at hx
  rcases hx with rfl | rfl | rfl | rfl | rfl | rfl <;> exact ⟨by decide +kernel, by decide +kernel, by decide +kernel⟩
theorem srt_mem {ws : List Str} {y : Str} (h : y ∈ srt ws) : y ∈ ws := (List.mergeSort_perm ws _).mem_iff.mp h
theorem due_shaped {nm : Str} {ws : List Str} {w : Str} (h : ∀ y ∈ ws, PyData.strOk y = true) (hw : PyData.strOk w = true) : SeqAt.shaped (dueD nm ws w) = true := by
  have ha : ∀ y ∈ aft nm ws w, PyData.strOk y = true := fun y hy => by
    unfold aft at hy
    split at hy
    · rcases List.mem_append.mp (srt_mem hy) with hy | hy
      · exact h y (List.mem_filter.mp hy).1
      · obtain rfl : y = w := by simpa using hy
        exact hw
    · split at hy
      · exact h y (List.mem_filter.mp (srt_mem hy)).1
      · exact h y (srt_mem hy)
  obtain ⟨l1, l2⟩ := strs_lay ha
  have yk : ∀ b, PyData.strOk (yn b) = true := fun b => by cases b <;> decide +kernel
  have hA : (ansW nm ws w).canLay0 = true ∧ (ansW nm ws w).depth ≤ 2 := by
    have sk : ∀ b, (PyData.str (yn b)).canLay0 = true ∧ (PyData.str (yn b)).depth ≤ 2 := fun b => ⟨by simp [PyData.canLay0, yk], by simp [PyData.depth]⟩
    unfold ansW
    split
    · exact sk _
    split
    · exact sk _
    split
    · exact sk _
    split
    · exact sk _
    unfold longD
    split
    · exact ⟨by simp [PyData.canLay0], by simp [PyData.depth]⟩
    · rename_i m _
      have e : PyData.strOk (Str.ofString "at") = true := by decide +kernel
      exact ⟨by simp [PyData.canLay0, PyData.canLayAll0, e, cut_ok hw], by simp [PyData.depth, PyData.depthAll]⟩
  unfold SeqAt.shaped dueD
  rw [Bool.and_eq_true, decide_eq_true_eq]
  refine ⟨by simp [PyData.canLay0, PyData.canLayAll0, hA.1, l1], ?_⟩
  simp only [PyData.depth, PyData.depthAll]
  omega
/-! ### odd wishes -/
def odds : List PyData := [.none, .str "", .str "Has", .str "put ", .int 7, .list [], .dict [], .tuple [.str "has"], .bool true, .str "begin"]
theorem odd_facts : ∀ d ∈ odds, d.showable = true ∧ d.depth ≤ 8 ∧ d.shown.length ≤ sizeLine ∧ PyData.strOk d.shown = true := by
  intro d hd
  simp only [odds, List.mem_cons, List.mem_nil_iff, or_false] at hd
  rcases hd with rfl | rfl | rfl | rfl | rfl | rfl | rfl | rfl | rfl | rfl <;> exact ⟨by decide +kernel, by decide +kernel, by decide +kernel, by decide +kernel⟩
theorem odd_of {K : PySem.W.Frag} {H : Hp} {v : V} {d : PyData} (hd : d ∈ odds) (h : De K H v d) : Odd v := by
  simp only [odds, List.mem_cons, List.mem_nil_iff, or_false] at hd
  rcases hd with rfl | rfl | rfl | rfl | rfl | rfl | rfl | rfl | rfl | rfl <;> cases h
  all_goals first | exact .inr ⟨_, rfl⟩ | exact .inl ⟨rfl, by decide +kernel⟩
theorem de_mem {K : PySem.W.Frag} {H : Hp} : ∀ {xs : List V} {ds : List PyData} {v : V}, DeAll K H xs ds → v ∈ xs → ∃ d ∈ ds, De K H v d
  | _, _, v, .nil, h => absurd h (by simp)
  | _, _, v, .cons h1 h2, h => by
    rcases List.mem_cons.mp h with rfl | h
    · exact ⟨_, by simp, h1⟩
    · obtain ⟨d, hd, e⟩ := de_mem h2 h
      exact ⟨d, List.mem_cons_of_mem _ hd, e⟩
end SK
namespace SK
open PySem PySem.Spec PyProof.Rows L2 LamX NdefX
open K0 (De DeAll XCl spX withX)
mutual
theorem de_but {K : PySem.W.Frag} {H H' : Hp} {p : Addr} {kv : Key × V} {kvs : List (Key × V)} (hp : H p = some (.dK (kv :: kvs))) (m : SameBut p H H') : ∀ {d : PyData} {v : V}, De K H v d → De K H' v d
  | _, _, .non => .non
  | _, _, .bl b => .bl b
  | _, _, .int i => .int i
  | _, _, .str x => .str x
  | _, _, .lst ha hd => .lst (m _ _ (ne_of ha hp (by intro z; cases z)) ha) (de_butAll hp m hd)
  | _, _, .tup ha hd => .tup (m _ _ (ne_of ha hp (by intro z; cases z)) ha) (de_butAll hp m hd)
  | _, _, .dic ha => .dic (m _ _ (ne_of ha hp (by intro z; cases z)) ha)
theorem de_butAll {K : PySem.W.Frag} {H H' : Hp} {p : Addr} {kv : Key × V} {kvs : List (Key × V)} (hp : H p = some (.dK (kv :: kvs))) (m : SameBut p H H') : ∀ {ds : List PyData} {vs : List V}, DeAll K H vs ds → DeAll K H' vs ds
  | _, _, .nil => .nil
  | _, _, .cons h1 h2 => .cons (de_but hp m h1) (de_butAll hp m h2)
end
mutual
theorem de_extN {K : PySem.W.Frag} {H H' : Hp} (m : ExtN H H') : ∀ {d : PyData} {v : V}, De K H v d → De K H' v d
  | _, _, .non => .non
  | _, _, .bl b => .bl b
  | _, _, .int i => .int i
  | _, _, .str x => .str x
  | _, _, .lst ha hd => .lst (m _ _ ha fun ps z => nomatch z) (de_extNAll m hd)
  | _, _, .tup ha hd => .tup (m _ _ ha fun ps z => nomatch z) (de_extNAll m hd)
  | _, _, .dic ha => .dic (m _ _ ha fun ps z => nomatch z)
theorem de_extNAll {K : PySem.W.Frag} {H H' : Hp} (m : ExtN H H') : ∀ {ds : List PyData} {vs : List V}, DeAll K H vs ds → DeAll K H' vs ds
  | _, _, .nil => .nil
  | _, _, .cons h1 h2 => .cons (de_extN m h1) (de_extNAll m h2)
end
theorem fls {b : Bool} (h : b = true) {A B : Prop} (k : B) : if (!b) = true then A else B := by
  rw [h]
  exact iteF k
theorem eqv_self {d : PyData} (h : SeqAt.shaped d = true) : PyData.eqv d d = true := SeqAt.eqv_refl d (SeqAt.canLay_of_shaped h)
abbrev NL : List Str := ["script", "pen", "turn", "letters", "words", "near", "word", "name", "before", "odd", "one"]
theorem scLaw : FnScope NL ["script"] (defScope (top 18)) := ⟨rfl, rfl, rfl, by decide +kernel, rfl, by decide +kernel, by decide +kernel⟩
def spLaw (K : PySem.W.Frag) (T : List (Addr × Str)) : Sp := fun vs H Q _ => ∃ (a : Addr) (ns : List Int), vs = [.ref a] ∧ SqL K H a (ns.map V.int) ∧ ns.length ≤ 63 ∧ Tabs T H ∧ ∀ H', Q (.bl true) H'
section
variable {P : Program} {w : World} {K : PySem.W.Frag} {mg : Str → Option Value} {base : Heap} {f c Pt C tE fPen fD fSix fSh fSo fM fU fP fW : Addr} {fd fdPen fdD fdSix fdSh fdSo fdM fdU fdP fdW fdWT : FuncData} {T : List (Addr × Str)}
theorem ok_law (F : FunT K "law" "law" (top 18) f fd c) (TB : TabB base mg c Pt) (hmT : (Pt, ("law" : Str) ++ ".<locals>." ++ "<lambda>") ∈ T) (hu : ∀ p ∈ T, p.1 = Pt → p.2 = ("law" : Str) ++ ".<locals>." ++ "<lambda>")
    (gRg : mg "range" = none) (gLs : mg "list" = none) (gTu : mg "tuple" = none) (gRp : mg "repr" = none) (gIs : mg "isinstance" = none) (hsys : ∃ o, K.lookup sysModules = some o)
    (DX : XR P w K mg base "BadWish" C ["name"]) (gTE : mg "TreesError" = some (.ref tE)) (kit : PySem.W.kitOne K (.ref C) (.ref tE) = some true) (exm : PySem.W.exmOne K (.ref C) (.ref C) = some true)
    (gPen : mg "_law_pen_of" = some (.ref fPen)) (kPen : PySem.W.keepIn K (.ref fPen) = true) (GPen : FnOk P w K mg base CX0 1 fPen fdPen ["script"] (spPen K)) (bPen : Binds K fdPen ["script"] [])
    (gD : mg "_law_draw" = some (.ref fD)) (kD : PySem.W.keepIn K (.ref fD) = true) (GD : FnOk P w K mg base CX0 1 fD fdD ["pen", "many"] spDraw) (bD : Binds K fdD ["pen", "many"] [])
    (gP : mg "_law_pick" = some (.ref fP)) (kP : PySem.W.keepIn K (.ref fP) = true) (GP : FnOk P w K mg base CX0 2 fP fdP ["pen", "items"] spPick) (bP : Binds K fdP ["pen", "items"] [])
    (gSix : mg "_law_letters_of" = some (.ref fSix)) (kSix : PySem.W.keepIn K (.ref fSix) = true) (GSix : FnOk P w K mg base CX0 3 fSix fdSix ["pen"] spSix) (bSix : Binds K fdSix ["pen"] [])
    (gSh : mg "_law_shuffled" = some (.ref fSh)) (kSh : PySem.W.keepIn K (.ref fSh) = true) (GSh : FnOk P w K mg base CX0 2 fSh fdSh ["pen", "items"] (spShufG K GoodV)) (bSh : Binds K fdSh ["pen", "items"] [])
    (gSo : mg "_law_some_words" = some (.ref fSo)) (kSo : PySem.W.keepIn K (.ref fSo) = true) (GSo : FnOk P w K mg base CX0 3 fSo fdSo ["pen", "letters", "many", "longest"] spSomeG) (bSo : Binds K fdSo ["pen", "letters", "many", "longest"] [])
    (gM : mg "_law_met" = some (.ref fM)) (FM : Fun K "_law_met" "_law_met" (top 16) fM fdM) (bM : Binds K fdM ["call"] [])
    (gU : mg "_law_due" = some (.ref fU)) (kU : PySem.W.keepIn K (.ref fU) = true) (GU : FnOk P w K mg base CX0 1 fU fdU ["name", "words", "word"] (spDueL K)) (bU : Binds K fdU ["name", "words", "word"] [])
    (gW : mg "wanted" = some (.ref fW)) (kW : PySem.W.keepIn K (.ref fW) = true) (GW : FnOk P w K mg base (L2.CX P w) 4 fW fdW ["name", "words", "word"] (spWantL K C)) (GWT : FnOk P w K mg base (L2.CX P w) 4 fW fdW ["name", "words", "word"] (spWantT K C)) (bW : Binds K fdW ["name", "words", "word"] []) :
    FnG P w K mg base CX0 7 f fd ["script"] (spLaw K T) := by
  obtain ⟨ocM, odM, kVM, docM, pmM, anM, cdvM, ctM, oslM, rfl, lkM, hcdM⟩ := FM.ex
  refine FunT.okG F scLaw (fun vs H Q E h => ?_) (fun A outer s H vs Q E hg hr h => ?_)
  · obtain ⟨a, ns, rfl, _⟩ := h
    rfl
  · obtain ⟨a, ns, rfl, hS, hn, hT, kk⟩ := h
    have hu64 := hr.units
    have nd := scLaw.nd
    have hr1 : Room 1 _ := hr.mono (by decide)
    have hr2 : Room 2 _ := hr.mono (by decide)
    have hr3 : Room 3 _ := hr.mono (by decide)
    have hr4 : Room 4 _ := hr.mono (by decide)
    refine ⟨_, pss_cons (ps_set (i := 1) nd rfl (Or.inr rfl) (pe_call GPen hr1 (by rfl) gPen kPen bPen .nil pass0 (pa_cons (pv 0) pa_nil)))
      (pss_cons (ps_for PassesOwn.never rfl (pi_range1 (by rfl) gRg (pa_cons pe_int pa_nil)) (pg_name (i := 2) nd rfl (Or.inl rfl))
        (pss_cons (ps_set (i := 3) nd rfl (Or.inr rfl) (pe_call GSix hr3 (by rfl) gSix kSix bSix .nil pass0 (pa_cons (pv 1) pa_nil)))
        (pss_cons (ps_set (i := 4) nd rfl (Or.inr rfl) (pe_call GSh hr2 (by rfl) gSh kSh bSh .nil pass0 (pa_cons (pv 1) (pa_cons (pe_call GSo hr3 (by rfl) gSo kSo bSo .nil pass0 (pa_cons (pv 1) (pa_cons (pv 3) (pa_cons pe_int (pa_cons pe_int pa_nil))))) pa_nil))))
        (pss_cons (ps_set (i := 5) nd rfl (Or.inl rfl) (pe_op op_cat
            (pe_lc (own := [("one", 10)]) (g := gName 10) (tt := tYes) rfl nd (pi_list (pv 4)) (blkOk_by (N := NL) (sc := defScope (top 18)) (by decide +kernel)) (fun _ _ _ _ _ => pg_name (i := 10) nd rfl (Or.inl rfl)) (fun _ _ _ _ _ => pts_nil)
              (fun _ _ _ _ _ => pe_slice sl_str (pv 10) po_none (po_some (pe_call GD hr1 (by rfl) gD kD bD .nil pass0 (pa_cons (pv 1) (pa_cons pe_int pa_nil))))))
            (pe_lc (own := [("one", 10)]) (g := gName 10) (tt := tYes) rfl nd (pi_list (pv 4)) (blkOk_by (N := NL) (sc := defScope (top 18)) (by decide +kernel)) (fun _ _ _ _ _ => pg_name (i := 10) nd rfl (Or.inl rfl)) (fun _ _ _ _ _ => pts_nil)
              (fun _ _ _ _ _ => pe_op op_add_str (pv 10) (pe_ix ix_str (pv 3) pe_int (fun _ _ => rfl))))))
        (pss_cons (ps_for PassesOwn.never rfl (pi_list (pe_slice sl_list (pe_call GSh hr2 (by rfl) gSh kSh bSh .nil pass0 (pa_cons (pv 1) (pa_cons (pe_op op_cat (pe_op op_cat (pv 4) (pv 5)) (pe_lst (pa_cons pe_str (pa_cons (pe_ix ix_str (pv 3) pe_int (fun _ _ => rfl)) pa_nil)))) pa_nil))) po_none (po_some pe_int))) (pg_name (i := 6) nd rfl (Or.inl rfl))
          (pss_one (ps_for PassesOwn.never rfl (pi_list (pe_lst (pa_cons pe_str (pa_cons pe_str (pa_cons pe_str (pa_cons pe_str (pa_cons pe_str pa_nil))))))) (pg_name (i := 7) nd rfl (Or.inl rfl))
            (pss_cons (ps_set (i := 8) nd rfl (Or.inl rfl) (pe_callTy call_list_of (by rfl) gLs PyProof.Rows.boot_list (pa_cons (pv 4) pa_nil)))
            (pss_cons (ps_if ((pw_or (pt_cmpR (op_neD hu64) (pe_call GW hr4 (by rfl) gW kW bW .nil (passes_call LamX.takes0 (fun _ _ _ _ h => h)) (pa_cons (pv 7) (pa_cons (pv 4) (pa_cons (pv 6) pa_nil)))) (pe_call GU hr1 (by rfl) gU kU bU .nil pass0 (pa_cons (pv 7) (pa_cons (pv 4) (pa_cons (pv 6) pa_nil)))) (nomark _)) (pw_or1 (pt_cmpR (op_neD hu64) (pv 4) (pv 8) (nomark _)))).pt) (pss_one (ps_ret pe_bl)) pss_nil)
            (pss_one (ps_if (pt_cmpR (op_neD hu64) (pe_call GWT hr4 (by rfl) gW kW bW .nil (passes_call LamX.takes0 (fun _ _ _ _ h => h)) (pa_cons (pv 7) (pa_cons (pe_callTy call_tuple_of (by rfl) gTu PyProof.Rows.boot_tuple (pa_cons (pv 4) pa_nil)) (pa_cons (pv 6) pa_nil)))) (pe_call GU hr1 (by rfl) gU kU bU .nil pass0 (pa_cons (pv 7) (pa_cons (pv 4) (pa_cons (pv 6) pa_nil)))) (nomark _)) (pss_one (ps_ret pe_bl)) pss_nil)))))))
        (pss_cons (ps_set (i := 9) nd rfl (Or.inr rfl) (pe_call GP hr2 (by rfl) gP kP bP .nil pass0 (pa_cons (pv 1) (pa_cons (pe_lst (pa_cons pe_non (pa_cons pe_str (pa_cons pe_str (pa_cons pe_str (pa_cons pe_int (pa_cons (pe_lst pa_nil) (pa_cons pe_dnewK (pa_cons (pe_tup (pa_cons pe_str pa_nil)) (pa_cons pe_bl (pa_cons pe_str pa_nil))))))))))) pa_nil))))
        (pss_one (ps_if (pt_cmpR (op_neD hu64)
            (pe_lamcall (T := T) (a := "call") (Ng := ["call", "e"]) (k := 4) (t := fun E => tCall (spWantL K C) [] E (tCons (tVar 9) (tCons (tVar 4) (tCons (tC (.str "")) tNil)))) (by rfl) gM FM.kp lkM hcdM bM scMet rfl (.inl rfl) (met_gives DX gTE kit exm gRp gIs hsys hg hr2) TB rfl hmT hu hr (lamS_by (show lamSB (defScope (top 18)) _ = true by decide +kernel)) rfl (fun _ _ _ _ _ => rfl)
              (fun A outer s H E f c' hrk => pe_call GW hrk (by rfl) gW kW bW .nil (passes_call (takes_of rfl rfl rfl rfl) (fun _ _ _ _ h => h)) (pa_cons (pv 9) (pa_cons (pv 4) (pa_cons pe_str pa_nil)))))
            (pe_tup (pa_cons pe_str (pa_cons (pe_callB (r := rRepD K) (call_repD hg hu64 hsys) (by rfl) gRp PyProof.Rows.boot_repr (pa_cons (pv 9) pa_nil)) (pa_cons pe_bl pa_nil)))) (nomark _)) (pss_one (ps_ret pe_bl)) pss_nil))))))))
      (pss_one (ps_ret pe_bl))), ?_⟩
    have hTm := hmT
    refine ⟨V.ref a, rfl, a, ns, rfl, hS, hn, fun H1 p l s1 P1 => ?_⟩
    have T1 := hT.ext s1
    refine ⟨6, rfl, by decide, by decide, for_it walk_range (fun i σ G => ∃ (x2 x3 x4 x5 x6 x7 x8 x9 : Option V) (k1 lf1 : Int), σ = [some (.ref a), some (.ref p), x2, x3, x4, x5, x6, x7, x8, x9, none] ∧ k1 ≤ 3000 * i ∧ 0 ≤ k1 ∧ 0 ≤ lf1 ∧ PenAt G p l ns k1 lf1 ∧ Tabs T G)
      ⟨none, none, none, none, none, none, none, none, 0, 0, rfl, by omega, Int.le_refl _, Int.le_refl _, P1, T1⟩ (fun _ _ _ _ _ => trivial) ?_ ?_⟩
    case refine_2 => exact fun σ G _ => kk G
    rintro i x σ G G2 hi ⟨x2, x3, x4, x5, x6, x7, x8, x9, k1, lf1, rfl, f1, f2, f3, PG, TG⟩ ⟨rfl, rfl⟩
    have hi' : i < 6 := hi
    refine ⟨V.ref p, rfl, p, l, ns, k1, lf1, rfl, PG, hn, f2, by omega, f3, fun G3 k3 lf3 ls g1 g2 g3 hls s3 P3 => ?_⟩
    obtain ⟨hA, hl2, hl26⟩ := six_facts ls hls
    have T3 := Tabs.pen TG PG.dc s3
    refine ⟨V.ref p, rfl, V.ref p, rfl, V.str ls, rfl, p, l, ns, k3, lf3, ls, 8, 4, rfl, by decide, by decide, by decide, by decide, P3, hn, g2, by omega, g3, by omega, hl26, fun G4 k4 lf4 b ws h1 h2 h3 hW hwl s4 P4 hb nb => ⟨p, l, b, ns, k4, lf4, ws.map V.str, rfl, P4, hn, h2, by omega, h3, .inl (.inl hb), by rw [List.length_map]; omega, fun x hx => ?_, fun G5 k5 lf5 c0 ys j1 j2 j3 hperm s5 P5 hc nc => ?_⟩⟩
    · obtain ⟨y, hy, rfl⟩ := List.mem_map.mp hx
      obtain ⟨o1, o2⟩ := hW y hy
      obtain ⟨o3, o4⟩ := good_of_over hA o1 o2 (by decide)
      exact ⟨y, rfl, by omega, o4⟩
    have T5 := Tabs.pen (Tabs.pen T3 P3.dc s4) P4.dc s5
    -- the words
    obtain ⟨vs, rfl, hv⟩ : ∃ vs : List Str, ys = vs.map V.str ∧ ∀ y ∈ vs, y.cps.size ≤ 4 ∧ PyData.strOk y = true := by
      obtain ⟨vs, e, _⟩ := good_strs (H := G5) (zs := ys) fun z hz => by
        obtain ⟨y, hy, rfl⟩ := List.mem_map.mp (hperm.subset hz)
        obtain ⟨o1, o2⟩ := hW y hy
        obtain ⟨o3, o4⟩ := good_of_over hA o1 o2 (by decide)
        exact ⟨y, rfl, by omega, o4⟩
      refine ⟨vs, e, fun y hy => ?_⟩
      have z : V.str y ∈ ws.map V.str := hperm.subset (by rw [e]; exact List.mem_map.mpr ⟨y, hy, rfl⟩)
      obtain ⟨y', hy', e'⟩ := List.mem_map.mp z
      injection e' with e'
      subst e'
      exact good_of_over hA (hW y' hy').1 (hW y' hy').2 (by decide)
    have hvl : vs.length ≤ 8 := by
      have z := hperm.length_eq
      rw [List.length_map, List.length_map] at z
      omega
    have ncp : c0 ≠ p := ne_of hc P5.dc (by intro z; cases z)
    have j1 : k5 ≤ k4 + (ws.length : Int) := by
      rw [List.length_map] at j1
      exact j1
    have b100 : (1000 : Nat) < sizeLine := by decide
    refine ⟨V.ref c0, rfl, c0, rfl, ⟨_, .inl (.inl hc)⟩, fun D nD => lc_list (K := K) (a := c0) (xs := vs.map V.str) (fun i G6 => ∃ (k6 lf6 : Int) (zs : List Str), k6 ≤ k5 + i ∧ 0 ≤ k6 ∧ 0 ≤ lf6 ∧ PenAt G6 p l ns k6 lf6 ∧ SameBut p G5 G6 ∧ G6 D = some (.lst (zs.map V.str)) ∧ zs.length = i ∧ ∀ z ∈ zs, Good z)
      ⟨k5, lf5, [], by omega, j2, j3, ⟨upd_new nD _ _ P5.dc, upd_new nD _ _ P5.ls⟩, .of (upd_new nD), upd_same, rfl, fun z hz => absurd hz (by simp)⟩ (fun i G6 _ q => ?_) ?_ ?_⟩
    · obtain ⟨k6, lf6, zs, _, _, _, _, s6, _⟩ := q
      exact .inl (.inl (s6 _ _ ncp hc))
    · rintro j y G6 hy ⟨k6, lf6, zs, m1, m2, m3, P6, s6, hD, hzl, hZ⟩
      obtain ⟨u, hu', rfl⟩ := map_at hy
      have hjl : j < vs.length := (List.getElem?_eq_some_iff.mp hu').1
      obtain ⟨v1, v2⟩ := hv u (List.mem_of_getElem? hu')
      have nDp : D ≠ p := ne_of hD P6.dc (by intro z; cases z)
      refine ⟨rfl, V.str u, rfl, V.ref p, rfl, p, l, ns, k6, lf6, 5, rfl, P6, hn, m2, by omega, m3, by decide, by decide, fun G7 k7 lf7 d n1 n2 n3 n4 n5 s7 P7 => ?_⟩
      refine ⟨d, rfl, u, rfl, Nat.le_of_lt (small_line (by rw [same_len]; omega)), zs.map V.str, s7 _ _ nDp hD, by rw [List.length_map]; omega, k7, lf7, zs ++ [cutS u none (some d)], by omega, n2, n3, ⟨?_, ?_⟩, fun q o hq e => ?_, ?_, by rw [List.length_append, hzl]; rfl, fun z hz => ?_⟩
      · rw [upd_ne (Ne.symm nDp)]
        exact P7.dc
      · rw [upd_ne (ne_of_none P5.ls nD)]
        exact P7.ls
      · rw [upd_ne (ne_of_none e nD)]
        exact s7 _ _ hq (s6 _ _ hq e)
      · rw [List.map_append]
        exact upd_same
      · rcases List.mem_append.mp hz with hz | hz
        · exact hZ z hz
        · obtain rfl : z = cutS u none (some d) := by simpa using hz
          exact good_cut ⟨by omega, v2⟩
    rintro G6 ⟨k6, lf6, zs, m1, m2, m3, P6, s6, hD, hzl, hZ⟩
    have hzl : zs.length = vs.length := by rw [hzl, List.length_map]
    have m1 : k6 ≤ k5 + (vs.length : Int) := by rw [List.length_map] at m1; exact m1
    have hc6 := s6 _ _ ncp hc
    have T6 := Tabs.pen T5 P5.dc s6
    obtain ⟨ch0, hch0⟩ : ∃ ch, ls.cps.toList[0]? = some ch := ⟨_, List.getElem?_eq_getElem (by rw [Array.length_toList]; omega)⟩
    obtain ⟨ch1, hch1⟩ : ∃ ch, ls.cps.toList[1]? = some ch := ⟨_, List.getElem?_eq_getElem (by rw [Array.length_toList]; omega)⟩
    have small1 : ∀ {k : Nat} {ch : Nat}, ls.cps.toList[k]? = some ch → ch < 128 := fun {k ch} h => by
      rw [← Array.all_toList, List.all_eq_true] at hA
      exact of_decide_eq_true (hA ch (List.mem_of_getElem? h))
    have hlz : ls.length ≤ sizeLine := Nat.le_of_lt (small_line (by rw [same_len]; omega))
    refine ⟨V.ref c0, rfl, c0, rfl, ⟨_, .inl (.inl hc6)⟩, fun D2 nD2 => lcF_list (K := K) V.str nD2 (fun y => V.str (y ++ ⟨#[ch0]⟩)) (fun _ => true) (.inl (.inl hc6)) (by omega) (fun j y G7 hy s7 A B kA kB => ?_) fun G7 s7 hD2 => ?_⟩
    · refine ⟨rfl, V.str y, rfl, V.str ls, rfl, ls, 0, ch0, rfl, rfl, hlz, atI_nat (j := 0) hch0, y, ⟨#[ch0]⟩, rfl, rfl, ?_, kA rfl⟩
      have z := (hv y (List.mem_of_getElem? hy)).1
      exact Nat.le_of_lt (small_line (by show y.cps.size + 1 ≤ 5000; omega))
    have ef : vs.filter (fun _ => true) = vs := List.filter_eq_self.mpr fun _ _ => rfl
    rw [ef] at hD2
    have eb : vs.map (fun y => V.str (y ++ ⟨#[ch0]⟩)) = (vs.map fun y => (y ++ ⟨#[ch0]⟩ : Str)).map V.str := by
      rw [List.map_map]
      rfl
    rw [eb] at hD2
    have hg2 : ∀ y ∈ vs.map fun y => (y ++ ⟨#[ch0]⟩ : Str), Good y := fun y hy => by
      obtain ⟨u, hu', rfl⟩ := List.mem_map.mp hy
      obtain ⟨v1, v2⟩ := hv u hu'
      refine ⟨?_, ?_⟩
      · show (u.cps ++ #[ch0]).size ≤ 10
        rw [Array.size_append]
        show u.cps.size + 1 ≤ 10
        omega
      · unfold PyData.strOk at v2 ⊢
        rw [← Array.all_toList, List.all_eq_true] at v2 ⊢
        intro z hz
        have hz : z ∈ (u.cps ++ #[ch0]).toList := hz
        rw [Array.toList_append] at hz
        rcases List.mem_append.mp hz with hz | hz
        · exact v2 z hz
        · obtain rfl : z = ch0 := by simpa using hz
          have q := small1 hch0
          exact decide_eq_true (by omega)
    generalize hus : (vs.map fun y => (y ++ ⟨#[ch0]⟩ : Str)) = us at hD2 hg2
    have hul : us.length = vs.length := by rw [← hus, List.length_map]
    have hD7 := s7 _ _ hD
    have hc7 := s7 _ _ hc6
    refine ⟨D, D2, zs.map V.str, us.map V.str, rfl, rfl, hD7, hD2, by rw [List.length_map, List.length_map]; omega, fun q nq => ?_⟩
    have s8 := s7.trans (upd_new (o := .lst (zs.map V.str ++ us.map V.str)) nq)
    have hq8 : upd G7 q (.lst (zs.map V.str ++ us.map V.str)) q = some (.lst (zs.map V.str ++ us.map V.str)) := upd_same
    generalize upd G7 q (.lst (zs.map V.str ++ us.map V.str)) = G8 at s8 hq8
    have hc8 := s8 _ _ hc6
    have P8 : PenAt G8 p l ns k6 lf6 := ⟨s8 _ _ P6.dc, s8 _ _ P6.ls⟩
    have T8 := T6.ext s8
    refine ⟨V.ref p, rfl, V.ref c0, rfl, V.ref q, rfl, c0, q, vs.map V.str, zs.map V.str ++ us.map V.str, rfl, rfl, hc8, hq8, by rw [List.length_append, List.length_map, List.length_map, List.length_map]; omega, fun r nr => ?_⟩
    have s9 := upd_new (o := .lst (vs.map V.str ++ (zs.map V.str ++ us.map V.str))) nr
    have hr9 : upd G8 r (.lst (vs.map V.str ++ (zs.map V.str ++ us.map V.str))) r = some (.lst (vs.map V.str ++ (zs.map V.str ++ us.map V.str))) := upd_same
    generalize upd G8 r (.lst (vs.map V.str ++ (zs.map V.str ++ us.map V.str))) = G9 at s9 hr9
    refine ⟨V.str ls, rfl, ls, 1, ch1, rfl, rfl, hlz, atI_nat (j := 1) hch1, (by show 2 ≤ sizeLine; decide), fun u nu => ?_⟩
    have s10 := s9.trans (upd_new (o := .lst [V.str "", V.str ⟨#[ch1]⟩]) nu)
    have hr10 := upd_new (o := .lst [V.str "", V.str ⟨#[ch1]⟩]) nu _ _ hr9
    have hu10 : upd G9 u (.lst [V.str "", V.str ⟨#[ch1]⟩]) u = some (.lst [V.str "", V.str ⟨#[ch1]⟩]) := upd_same
    generalize upd G9 u (.lst [V.str "", V.str ⟨#[ch1]⟩]) = G10 at s10 hr10 hu10
    refine ⟨r, u, vs.map V.str ++ (zs.map V.str ++ us.map V.str), [V.str "", V.str ⟨#[ch1]⟩], rfl, rfl, hr10, hu10, by rw [List.length_append, List.length_append, List.length_map, List.length_map, List.length_map]; show _ + 2 ≤ _; omega, fun v nv => ?_⟩
    have s11 := s10.trans (upd_new (o := .lst (vs.map V.str ++ (zs.map V.str ++ us.map V.str) ++ [V.str "", V.str ⟨#[ch1]⟩])) nv)
    have hv11 : upd G10 v (.lst (vs.map V.str ++ (zs.map V.str ++ us.map V.str) ++ [V.str "", V.str ⟨#[ch1]⟩])) v = some (.lst (vs.map V.str ++ (zs.map V.str ++ us.map V.str) ++ [V.str "", V.str ⟨#[ch1]⟩])) := upd_same
    generalize upd G10 v (.lst (vs.map V.str ++ (zs.map V.str ++ us.map V.str) ++ [V.str "", V.str ⟨#[ch1]⟩])) = G11 at s11 hv11
    have P11 : PenAt G11 p l ns k6 lf6 := ⟨s11 _ _ P8.dc, s11 _ _ P8.ls⟩
    refine ⟨p, l, v, ns, k6, lf6, _, rfl, P11, hn, m2, by omega, m3, .inl (.inl hv11), ?_, ?_, fun G12 k12 lf12 e0 ys j4 j5 j6 hperm2 s12 P12 he ne0 => ?_⟩
    · rw [List.length_append, List.length_append, List.length_append, List.length_map, List.length_map, List.length_map]
      show _ + 2 ≤ 900
      omega
    · intro x hx
      have out : ∀ {ts : List Str}, (∀ y ∈ ts, Good y) → x ∈ ts.map V.str → GoodV G11 x := fun {ts} h hx => by
        obtain ⟨y, hy, rfl⟩ := List.mem_map.mp hx
        exact ⟨y, rfl, h y hy⟩
      rcases List.mem_append.mp hx with hx | hx
      · rcases List.mem_append.mp hx with hx | hx
        · exact out (fun y hy => ⟨by have z := (hv y hy).1; omega, (hv y hy).2⟩) hx
        · rcases List.mem_append.mp hx with hx | hx
          · exact out hZ hx
          · exact out hg2 hx
      · rcases List.mem_cons.mp hx with rfl | hx
        · exact ⟨"", rfl, by decide +kernel, by decide +kernel⟩
        · obtain rfl : x = V.str ⟨#[ch1]⟩ := by simpa using hx
          refine ⟨⟨#[ch1]⟩, rfl, by show 1 ≤ 10; decide, ?_⟩
          have q := small1 hch1
          show (#[ch1] : Array Nat).all (· < 0x110000) = true
          simp
          omega
    have hys : ∃ ts : List Str, ys = ts.map V.str ∧ ∀ y ∈ ts, Good y := good_strs (H := G12) (zs := ys) fun z hz => by
      have hx := hperm2.subset hz
      have out : ∀ {ts : List Str}, (∀ y ∈ ts, Good y) → z ∈ ts.map V.str → GoodV G12 z := fun {ts} h hx => by
        obtain ⟨y, hy, rfl⟩ := List.mem_map.mp hx
        exact ⟨y, rfl, h y hy⟩
      rcases List.mem_append.mp hx with hx | hx
      · rcases List.mem_append.mp hx with hx | hx
        · exact out (fun y hy => ⟨by have z := (hv y hy).1; omega, (hv y hy).2⟩) hx
        · rcases List.mem_append.mp hx with hx | hx
          · exact out hZ hx
          · exact out hg2 hx
      · rcases List.mem_cons.mp hx with rfl | hx
        · exact ⟨"", rfl, by decide +kernel, by decide +kernel⟩
        · obtain rfl : z = V.str ⟨#[ch1]⟩ := by simpa using hx
          refine ⟨⟨#[ch1]⟩, rfl, by show 1 ≤ 10; decide, ?_⟩
          have q := small1 hch1
          show (#[ch1] : Array Nat).all (· < 0x110000) = true
          simp
          omega
    obtain ⟨ts, rfl, hts⟩ := hys
    have j4 : k12 ≤ k6 + 30 := by
      rw [List.length_append, List.length_append, List.length_append, List.length_map, List.length_map, List.length_map] at j4
      have z : ([V.str "", V.str ⟨#[ch1]⟩] : List V).length = 2 := rfl
      omega
    have hc12 := s12 _ _ ncp (s11 _ _ hc8)
    have T12 := Tabs.pen (T8.ext s11) P11.dc s12
    -- the words that are asked
    refine ⟨6, rfl, e0, ts.map V.str, rfl, .inl (.inl he), fun z0 nz => ?_⟩
    have s13 := upd_new (o := .lst (cutV (ts.map V.str) none (some 6))) nz
    have hz13 : upd G12 z0 (.lst (cutV (ts.map V.str) none (some 6))) z0 = some (.lst (cutV (ts.map V.str) none (some 6))) := upd_same
    have hmem : ∀ x ∈ cutV (ts.map V.str) none (some 6), ∃ y, x = V.str y ∧ Good y := fun x hx => by
      obtain ⟨y, hy, rfl⟩ := List.mem_map.mp (cutV_mem hx)
      exact ⟨y, rfl, hts y hy⟩
    generalize upd G12 z0 (.lst (cutV (ts.map V.str) none (some 6))) = G13 at s13 hz13
    generalize cutV (ts.map V.str) none (some 6) = qs at hz13 hmem
    have hc13 := s13 _ _ hc12
    have P13 : PenAt G13 p l ns k12 lf12 := ⟨s13 _ _ P12.dc, s13 _ _ P12.ls⟩
    have T13 := T12.ext s13
    have hvok : ∀ y ∈ vs, PyData.strOk y = true := fun y hy => (hv y hy).2
    have hvsz : ∀ y ∈ vs, y.cps.size ≤ 1000 := fun y hy => by have z := (hv y hy).1; omega
    refine ⟨z0, rfl, ⟨_, .inl (.inl hz13)⟩, for_it (walk_list (K := K) (xs := qs)) (fun j σ G => ∃ (x6 x7 x8 : Option V), σ = [some (.ref a), some (.ref p), some (.int (0 + i)), some (.str ls), some (.ref c0), some (.ref q), x6, x7, x8, x9, none] ∧ Same G13 G)
      ⟨_, _, _, rfl, Same.refl _⟩ (fun j σ G _ h => ?_) ?_ ?_⟩
    · obtain ⟨_, _, _, _, sG⟩ := h
      exact .inl (.inl (sG _ _ hz13))
    · rintro j x σ G G' hj ⟨x6, x7, x8, rfl, sG⟩ ⟨rfl, hx⟩
      obtain ⟨y, rfl, hy1, hy2⟩ := hmem x (List.mem_of_getElem? hx)
      refine ⟨(by show 5 ≤ sizeLine; decide), fun m0 nm => ?_⟩
      have s14 := sG.trans (upd_new (o := .lst [V.str "has", V.str "put", V.str "strike", V.str "begins", V.str "longest"]) nm)
      have hm14 : upd G' m0 (.lst [V.str "has", V.str "put", V.str "strike", V.str "begins", V.str "longest"]) m0 = some (.lst (five.map V.str)) := upd_same
      generalize upd G' m0 (.lst [V.str "has", V.str "put", V.str "strike", V.str "begins", V.str "longest"]) = G14 at s14 hm14
      refine ⟨m0, rfl, ⟨_, .inl (.inl hm14)⟩, for_it (walk_list (K := K) (xs := five.map V.str)) (fun j σ G => ∃ (x7 x8 : Option V), σ = [some (.ref a), some (.ref p), some (.int (0 + i)), some (.str ls), some (.ref c0), some (.ref q), some (.str y), x7, x8, x9, none] ∧ Same G14 G)
        ⟨_, _, rfl, Same.refl _⟩ (fun j σ G _ h => ?_) ?_ ?_⟩
      · obtain ⟨_, _, _, sG⟩ := h
        exact .inl (.inl (sG _ _ hm14))
      · rintro j2 x2 σ2 G15 G16 hj2 ⟨x7, x8, rfl, sG2⟩ ⟨rfl, hx2⟩
        obtain ⟨nm5, hnm, rfl⟩ := map_at hx2
        have hn5 : nm5 ∈ five := List.mem_of_getElem? hnm
        have hc16 := sG2 _ _ (s14 _ _ hc13)
        have len900 : vs.length ≤ 900 := by omega
        have y1000 : y.cps.size ≤ 1000 := by omega
        refine ⟨V.ref c0, rfl, c0, vs.map V.str, rfl, .inl (.inl (.inl hc16)), fun n0 nn => ?_⟩
        have s17 := upd_new (o := .lst (vs.map V.str)) nn
        have hn17 : upd G16 n0 (.lst (vs.map V.str)) n0 = some (.lst (vs.map V.str)) := upd_same
        generalize upd G16 n0 (.lst (vs.map V.str)) = G17 at s17 hn17
        have hc17 := s17 _ _ hc16
        have ds := due_shaped (nm := nm5) hvok hy2
        refine ⟨V.str nm5, rfl, V.ref c0, rfl, V.str y, rfl, V.str nm5, .str nm5, c0, vs, y, rfl, .str _, .inl (.inl hc17), len900, y1000, hvsz, .inl ⟨nm5, hn5, rfl, fun G18 u18 s18 d18 => ?_⟩⟩
        refine ⟨V.str nm5, rfl, V.ref c0, rfl, V.str y, rfl, nm5, c0, vs, y, rfl, hn5, .inl (.inl (s18 _ _ hc17)), len900, y1000, hvsz, hy2, fun G19 u19 s19 d19 => ?_⟩
        refine ⟨_, _, dp_same s19 d18, d19, ds, ds, _, rfl, fls (eqv_self ds) ?_⟩
        have hc19 := s19 _ _ (s18 _ _ hc17)
        have hn19 := s19 _ _ (s18 _ _ hn17)
        have dv : Dp K G19 (.ref c0) (.list (vs.map PyData.str)) := .lst (.inl (.inl hc19)) (dp_strs _)
        have dv2 : Dp K G19 (.ref n0) (.list (vs.map PyData.str)) := .lst (.inl (.inl hn19)) (dp_strs _)
        refine ⟨V.ref c0, rfl, V.ref n0, rfl, _, _, dv, dv2, strs_shaped hvok, strs_shaped hvok, _, rfl, fls (eqv_self (strs_shaped hvok)) ?_⟩
        refine ⟨V.str nm5, rfl, V.ref c0, rfl, c0, vs.map V.str, rfl, .inl ⟨.inl (.inl hc19), fun o0 no => ?_⟩⟩
        have s20 := upd_new (o := .tup (vs.map V.str)) no
        have ho20 : upd G19 o0 (.tup (vs.map V.str)) o0 = some (.tup (vs.map V.str)) := upd_same
        generalize upd G19 o0 (.tup (vs.map V.str)) = G20 at s20 ho20
        refine ⟨V.str y, rfl, V.str nm5, .str nm5, o0, vs, y, rfl, .str _, .inl (.inl ho20), len900, y1000, hvsz, .inl ⟨nm5, hn5, rfl, fun G21 u21 s21 d21 => ?_⟩⟩
        refine ⟨V.str nm5, rfl, V.ref c0, rfl, V.str y, rfl, nm5, c0, vs, y, rfl, hn5, .inl (.inl (s21 _ _ (s20 _ _ hc19))), len900, y1000, hvsz, hy2, fun G22 u22 s22 d22 => ?_⟩
        refine ⟨_, _, dp_same s22 d21, d22, ds, ds, _, rfl, fls (eqv_self ds) ?_⟩
        exact ⟨_, _, rfl, sG2.trans (s17.trans (s18.trans (s19.trans (s20.trans (s21.trans s22)))))⟩
      · rintro σ G ⟨x7, x8, rfl, sG⟩
        exact ⟨_, _, _, rfl, s14.trans sG⟩
    · rintro σ G ⟨x6, x7, x8, rfl, sG⟩
      have hc14 := sG _ _ hc13
      have P14 : PenAt G p l ns k12 lf12 := ⟨sG _ _ P13.dc, sG _ _ P13.ls⟩
      have T14 := T13.ext sG
      refine ⟨V.ref p, rfl, (al_lst (K := K) (H0 := G) (al_cons al_non (al_cons al_str (al_cons al_str (al_cons al_str (al_cons al_int (al_cons (al_lst al_nil (by decide)) (al_cons al_new (al_cons (al_tup (al_cons al_str al_nil) (by decide)) (al_cons al_bl (al_cons al_str al_nil)))))))))) (by decide)) G _ (Same.refl _) fun G15 v s15 hd => ?_⟩
      have hd : De K G15 v (.list odds) := hd
      cases hd with
      | @lst a1 xs _ ha hds =>
        have hx10 : xs.length = 10 := deAll_len hds
        have P15 : PenAt G15 p l ns k12 lf12 := ⟨s15 _ _ P14.dc, s15 _ _ P14.ls⟩
        have hc15 := s15 _ _ hc14
        have T15 := T14.ext s15
        refine ⟨p, l, .ref a1, ns, k12, lf12, xs, rfl, P15, hn, j5, by omega, j6, .inl ⟨a1, rfl, ha⟩, by omega, by omega, fun G16 k16 lf16 y e1 e2 e3 hy s16 P16 => ?_⟩
        obtain ⟨d, hdm, hde⟩ := de_mem hds hy
        have hde16 : De K G16 y d := de_but P15.dc s16 hde
        have hc16 := s16 _ _ (ne_of hc15 P15.dc (by intro z; cases z)) hc15
        have T16 := Tabs.pen T15 P15.dc s16
        obtain ⟨f1, f2, f3, f4⟩ := odd_facts d hdm
        refine ⟨T16, fun G17 e17 T17 => ?_⟩
        have hde17 := de_extN e17 hde16
        have hc17 := e17 _ _ hc16 fun ps z => nomatch z
        refine ⟨y, rfl, V.ref c0, rfl, y, d, c0, vs, "", rfl, hde17, .inl (.inl hc17), by omega, by decide +kernel, hvsz, .inr ⟨odd_of hdm hde17, fun G18 dx s18 ndx hdx => ⟨dx, y, d, rfl, rfl, hdx, de_mono s18 _ _ hde17, f1, f2, f3, fun r nr => ?_⟩⟩⟩
        have s19 := s18.trans (upd_new (o := .tup [V.str "wish", V.str d.shown, V.bl true]) nr)
        have hr19 : upd G18 r (.tup [V.str "wish", V.str d.shown, V.bl true]) r = some (.tup [V.str "wish", V.str d.shown, V.bl true]) := upd_same
        generalize upd G18 r (.tup [V.str "wish", V.str d.shown, V.bl true]) = G19 at s19 hr19
        refine ⟨y, rfl, y, d, rfl, de_mono s19 _ _ hde17, f1, f2, f3, (by show 3 ≤ sizeLine; decide), fun t nt => ?_⟩
        have s20 := s19.trans (upd_new (o := .tup [V.str "wish", V.str d.shown, V.bl true]) nt)
        have hr20 := upd_new (o := .tup [V.str "wish", V.str d.shown, V.bl true]) nt _ _ hr19
        have ht20 : upd G19 t (.tup [V.str "wish", V.str d.shown, V.bl true]) t = some (.tup [V.str "wish", V.str d.shown, V.bl true]) := upd_same
        generalize upd G19 t (.tup [V.str "wish", V.str d.shown, V.bl true]) = G20 at s20 hr20 ht20
        have dp : ∀ u : Addr, G20 u = some (.tup [V.str "wish", V.str d.shown, V.bl true]) → Dp K G20 (.ref u) (.tuple [.str "wish", .str d.shown, .bool true]) := fun u hu => .tup (.inl (.inl hu)) (.cons (.str _) (.cons (.str _) (.cons (.bl _) .nil)))
        have sh : SeqAt.shaped (.tuple [.str "wish", .str d.shown, .bool true]) = true := by
          have e : PyData.strOk (Str.ofString "wish") = true := by decide +kernel
          unfold SeqAt.shaped
          rw [Bool.and_eq_true, decide_eq_true_eq]
          exact ⟨by simp [PyData.canLay0, PyData.canLayAll0, e, f4], by simp [PyData.depth, PyData.depthAll]⟩
        refine ⟨_, _, dp r hr20, dp t ht20, sh, sh, _, rfl, fls (eqv_self sh) ?_⟩
        refine ⟨_, _, _, _, _, _, _, _, k16, lf16, rfl, ?_, e2, e3, ⟨s20 _ _ (e17 _ _ P16.dc fun ps z => nomatch z), s20 _ _ (e17 _ _ P16.ls fun ps z => nomatch z)⟩, T17.ext s20⟩
        have z : ((i + 1 : Nat) : Int) = (i : Int) + 1 := by omega
        omega
end
end SK
namespace SK
open PySem PySem.Spec PyProof.Rows L2 LamX NdefX
/-! ### the law's call, some tables of code objects beside the script -/
abbrev EndOk (h : Heap) (os : OsState) (r : Result) (s' : Shared) : Prop := r = .ok (.ret (.bool true)) ∧ PySem.OldK h s'.heap ∧ s'.os = os ∧ AllBare s'.gens
def tabObj : Obj := { cls := .none, data := .fields #[] }
section
variable {P : Program} {w : World} {K : PySem.W.Frag} {mg mb : Str → Option Value} {fa a : Addr} {s : Shared} {H : Hp} {vs : List Value} {ns : List Int} {lv : Nat} {sp : Sp} {ps : List (Addr × Addr)} {T : List (Addr × Str)}
theorem run_lawA (D : ∀ base : Heap, K.In base → base.Ns mainGlobals mg → (∀ p ∈ ps, TabB base mg p.1 p.2) → ∃ fd, Binds K fd ["script"] [] ∧ FnG P w K mg base CX0 lv fa fd ["script"] sp) (room : Room lv PySem.callerA)
    (hsp : ∀ (H : Hp) (a : Addr) (ns : List Int), SqL K H a (ns.map V.int) → ns.length ≤ 63 → Tabs T H → sp [.ref a] H (fun v _ => v = .bl true) E0)
    (hT : ∀ p ∈ T, p.1 ∈ ps.map (·.2)) (KX : K.In s.heap) (hm : s.heap.Ns mainGlobals mg) (hb : s.heap.Ns builtinsNs mb) (hbb : ∀ x : Str, x ≠ "__name__" → mb x = bootBuiltins x)
    (hlim : s.heap.NoLimit) (hgens : s.gens = #[]) (hPt : ∀ P ∈ ps.map (·.2), s.heap.get? P = some tabObj) (nPt : ∀ P ∈ ps.map (·.2), K.lookup P = none) (hC : ∀ p ∈ ps, PySem.W.CodeHd s.heap p.1 p.2)
    (hbm : ∃ (bm : Addr) (ob : Obj), mg "__builtins__" = some (.ref bm) ∧ bm ≠ builtinsNs ∧ s.heap.get? bm = some ob ∧ ob.cls = .type "module" ∧ ob.dict = some builtinsNs ∧ ob.data = .plain)
    (ha : s.heap.get? a = some { cls := .type "list", data := .seq vs.toArray }) (hn : ns.length ≤ 63) (hS : SqL K H a (ns.map V.int)) (ok : HOk P w H s.heap) (hHP : ∀ P ∈ ps.map (·.2), H P = some (.tbl #[]))
    (hO : ∀ b, H b = none ∨ b ∈ ps.map (·.2) ∨ (b = a ∧ ∃ o xs, H b = some (.frz o (.lst xs)))) (hK : H a ≠ none → K.lookup a = none) :
    codeAny (model P w) PySem.callerA (.call (.ref fa) ⟨[.ref a], []⟩) (EndOk s.heap s.os) s := by
  have free : ∀ {b : Addr} {o : Obj}, s.heap.get? b = some o → (∀ vs n, o.data ≠ .seq vs n) → o.data ≠ .fields #[] → H b = none := fun {b o} e h1 h2 => by
    rcases hO b with z | z | ⟨rfl, _⟩
    · exact z
    · rw [hPt b z] at e
      have e' := Option.some.inj e
      subst e'
      exact absurd rfl h2
    · rw [ha] at e
      have e' := Option.some.inj e
      subst e'
      exact absurd rfl (h1 _ _)
  have dicts : ∀ {b : Addr} {m : Str → Option Value}, s.heap.Ns b m → (hidT s.heap H).Ns b m := fun {b m} ⟨o, es, ep, e, d, r⟩ =>
    ⟨o, es, ep, hidT_get e (free e (fun vs n z => by rw [d] at z; cases z) fun z => by rw [d] at z; cases z), d, r⟩
  have Kb : K.In (hidT s.heap H) := fun b o e => by
    refine hidT_get (KX b o e) ?_
    rcases hO b with z | z | ⟨rfl, o', xs, z⟩
    · exact z
    · rw [nPt b z] at e
      cases e
    · rw [hK (by rw [z]; exact fun z => nomatch z)] at e
      cases e
  have M : Mod K mg (hidT s.heap H) := ⟨Kb, dicts hm, ⟨mb, dicts hb, hbb⟩, by
    obtain ⟨mc, h1, h2⟩ := hlim
    exact ⟨mc, dicts h1, h2⟩⟩
  have noG : ∀ P ∈ ps.map (·.2), mainGlobals ≠ P := fun P hP z => by
    obtain ⟨o, es, ep, e, d, _⟩ := hm
    rw [z, hPt P hP] at e
    have e' := Option.some.inj e
    subst e'
    cases d
  have TB : ∀ p ∈ ps, TabB (hidT s.heap H) mg p.1 p.2 := fun p hp => by
    have hp2 : p.2 ∈ ps.map (·.2) := List.mem_map.mpr ⟨p, hp, rfl⟩
    refine ⟨?_, ?_, noG _ hp2⟩
    · obtain ⟨o, us, file, tf, flags, tg, inF, text, tt, e1, r1, r2, r3, rest⟩ := hC p hp
      refine ⟨o, us, file, tf, flags, tg, inF, text, tt, hidT_get e1 (free e1 (fun vs n z => ?_) fun z => ?_), r1, r2, r3, rest⟩
      · rw [r2] at z
        cases z
      · rw [r2] at z
        injection z with z
        subst z
        simp at r3
    · obtain ⟨bm, ob, b1, b2, b3, b4, b5, b6⟩ := hbm
      refine ⟨bm, ob, b1, b2, fun z => ?_, fun z => ?_, hidT_get b3 (free b3 (fun vs n z => by rw [b6] at z; cases z) fun z => by rw [b6] at z; cases z), b4, b5, b6⟩
      · obtain ⟨o, es, ep, e, d, _⟩ := hm
        rw [z, e] at b3
        have e' := Option.some.inj b3
        subst e'
        rw [d] at b6
        cases b6
      · rw [z, hPt _ hp2] at b3
        have e' := Option.some.inj b3
        subst e'
        cases b6
  have e0 : Env0 P w K mg (hidT s.heap H) PySem.callerA [] s H := ⟨rfl, M, fun b o e => of_hidT e, Nat.le_of_eq (hidT_size _ _), trivial, fun b z => (by cases z), ok, AllBare.of_eq hgens⟩
  have tabs : Tabs T H := fun p hp => TabS.nil (hHP _ (hT p hp))
  obtain ⟨fd, b, G⟩ := D _ Kb (dicts hm) TB
  have back : ∀ b o, (hidT s.heap H).get? b = some o → s.heap.get? b = some o := fun b o e => (e0.bs b o e).1
  have bb := b s [Value.ref a] (e0.mod.kin.keeps back) (by rfl)
  refine codeAny_mono (G.run PySem.callerA [] s H ⟨[.ref a], []⟩ [.ref a] [V.ref a] _ E0 rfl room e0 bb (.cons rfl .nil) (hsp H a ns hS hn tabs)) fun r s' h => ?_
  cases r with
  | error e => exact h.elim
  | ok fl =>
    cases fl with
    | next => exact False.elim h
    | brk => exact False.elim h
    | cont => exact False.elim h
    | ret u =>
      obtain ⟨v, H', os, bare, un, ok', rv, qv⟩ := h
      have qv : v = .bl true := qv
      subst qv
      obtain rfl : u = Value.bool true := rv
      have grown : ∀ P ∈ ps.map (·.2), ∃ more : Array Value, s'.heap.get? P = some { cls := .none, data := .fields more } := fun P hP => by
        obtain ⟨more, z⟩ := un.tbls P #[] (hHP P hP)
        exact ⟨_, ok' P _ z⟩
      have same : ∀ b o, b ∉ ps.map (·.2) → s.heap.get? b = some o → s'.heap.get? b = some o := fun b o nb e => by
        rcases hO b with z | z | ⟨_, ob, xs, z⟩
        · exact un.keep b o e z (fun z => (by cases z)) (fun z => (by cases z))
        · exact absurd z nb
        · obtain ⟨f1, _⟩ := ok b _ z
          obtain ⟨f2, _⟩ := ok' b _ (un.frzs b ob _ z)
          rw [e] at f1
          cases f1
          exact f2
      refine ⟨rfl, ⟨fun b o e => ?_, fun b o e => ?_⟩, os, bare⟩
      · by_cases hbP : b ∈ ps.map (·.2)
        · obtain ⟨p, hp, rfl⟩ := List.mem_map.mp hbP
          rw [hPt _ hbP] at e
          have e' := Option.some.inj e
          subst e'
          obtain ⟨more, hmore⟩ := grown _ hbP
          exact .inr (.inl ⟨((hC p hp).tab (hPt _ hbP)).isCodeTable, rfl, #[], more, rfl, by rw [Array.empty_append]; exact hmore⟩)
        · exact .inl (same b o hbP e)
      · by_cases hbP : b ∈ ps.map (·.2)
        · obtain ⟨more, hmore⟩ := grown _ hbP
          exact ⟨_, hmore⟩
        · exact ⟨o, same b o hbP e⟩
theorem run_lawG (D : ∀ base : Heap, K.In base → base.Ns mainGlobals mg → (∀ p ∈ ps, TabB base mg p.1 p.2) → ∃ fd, Binds K fd ["script"] [] ∧ FnG P w K mg base CX0 lv fa fd ["script"] sp) (room : Room lv PySem.callerA)
    (hsp : ∀ (H : Hp) (a : Addr) (ns : List Int), SqL K H a (ns.map V.int) → ns.length ≤ 63 → Tabs T H → sp [.ref a] H (fun v _ => v = .bl true) E0)
    (hT : ∀ p ∈ T, p.1 ∈ ps.map (·.2)) (KX : K.In s.heap) (hm : s.heap.Ns mainGlobals mg) (hb : s.heap.Ns builtinsNs mb) (hbb : ∀ x : Str, x ≠ "__name__" → mb x = bootBuiltins x)
    (hlim : s.heap.NoLimit) (hgens : s.gens = #[]) (hPt : ∀ P ∈ ps.map (·.2), s.heap.get? P = some tabObj) (nPt : ∀ P ∈ ps.map (·.2), K.lookup P = none) (hC : ∀ p ∈ ps, PySem.W.CodeHd s.heap p.1 p.2)
    (hbm : ∃ (bm : Addr) (ob : Obj), mg "__builtins__" = some (.ref bm) ∧ bm ≠ builtinsNs ∧ s.heap.get? bm = some ob ∧ ob.cls = .type "module" ∧ ob.dict = some builtinsNs ∧ ob.data = .plain)
    (ha : s.heap.get? a = some { cls := .type "list", data := .seq vs.toArray }) (hi : IntsAre vs ns) (hn : ns.length ≤ 63) :
    codeAny (model P w) PySem.callerA (.call (.ref fa) ⟨[.ref a], []⟩) (EndOk s.heap s.os) s := by
  have rv := vals_ints hi
  have lv := hi.length
  have z63 : (63 : Nat) ≤ sizeLine := by decide
  have hz : ns.length ≤ sizeLine := Nat.le_trans hn z63
  have nap : a ∉ ps.map (·.2) := fun z => by
    have e := hPt a z
    rw [ha] at e
    have e := congrArg Obj.data (Option.some.inj e)
    cases e
  let lo : HO := .frz { cls := .type "list", data := .seq vs.toArray } (.lst (ns.map V.int))
  by_cases hk : K.lookup a = none
  · let H0 : Hp := fun b => if b = a then some lo else if b ∈ ps.map (·.2) then some (.tbl #[]) else none
    have ea : H0 a = some lo := if_pos rfl
    have eP : ∀ P ∈ ps.map (·.2), H0 P = some (.tbl #[]) := fun P hP => (if_neg (show ¬ P = a from fun z => nap (by rw [← z]; exact hP))).trans (if_pos hP)
    have en : ∀ b, b ≠ a → b ∉ ps.map (·.2) → H0 b = none := fun b n m => (if_neg n).trans (if_neg m)
    refine run_lawA (H := H0) D room hsp hT KX hm hb hbb hlim hgens hPt nPt hC hbm ha hn (.inl (.inr ⟨_, ea⟩)) (fun b u z => ?_) eP (fun b => ?_) fun _ => hk
    · by_cases h : b = a
      · subst h
        rw [ea] at z
        cases z
        exact ⟨ha, by rw [List.length_map]; exact hz, vs, _, rv, ha⟩
      · by_cases m : b ∈ ps.map (·.2)
        · rw [eP b m] at z
          cases z
          exact hPt b m
        · rw [en b h m] at z
          cases z
    · by_cases h : b = a
      · subst h
        exact .inr (.inr ⟨rfl, _, _, ea⟩)
      · by_cases m : b ∈ ps.map (·.2)
        · exact .inr (.inl m)
        · exact .inl (en b h m)
  · obtain ⟨o, ho⟩ := Option.ne_none_iff_exists'.mp hk
    have e := KX a o ho
    rw [ha] at e
    cases e
    let H1 : Hp := fun b => if b ∈ ps.map (·.2) then some (.tbl #[]) else none
    have eP : ∀ P ∈ ps.map (·.2), H1 P = some (.tbl #[]) := fun P hP => if_pos hP
    have en : ∀ b, b ∉ ps.map (·.2) → H1 b = none := fun b m => if_neg m
    refine run_lawA (H := H1) D room hsp hT KX hm hb hbb hlim hgens hPt nPt hC hbm ha hn (.inr ⟨_, vs.toArray, _, ho, rfl, rfl, rfl, by rw [List.size_toArray, lv]; exact hz, by simpa using rv⟩) (fun b u z => ?_) eP (fun b => ?_) fun z => absurd (en a nap) z
    · by_cases m : b ∈ ps.map (·.2)
      · rw [eP b m] at z
        cases z
        exact hPt b m
      · rw [en b m] at z
        cases z
    · by_cases m : b ∈ ps.map (·.2)
      · exact .inr (.inl m)
      · exact .inl (en b m)
end
end SK
namespace SK
open PySem PySem.Spec PyProof.Rows L2 LamX NdefX
open K0 (De DeAll XCl spX withX)
/-! ### what the top leaves, as one test -/
def clsB (K : PySem.W.Frag) (C : Addr) : Bool := match K.lookup C with
  | some ⟨.type "type", _, .cls cd, sl⟩ => (match cd.mro, sl.toList with
    | .ref D :: bm, [_, _, _, _, some (.builtin n), _] => decide (D = C) && (decide (n = "ValueError.__new__") && (!cd.hasDel && (cd.hasDict && PySem.HandSPX.refsVE bm)))
    | _, _ => false)
  | _ => false
theorem clsB_ok {K : PySem.W.Frag} {C : Addr} (h : clsB K C = true) : ∃ nm q N bs bm sn sub ab col dd k0 k1 k2 k3 k5, K.lookup C = some (excClassObj nm q C N bs bm true sn sub ab col dd k0 k1 k2 k3 k5 "ValueError.__new__") ∧ PySem.HandSPX.refsVE bm = true := by
  unfold clsB at h
  split at h
  · rename_i dd cd sl ho
    split at h
    · rename_i D bm k0 k1 k2 k3 n k5 hm hs
      simp only [Bool.and_eq_true, decide_eq_true_eq, Bool.not_eq_true'] at h
      obtain ⟨rfl, rfl, hdel, hd, hv⟩ := h
      obtain ⟨nm, bs, mro, ns, qn, hdc, sn, sub, ab, col, del⟩ := cd
      dsimp only at hm hdel hd
      subst hm hdel hd
      have e : sl = #[k0, k1, k2, k3, some (.builtin "ValueError.__new__"), k5] := by
        obtain ⟨l⟩ := sl
        simp only at hs
        rw [hs]
      subst e
      exact ⟨nm, qn, ns, bs, bm, sn, sub, ab, col, dd, k0, k1, k2, k3, k5, ho, hv⟩
    · cases h
  · cases h
def xB (K : PySem.W.Frag) (C : Addr) : Bool :=
  clsB K C && (decide (PySem.W.findIn K (.ref C) "__setattr__" = some (some (.builtin "object.__setattr__"))) && (decide (PySem.W.subIn K (.ref C) (.type "BaseException") = some true) && (decide (PySem.W.typeIn K (.ref C) = some (.type "type")) && (PySem.W.keepIn K (.ref C) &&
    (decide (PySem.W.findIn K (.ref C) "__getattribute__" = some (some (.builtin "BaseException.__getattribute__"))) && (decide (PySem.W.findIn K (.ref C) "__getattr__" = some none) && (PySem.W.hasDictIn K C && (decide (PySem.W.findIn K (.ref C) "__class__" = some (some (.builtin "object.__class__"))) &&
      (decide (PySem.W.specialIn K (.builtin "object.__class__") "__get__" = some (some (.builtin "getset_descriptor.__get__"))) && (decide (PySem.W.takesIn K (.builtin "object.__class__") = some true) && decide (PySem.W.mroIn K C (.type "object") = some true)))))))))))
theorem xB_ok {K : PySem.W.Frag} {C : Addr} (h : xB K C = true) : XCl K C := by
  simp only [xB, Bool.and_eq_true, decide_eq_true_eq] at h
  obtain ⟨h1, h2, h3, h4, h5, h6, h7, h8, h9, h10, h11, h12⟩ := h
  exact ⟨⟨clsB_ok h1, h2, h3, h4, h5⟩, h6, h7, h8, h9, h10, h11, h12⟩
def iniB (K : PySem.W.Frag) (x : Str) (fs : List Str) : Bool :=
  decide (PySem.W.findIn K (.ref (He.ga K x)) "__init__" = some (some (.ref (He.ma K (He.ga K x) "__init__")))) && (decide (PySem.W.typeIn K (.ref (He.ma K (He.ga K x) "__init__")) = some (.type "function")) && fs.all fun n => decide (PySem.W.findIn K (.ref (He.ga K x)) n = some none))
section
variable {P : Program} {w : World} {K : PySem.W.Frag} {mg : Str → Option Value} {base : Heap} {f C : Addr} {fd : FuncData}
theorem sc_BadWish : FnScope ["self", "name"] ["self", "name"] (defScope (inClass (top 2) 0)) := ⟨rfl, rfl, rfl, by decide +kernel, rfl, by decide +kernel, by decide +kernel⟩
theorem ok_BadWish (F : Fun K "__init__" "BadWish.__init__" (inClass (top 2) 0) f fd) (T : OexC K C) (no : ∀ n ∈ (["name"] : List Str), PySem.W.findIn K (.ref C) n = some none) : FnOk P w K mg base CX0 1 f fd ["self", "name"] (spX C ["name"]) := by
  refine F.ok sc_BadWish (fun vs H Q E h => ?_) (fun cdv A outer s H vs Q E hr h => ?_)
  · obtain ⟨a, ys, rfl, hl, _⟩ := h
    exact congrArg Nat.succ hl
  · obtain ⟨a, ys, rfl, hl, ha, k⟩ := h
    match ys, hl with
    | [y0], _ =>
      refine ⟨_, pss_one (ps_ost (pv 0) (pv 1)), ?_⟩
      refine ⟨y0, rfl, .ref a, rfl, a, C, rfl, T, (no _ (by simp)), .inl ⟨ha, fun dx nd ne => ?_⟩⟩
      exact k dx nd ne
theorem xr_BadWish (F : Fun K "__init__" "BadWish.__init__" (inClass (top 2) 0) f fd) (cl : XCl K C) (gC : mg "BadWish" = some (.ref C)) (iC : PySem.W.findIn K (.ref C) "__init__" = some (some (.ref f)))
    (tI : PySem.W.typeIn K (.ref f) = some (.type "function")) (no : ∀ n ∈ (["name"] : List Str), PySem.W.findIn K (.ref C) n = some none) : XR P w K mg base "BadWish" C ["name"] :=
  ⟨cl, gC, no, f, fd, iC, tI, ok_BadWish F cl.T no, Fun.binds F fun _ _ _ _ _ _ us hl => match us, hl with | [_, _], _ => rfl⟩
end
def exs18 (K : PySem.W.Frag) : List Bool := [(K.lookup sysModules).isSome,
  decide (PySem.W.kitOne K (.ref (He.ga K "BadWish")) (.ref (He.ga K "TreesError")) = some true),
  He.tupB K "WISHES" [.str "has", .str "put", .str "strike", .str "begins", .str "longest"],
  (xB K (He.ga K "BadWish") && iniB K "BadWish" [("name" : Str)])]
def ex18 (K : PySem.W.Frag) : Bool := (exs18 K).all id
def fa18 : List He.Fa := [.glo "check_wish", .glo "yes_or_no", .glo "longest_beginning", .glo "wanted", .glo "_law_pen_of", .glo "_law_draw", .glo "_law_pick", .glo "_law_shuffled", .glo "_law_letters_of", .glo "_law_some_words", .glo "_law_met", .glo "_law_due", .glo "law", .glo "TreesError", .glo "BadWish", .glo "WISHES", .free "isinstance", .free "repr", .free "sorted", .free "tuple", .free "list", .free "len", .free "max", .free "any", .free "range", .free "int", .free "abs", .exm "BadWish" "BadWish" true]
def dDef (x : Str) (st : Stmt) : He.DefD := ⟨(x, none), x, x, defArgs st, defBody st, defScope st, [], []⟩
def dMet (x m q : Str) (st : Stmt) : He.DefD := ⟨(x, some m), m, q, defArgs st, defBody st, defScope st, [], []⟩
def fn18 : List He.DefD := [dDef "check_wish" (top 5), dDef "yes_or_no" (top 6), dDef "longest_beginning" (top 7), dDef "wanted" (top 8), dDef "_law_pen_of" (top 10), dDef "_law_draw" (top 11), dDef "_law_pick" (top 12), dDef "_law_shuffled" (top 13), dDef "_law_letters_of" (top 14), dDef "_law_some_words" (top 15), dDef "_law_met" (top 16), dDef "_law_due" (top 17), dDef "law" (top 18), dMet "BadWish" "__init__" "BadWish.__init__" (inClass (top 2) 0)]
def tf18 : List He.Defn := [("law", none)]
/-! ### the Hook -/
def KF (g : Addr → Option Obj) : PySem.W.Frag := He.frT g (sysModules :: He.asD g 5)
def obsK (g : Addr → Option Obj) : He.AlX := (He.obsT fa18 fn18 [] (KF g), ex18 (KF g) && He.tabsB g tf18 (KF g))
abbrev SaysK (w : World) (h : Heap) (K : PySem.W.Frag) : Prop := He.SaysX fa18 fn18 [] tf18 ex18 w h K
theorem saysK {w : World} {h : Heap} (e : obsK h.get? = He.valX fn18 [] w) : SaysK w h (KF h.get?) := by
  obtain ⟨m1, m2⟩ := He.ba (show (ex18 (KF h.get?) && He.tabsB h.get? tf18 (KF h.get?)) = true from congrArg Prod.snd e)
  have at_ : ∀ p ∈ tf18, PySem.W.codeHdIn (KF h.get?) (He.cT (KF h.get?) p).1 (He.cT (KF h.get?) p).2 = true ∧ ∃ o, h.get? (He.cT (KF h.get?) p).2 = some o ∧ He.emptyTab o = true := fun p hp => by
    obtain ⟨a1, a2⟩ := He.ba (List.all_eq_true.mp m2 p hp)
    refine ⟨a1, ?_⟩
    cases z : h.get? (He.cT (KF h.get?) p).2 with
    | none => rw [z] at a2; cases a2
    | some o => rw [z] at a2; exact ⟨o, rfl, a2⟩
  refine ⟨congrArg Prod.fst e, m1, fun p hp => (at_ p hp).1, fun p hp => ?_, fun p hp => ?_⟩
  · obtain ⟨_, o, z, y⟩ := at_ p hp
    exact He.frT_none z y
  · obtain ⟨_, o, z, y⟩ := at_ p hp
    rw [z, He.emptyTab_eq y]
def hkK : PySem.W.Hook where
  α := He.AlX
  obs := fun s => obsK s.heap.get?
  val := fun w => He.valX fn18 [] w
  says := fun w h => ∃ K : PySem.W.Frag, K.In h ∧ SaysK w h K
  of := fun _ _ e => ⟨_, He.frT_in, saysK e⟩
  keeps := fun _ _ _ ⟨K, hK, c⟩ k => ⟨K, PySem.W.Frag.In.keeps hK k, ⟨c.t, c.more, c.hd, c.out, fun p hp => k _ _ (c.empty p hp)⟩⟩
def obK (s : PySem.W.SharedT) : He.AlX := obsK (HandSHeadRun.getT s)
theorem obK_eq (s : PySem.W.SharedT) : obK s = hkK.obs s.abs := by
  have e : HandSHeadRun.getT s = s.abs.heap.get? := funext (HandSHeadRun.getT_eq s)
  show obsK _ = obsK _
  rw [e]
section
variable {P : Program} {w : World} {K : PySem.W.Frag} {mg : Str → Option Value} {base h : Heap}
theorem SaysK.fun_ (c : SaysK w h K) {d : He.DefD} {st : Stmt} (hm : d ∈ fn18) (hp : d.params = defArgs st) (hb : d.body = defBody st) (hs : d.scope = defScope st) (hd : d.dfl = []) : ∃ fd, Fun K d.name d.qual st (He.fAd K d.at_) fd := by
  obtain ⟨fd, F⟩ := c.t.d.defs hm
  obtain ⟨oc, od, dV, kV, doc, pm, an, cdv, ct, osl, e, lk, hcd, hD, _⟩ := F.ex
  have hdv : d.dvs K = [] := by
    unfold He.DefD.dvs
    rw [hd]
    rfl
  have e3 : dV = .none := by
    rcases hD with ⟨_, z⟩ | ⟨z, _⟩
    · exact z
    · exact absurd hdv z
  subst e3
  refine ⟨fd, ⟨oc, od, kV, doc, pm, an, cdv, ct, osl, ?_, lk, hcd⟩, F.kp⟩
  rw [e, hp, hb, hs]
theorem SaysK.funT (c : SaysK w h K) {d : He.DefD} {st : Stmt} (hm : d ∈ fn18) (hp : d.params = defArgs st) (hb : d.body = defBody st) (hs : d.scope = defScope st) (hd : d.dfl = []) : ∃ fd, FunT K d.name d.qual st (He.fAd K d.at_) fd (He.cT K d.at_).1 := by
  obtain ⟨fd, F⟩ := c.fun_ hm hp hb hs hd
  obtain ⟨oc, od, kV, doc, pm, an, cdv, ct, osl, e, lk, hcd⟩ := F.ex
  obtain ⟨cc, rfl⟩ := He.codeIn_ref hcd
  have z : He.codeOf K d.at_ = cc := He.codeOf_eq lk (by rw [e])
  refine ⟨fd, ⟨oc, od, kV, doc, pm, an, ct, osl, ?_, lk, ?_⟩, F.kp⟩
  · show fd = _
    rw [e]
    show _ = PySem.W.fnOf _ _ _ _ _ _ _ _ _ _ (Value.ref (He.codeOf K d.at_)) _
    rw [z]
  · show PySem.W.codeIn K (.ref (He.codeOf K d.at_)) _ = true
    rw [z]
    exact hcd
theorem SaysK.is (c : SaysK w h K) {b : Bool} (i : Nat) (e : (exs18 K)[i]? = some b) : b = true := by
  have m : (exs18 K).all id = true := c.more
  exact List.all_eq_true.mp m b (List.mem_of_getElem? e)
theorem SaysK.fact (c : SaysK w h K) (i : Nat) {f : He.Fa} (e : fa18[i]? = some f) : f.ok K = true := c.t.d.facts (List.mem_of_getElem? e)
theorem SaysK.glo (c : SaysK w h K) (Kb : K.In base) (hm : base.Ns mainGlobals mg) (i : Nat) {x : Str} (e : fa18[i]? = some (.glo x)) : mg x = some (.ref (He.ga K x)) := He.glo_ok Kb hm (c.fact i e)
theorem SaysK.free (c : SaysK w h K) (Kb : K.In base) (hm : base.Ns mainGlobals mg) (i : Nat) {x : Str} (e : fa18[i]? = some (.free x)) : mg x = none := He.free_ok Kb hm (c.fact i e)
def tabsK (K : PySem.W.Frag) : List (Addr × Addr) := tf18.map fun p => He.cT K p
def TK (K : PySem.W.Frag) : List (Addr × Str) := [((He.cT K ("law", none)).2, ("law" : Str) ++ ".<locals>." ++ "<lambda>")]
theorem law_all (c : SaysK w h K) (Kb : K.In base) (hm : base.Ns mainGlobals mg) (TB : ∀ p ∈ tabsK K, TabB base mg p.1 p.2) : ∃ fd, Binds K fd ["script"] [] ∧ FnG P w K mg base CX0 7 (He.ga K "law") fd ["script"] (spLaw K (TK K)) := by
  obtain ⟨v_check_wish_d, v_check_wish_F⟩ := c.fun_ (d := dDef "check_wish" (top 5)) (st := top 5) (List.mem_of_getElem? (i := 0) rfl) rfl rfl rfl rfl
  have v_check_wish_b : Binds K v_check_wish_d ["name"] [] := Fun.binds v_check_wish_F fun _ _ _ _ _ _ us hl => match us, hl with | [_], _ => rfl
  have v_check_wish_g := c.glo Kb hm 0 (x := "check_wish") rfl
  obtain ⟨v_yes_or_no_d, v_yes_or_no_F⟩ := c.fun_ (d := dDef "yes_or_no" (top 6)) (st := top 6) (List.mem_of_getElem? (i := 1) rfl) rfl rfl rfl rfl
  have v_yes_or_no_b : Binds K v_yes_or_no_d ["holds"] [] := Fun.binds v_yes_or_no_F fun _ _ _ _ _ _ us hl => match us, hl with | [_], _ => rfl
  have v_yes_or_no_g := c.glo Kb hm 1 (x := "yes_or_no") rfl
  obtain ⟨v_longest_beginning_d, v_longest_beginning_F⟩ := c.fun_ (d := dDef "longest_beginning" (top 7)) (st := top 7) (List.mem_of_getElem? (i := 2) rfl) rfl rfl rfl rfl
  have v_longest_beginning_b : Binds K v_longest_beginning_d ["words", "word"] [] := Fun.binds v_longest_beginning_F fun _ _ _ _ _ _ us hl => match us, hl with | [_, _], _ => rfl
  have v_longest_beginning_g := c.glo Kb hm 2 (x := "longest_beginning") rfl
  obtain ⟨v_wanted_d, v_wanted_F⟩ := c.fun_ (d := dDef "wanted" (top 8)) (st := top 8) (List.mem_of_getElem? (i := 3) rfl) rfl rfl rfl rfl
  have v_wanted_b : Binds K v_wanted_d ["name", "words", "word"] [] := Fun.binds v_wanted_F fun _ _ _ _ _ _ us hl => match us, hl with | [_, _, _], _ => rfl
  have v_wanted_g := c.glo Kb hm 3 (x := "wanted") rfl
  obtain ⟨v_law_pen_of_d, v_law_pen_of_F⟩ := c.fun_ (d := dDef "_law_pen_of" (top 10)) (st := top 10) (List.mem_of_getElem? (i := 4) rfl) rfl rfl rfl rfl
  have v_law_pen_of_b : Binds K v_law_pen_of_d ["script"] [] := Fun.binds v_law_pen_of_F fun _ _ _ _ _ _ us hl => match us, hl with | [_], _ => rfl
  have v_law_pen_of_g := c.glo Kb hm 4 (x := "_law_pen_of") rfl
  obtain ⟨v_law_draw_d, v_law_draw_F⟩ := c.fun_ (d := dDef "_law_draw" (top 11)) (st := top 11) (List.mem_of_getElem? (i := 5) rfl) rfl rfl rfl rfl
  have v_law_draw_b : Binds K v_law_draw_d ["pen", "many"] [] := Fun.binds v_law_draw_F fun _ _ _ _ _ _ us hl => match us, hl with | [_, _], _ => rfl
  have v_law_draw_g := c.glo Kb hm 5 (x := "_law_draw") rfl
  obtain ⟨v_law_pick_d, v_law_pick_F⟩ := c.fun_ (d := dDef "_law_pick" (top 12)) (st := top 12) (List.mem_of_getElem? (i := 6) rfl) rfl rfl rfl rfl
  have v_law_pick_b : Binds K v_law_pick_d ["pen", "items"] [] := Fun.binds v_law_pick_F fun _ _ _ _ _ _ us hl => match us, hl with | [_, _], _ => rfl
  have v_law_pick_g := c.glo Kb hm 6 (x := "_law_pick") rfl
  obtain ⟨v_law_shuffled_d, v_law_shuffled_F⟩ := c.fun_ (d := dDef "_law_shuffled" (top 13)) (st := top 13) (List.mem_of_getElem? (i := 7) rfl) rfl rfl rfl rfl
  have v_law_shuffled_b : Binds K v_law_shuffled_d ["pen", "items"] [] := Fun.binds v_law_shuffled_F fun _ _ _ _ _ _ us hl => match us, hl with | [_, _], _ => rfl
  have v_law_shuffled_g := c.glo Kb hm 7 (x := "_law_shuffled") rfl
  obtain ⟨v_law_letters_of_d, v_law_letters_of_F⟩ := c.fun_ (d := dDef "_law_letters_of" (top 14)) (st := top 14) (List.mem_of_getElem? (i := 8) rfl) rfl rfl rfl rfl
  have v_law_letters_of_b : Binds K v_law_letters_of_d ["pen"] [] := Fun.binds v_law_letters_of_F fun _ _ _ _ _ _ us hl => match us, hl with | [_], _ => rfl
  have v_law_letters_of_g := c.glo Kb hm 8 (x := "_law_letters_of") rfl
  obtain ⟨v_law_some_words_d, v_law_some_words_F⟩ := c.fun_ (d := dDef "_law_some_words" (top 15)) (st := top 15) (List.mem_of_getElem? (i := 9) rfl) rfl rfl rfl rfl
  have v_law_some_words_b : Binds K v_law_some_words_d ["pen", "letters", "many", "longest"] [] := Fun.binds v_law_some_words_F fun _ _ _ _ _ _ us hl => match us, hl with | [_, _, _, _], _ => rfl
  have v_law_some_words_g := c.glo Kb hm 9 (x := "_law_some_words") rfl
  obtain ⟨v_law_met_d, v_law_met_F⟩ := c.fun_ (d := dDef "_law_met" (top 16)) (st := top 16) (List.mem_of_getElem? (i := 10) rfl) rfl rfl rfl rfl
  have v_law_met_b : Binds K v_law_met_d ["call"] [] := Fun.binds v_law_met_F fun _ _ _ _ _ _ us hl => match us, hl with | [_], _ => rfl
  have v_law_met_g := c.glo Kb hm 10 (x := "_law_met") rfl
  obtain ⟨v_law_due_d, v_law_due_F⟩ := c.fun_ (d := dDef "_law_due" (top 17)) (st := top 17) (List.mem_of_getElem? (i := 11) rfl) rfl rfl rfl rfl
  have v_law_due_b : Binds K v_law_due_d ["name", "words", "word"] [] := Fun.binds v_law_due_F fun _ _ _ _ _ _ us hl => match us, hl with | [_, _, _], _ => rfl
  have v_law_due_g := c.glo Kb hm 11 (x := "_law_due") rfl
  obtain ⟨v_law_d, v_law_F⟩ := c.funT (d := dDef "law" (top 18)) (st := top 18) (List.mem_of_getElem? (i := 12) rfl) rfl rfl rfl rfl
  have v_law_b : Binds K v_law_d ["script"] [] := FunT.bindsT v_law_F fun _ _ _ _ _ _ us hl => match us, hl with | [_], _ => rfl
  have v_law_g := c.glo Kb hm 12 (x := "law") rfl
  obtain ⟨x_BadWish_d, x_BadWish_F⟩ := c.fun_ (d := dMet "BadWish" "__init__" "BadWish.__init__" (inClass (top 2) 0)) (st := inClass (top 2) 0) (List.mem_of_getElem? (i := 13) rfl) rfl rfl rfl rfl
  have x_BadWish_g := c.glo Kb hm 14 (x := "BadWish") rfl
  obtain ⟨x_BadWish_1, x_BadWish_2⟩ := He.ba (c.is 3 rfl)
  unfold iniB at x_BadWish_2
  obtain ⟨x_BadWish_3, x_BadWish_4⟩ := He.ba x_BadWish_2
  obtain ⟨x_BadWish_5, x_BadWish_6⟩ := He.ba x_BadWish_4
  have x_BadWish_X : XR P w K mg base "BadWish" (He.ga K "BadWish") ["name"] := xr_BadWish x_BadWish_F (xB_ok x_BadWish_1) x_BadWish_g (of_decide_eq_true x_BadWish_3) (of_decide_eq_true x_BadWish_5) fun n hn => of_decide_eq_true (List.all_eq_true.mp x_BadWish_6 n hn)
  have f_isinstance := c.free Kb hm 16 (x := "isinstance") rfl
  have f_repr := c.free Kb hm 17 (x := "repr") rfl
  have f_sorted := c.free Kb hm 18 (x := "sorted") rfl
  have f_tuple := c.free Kb hm 19 (x := "tuple") rfl
  have f_list := c.free Kb hm 20 (x := "list") rfl
  have f_len := c.free Kb hm 21 (x := "len") rfl
  have f_max := c.free Kb hm 22 (x := "max") rfl
  have f_any := c.free Kb hm 23 (x := "any") rfl
  have f_range := c.free Kb hm 24 (x := "range") rfl
  have f_int := c.free Kb hm 25 (x := "int") rfl
  have f_abs := c.free Kb hm 26 (x := "abs") rfl
  have g_TreesError := c.glo Kb hm 13 (x := "TreesError") rfl
  have g_BadWish := c.glo Kb hm 14 (x := "BadWish") rfl
  have g_WISHES := c.glo Kb hm 15 (x := "WISHES") rfl
  have e_BadWish_BadWish := He.exm_ok (c.fact 27 (f := .exm "BadWish" "BadWish" true) rfl)
  have k_BadWish_TreesError := of_decide_eq_true (c.is 1 rfl)
  have ex_0 := c.is 2 (b := He.tupB K "WISHES" [.str "has", .str "put", .str "strike", .str "begins", .str "longest"]) rfl
  have sys : ∃ o, K.lookup sysModules = some o := Option.isSome_iff_exists.mp (c.is 0 rfl)
  have hW : ∀ H, SqT K H (He.ga K "WISHES") (five.map V.str) := fun H => He.tupB_ok ex_0 H
  have G_check := ok_check (P := P) (w := w) v_check_wish_F x_BadWish_X g_WISHES hW
  have G_yn := ok_yn (P := P) (w := w) (base := base) (mg := mg) v_yes_or_no_F
  have G_longL := ok_longL (P := P) (w := w) (base := base) v_longest_beginning_F f_len f_max
  have G_longT := ok_longT (P := P) (w := w) (base := base) v_longest_beginning_F f_len f_max
  have G_wantL := ok_wantL v_wanted_F f_tuple f_sorted f_any v_check_wish_g v_check_wish_F.kp G_check v_check_wish_b v_yes_or_no_g v_yes_or_no_F.kp G_yn v_yes_or_no_b v_longest_beginning_g v_longest_beginning_F.kp G_longL v_longest_beginning_b
  have G_wantT := ok_wantT v_wanted_F f_tuple f_sorted f_any v_check_wish_g v_check_wish_F.kp G_check v_check_wish_b v_yes_or_no_g v_yes_or_no_F.kp G_yn v_yes_or_no_b v_longest_beginning_g v_longest_beginning_F.kp G_longT v_longest_beginning_b
  have G_pen := ok_pen (P := P) (w := w) (base := base) v_law_pen_of_F f_list
  have G_draw := ok_draw (P := P) (w := w) (base := base) v_law_draw_F f_int f_len f_abs
  have G_pick := ok_pick v_law_pick_F f_len v_law_draw_g v_law_draw_F.kp G_draw v_law_draw_b
  have G_shuf := ok_shufG (good_shuf (K := K)) v_law_shuffled_F f_len f_list v_law_draw_g v_law_draw_F.kp G_draw v_law_draw_b
  have G_six := ok_six v_law_letters_of_F v_law_pick_g v_law_pick_F.kp G_pick v_law_pick_b
  have G_some := ok_someG v_law_some_words_F f_range v_law_draw_g v_law_draw_F.kp G_draw v_law_draw_b v_law_pick_g v_law_pick_F.kp G_pick v_law_pick_b
  have G_due := ok_dueL (P := P) (w := w) (base := base) v_law_due_F f_tuple f_sorted f_any f_range f_len
  have tb := TB (He.cT K ("law", none)) (List.mem_map.mpr ⟨("law", none), .head _, rfl⟩)
  exact ⟨v_law_d, v_law_b, ok_law (T := TK K) v_law_F tb (.head _) (fun p hp _ => by
      obtain rfl : p = ((He.cT K ("law", none)).2, ("law" : Str) ++ ".<locals>." ++ "<lambda>") := by simpa [TK] using hp
      rfl) f_range f_list f_tuple f_repr f_isinstance sys x_BadWish_X g_TreesError k_BadWish_TreesError e_BadWish_BadWish v_law_pen_of_g v_law_pen_of_F.kp G_pen v_law_pen_of_b v_law_draw_g v_law_draw_F.kp G_draw v_law_draw_b v_law_pick_g v_law_pick_F.kp G_pick v_law_pick_b
    v_law_letters_of_g v_law_letters_of_F.kp G_six v_law_letters_of_b v_law_shuffled_g v_law_shuffled_F.kp G_shuf v_law_shuffled_b v_law_some_words_g v_law_some_words_F.kp G_some v_law_some_words_b v_law_met_g v_law_met_F v_law_met_b v_law_due_g v_law_due_F.kp G_due v_law_due_b v_wanted_g v_wanted_F.kp G_wantL G_wantT v_wanted_b⟩
end
end SK
namespace SK
open PySem PySem.Spec PyProof.Rows L2 LamX NdefX
abbrev RR : PySem.W.OpenRow := PySem.W.OpenLaw.row PySem.Challenge.rw_lettertrees_k18_wishes
def namesK : List Str := [("TreesError" : Str), ("BadWish" : Str), ("WISHES" : Str), ("check_wish" : Str), ("yes_or_no" : Str), ("longest_beginning" : Str), ("wanted" : Str), ("_law_pen_of" : Str), ("_law_draw" : Str), ("_law_pick" : Str), ("_law_shuffled" : Str), ("_law_letters_of" : Str), ("_law_some_words" : Str), ("_law_met" : Str), ("_law_due" : Str)]
theorem runK (w : World) : HandSHeadRun.RunEq RR (PySem.W.view RR.prog [18]) hkK obK 9000 namesK w := by
  intro os
  kernel_rfl
end SK
open PySem PySem.W PySem.Calls PyProof.Rows
theorem PySem.Challenge.cw_lettertrees_k18_wishes_holds : PySem.Challenge.rw_lettertrees_k18_wishes.Holds := by
  w_on; o_law
  refine HandSHeadRun.head_any (r := SK.RR) (q := view SK.RR.prog [18]) (H := SK.hkK) (ob := SK.obK) (M := 9000) (loose := SK.namesK) (d := HandSHeadRun.topDef SK.RR.prog 18) (kwd := []) SK.obK_eq
    (by kernel_rfl) (fun s => by kernel_rfl) SK.runK (by kernel_rfl) (by kernel_rfl) (by kernel_rfl) (by rfl) (by first | assumption | decide +kernel) (by decide +kernel) ⟨rfl, rfl, rfl, rfl, rfl, by decide +kernel⟩ ?hw ?hc
  case hw => w_witness2
  case hc =>
    refine Att.attach_call (l := PySem.Challenge.rw_lettertrees_k18_wishes) (n := 63) rfl (by kernel_rfl) fun w s₀ s₁ mg mb fa o pm cd doc a vs ns G Y ho hd hcd hmg hobj hints hlen hg => ?_
    obtain ⟨K, KX, c⟩ := Y
    have hl : mg ("law" : PySem.Str) = some (.ref (He.ga K "law")) := SK.SaysK.glo c KX G.T.g 12 rfl
    have hmg' : mg ("law" : PySem.Str) = some (.ref fa) := by
      have e : (HandSHeadRun.topDef SK.RR.prog 18).name = ("law" : PySem.Str) := by kernel_rfl
      rw [← e]
      exact hmg
    rw [hmg'] at hl
    have ef : fa = He.ga K "law" := Value.ref.inj (Option.some.inj hl)
    rw [ef]
    have mem : ∀ P ∈ (SK.tabsK K).map (·.2), ∃ p ∈ SK.tf18, (He.cT K p).2 = P := fun P hP => by
      obtain ⟨q, hq, rfl⟩ := List.mem_map.mp hP
      obtain ⟨p, hp, rfl⟩ := List.mem_map.mp hq
      exact ⟨p, hp, rfl⟩
    refine SK.run_lawG (ps := SK.tabsK K) (T := SK.TK K) (K := K) (mg := mg) (mb := mb) (fun base Kb hm TB => SK.law_all c Kb hm TB) ⟨rfl, by decide, by decide⟩ (fun H a ns h1 h2 h3 => ⟨a, ns, rfl, h1, h2, h3, fun _ => rfl⟩) ?_ KX G.T.g G.T.b G.T.builtins G.T.nolimit hg (fun P hP => ?_) (fun P hP => ?_) (fun p hp => ?_) G.T.bmain hobj hints hlen
    · intro p hp
      simp only [SK.TK, List.mem_cons, List.mem_nil_iff, or_false] at hp
      subst hp
      exact List.mem_map.mpr ⟨_, List.mem_map.mpr ⟨("law", none), .head _, rfl⟩, rfl⟩
    · obtain ⟨p, hp, rfl⟩ := mem P hP
      exact c.empty p hp
    · obtain ⟨p, hp, rfl⟩ := mem P hP
      exact c.out p hp
    · obtain ⟨q, hq, rfl⟩ := List.mem_map.mp hp
      exact codeHd_of_K KX (c.hd q hq)
