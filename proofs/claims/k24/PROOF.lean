import PyProof.Rows.All
import Wide.All
import OpenK.AllK
import Wide.FinOn
import HandS.ForSpec
import HandS.ExcInit
import KE.KExcIs
import HandS.IsInst
import HandS.ExcValue
import HandS.Dict
import HandS.SortKw
import KE.SortKeyHeap
import KE.SortCalls
import HandS.Comp
import HandS.Iter
import HandS.Nested
import HandS.Walk
import HandS.DictComp
import KE.GoesMore
import KE.GoesEnum
import HandS.Text
import HandS.Style
import HandS.WordsDict
import PyProof.StrLaws
import HandS.Strs
import HandS.SetTxt0
import HandS.Steps
import HandS.Conv
import HandS.TryMany
import HandS.ExcField
import HandS.ExcIs
import PyProof.Rows.RegReprOcc
import HandS.Replace
import HandS.Deep
import PyProof.Rows.StrMul
import PyProof.Rows.StrJoinRep
import HandS.OwnEq
import HandS.Gcd
import HandS.Wide
import HandS.WideMore
import HandS.FStr
import HandS.Defaults
import PyProof.EqKinds
import PyProof.TwoTypes
import KE.KCallOwn
import PyProof.InstEq
import HandS.ExcOwn
import HandS.NoneIn
import HandS.HeadHook1
import HandS.HeadHook2
import HandS.Lambda
import HandS.EndTab
import KE.KStateDown
import Lean
import HandS.Head0
import HandS.Head1
import HandS.Head2
import HandS.HeadEnd
import HandS.HeadHook4
import HandS.Head3
import PySem.Challenge.RW_lettertrees_k24_ratios
set_option Elab.async false
set_option linter.all false
set_option maxRecDepth 100000
set_option maxHeartbeats 0
/-! ### calls of an own exception class with keywords: the boot's __new__ takes any, the own __init__ gets them -/
namespace K0
open PySem PySem.W PySem.Calls PySem.HandSPX
section
variable {M : Model} {A : Around} {E : Value → Shared → Prop} {h : Heap} {g : Array GenState} {d : Drawn} {t : Nat} {os : OsState}
variable {nm q : Str} {C N : Addr} {bs bm bmB : List Value} {hdct : Bool} {sn : List Str} {sub : List Value} {ab : Bool} {col : Option Bool} {dd : Option Addr}
variable {k0 k1 k2 k3 k5 : Option Value} {B newId initId : String}

theorem kw_check_new (F : ExcBaseFacts B newId initId bmB) (hT : ∀ X : String, bm.contains (.type X) = bmB.contains (.type X)) {rest : List Value} {kw : List (Str × Value)} {Q : Unit → Shared → Prop}
    (hC : h.get? C = some (excClassObj nm q C N bs bm hdct sn sub ab col dd k0 k1 k2 k3 k5 newId)) (hq : Q () ⟨h, g, d, t, os⟩) :
    wpAny M A (checkBuiltinCall newId ⟨.ref C :: rest, kw⟩) Q E ⟨h, g, d, t, os⟩ := by
  have hB : (Value.ref C :: bm).contains (.type B) = true := by
    rw [List.contains_cons, hT, F.hasB, Bool.or_true]
  have hs := F.noStar
  simp only [checkBuiltinCall, F.newKind, F.newSplit, F.newRow]
  repeat
    first
    | refine wpAny_loadPart_at hC ?_
    | (refine wpAny_isSubtype_exc hC ?_
       rw [hB])
    | refine wpAny_staticBase_exc hC ?_
    | refine wpAny_madeBy_exc hC ?_
    | simp only [bne_self_eq_false, Bool.false_eq_true, if_false]
    | wp_step
  exact hq
end
section
variable {prog : Program} {w : World} {A : Around} {E : Value → Shared → Prop} {R : Result → Shared → Prop} {h : Heap} {g : Array GenState} {d : Drawn} {t : Nat} {os : OsState}
variable {nm q : Str} {C N : Addr} {bs bm bmB : List Value} {hdct : Bool} {sn : List Str} {sub : List Value} {ab : Bool} {col : Option Bool} {dd : Option Addr}
variable {k0 k1 k2 k3 k5 : Option Value} {B newId initId : String}

/-- the heap with a new exception of the class at C, its args behind it -/
abbrev twoMore (h : Heap) (C : Addr) (rest : List Value) : Heap := (h.push (W.kdv_tup rest)).push (excO C h.objs.size)

theorem kw_new (F : ExcBaseFacts B newId initId bmB) (hT : ∀ X : String, bm.contains (.type X) = bmB.contains (.type X)) {rest : List Value} {kw : List (Str × Value)}
    (hC : h.get? C = some (excClassObj nm q C N bs bm hdct sn sub ab col dd k0 k1 k2 k3 k5 newId))
    (hq : R (.ok (.ret (.ref (h.objs.size + 1)))) ⟨twoMore h C rest, g, d, t, os⟩) (hz : rest.length ≤ sizeLine) :
    codeAny (model prog w) A (.builtin newId ⟨.ref C :: rest, kw⟩) R ⟨h, g, d, t, os⟩ := by
  have e0 := F.ends
  have cB : (Value.ref C :: bm).contains (.type B) = true := by
    rw [List.contains_cons, hT, F.hasB, Bool.or_true]
  have cA : (Value.ref C :: bm).contains (.type "AttributeError") = false := by
    rw [List.contains_cons, hT, F.noAttr] <;> rfl
  have cN : (Value.ref C :: bm).contains (.type "NameError") = false := by
    rw [List.contains_cons, hT, F.noName] <;> rfl
  refine codeAny_builtinAt F.entry ?_
  unfold Builtin.«BaseException.__new__»
  refine wpAt_bind ?_
  show wpAt _ _ _ (stack >>= _) _ _ _
  refine wpAt_bind (wpAt_stack fun p below => wpAt_of_wpAny ?_)
  wp_walk
  refine wpAt_of_wpAny ?_
  rw [F.owner]
  repeat
    first
    | with_reducible refine wpAny_madeHere_exc F.canon hC ?_
    | with_reducible refine wpAny_loadPart_at hC ?_
    | (with_reducible refine wpAny_isSubtype_exc hC ?_
       first | rw [cB] | rw [cA] | rw [cN])
    | wp_step
  show R _ _
  rw [Heap.size_push]
  exact hq

theorem kw_typeCall (F : ExcBaseFacts B newId initId bmB) (hT : ∀ X : String, bm.contains (.type X) = bmB.contains (.type X)) {rest : List Value} {kw : List (Str × Value)} {fI : Addr} {Q : Fin → Shared → Prop}
    (hC : h.get? C = some (excClassObj nm q C N bs bm hdct sn sub ab col dd k0 k1 k2 k3 k5 newId))
    (hi : W.Looks (model prog w) h (typeLookup (.ref C) "__init__") (some (.ref fI))) (hb : ∀ self, W.Looks (model prog w) h (bindSpecial (.ref fI) self) (.ref fI, [self])) (hz : rest.length ≤ sizeLine)
    (hq : codeAny (model prog w) A (.call (.ref fI) ⟨.ref (h.objs.size + 1) :: rest, kw⟩)
      (fun r s' => match r with | .ok (.ret v) => v = .none ∧ Q (.done (.ret (.ref (h.objs.size + 1)))) s' | .ok _ => False | .error e => E e s') ⟨twoMore h C rest, g, d, t, os⟩) :
    wpAny (model prog w) A (Builtin.«type.__call__» ⟨.ref C :: rest, kw⟩) Q E ⟨h, g, d, t, os⟩ := by
  repeat
    first
    | with_reducible refine wpAny_loadPart_at hC ?_
    | with_reducible refine wpAny_madeBy_exc hC ?_
    | wp_step
  refine codeAny_call_builtin_code (Code.quiet_builtin _ F.quiet) (kw_check_new F hT hC ?_)
  refine kw_new F hT hC ?_ hz
  show wpAny _ _ _ _ _ _
  have k : ∀ b o, h.get? b = some o → (twoMore h C rest).get? b = some o := fun b o e => Heap.get?_push_of_some _ (Heap.get?_push_of_some _ e)
  have hC1 := k _ _ hC
  have hx : (twoMore h C rest).get? (h.objs.size + 1) = some (excO C h.objs.size) := by heap_get
  have cC : (Value.ref C :: bm).contains (.ref C) = true := by simp
  have i1 := hi.keeps k
  have b1 := (hb (.ref (h.objs.size + 1))).keeps k
  unfold isInstance
  repeat
    first
    | with_reducible refine wpAny_loadPart_at hx ?_
    | (with_reducible refine wpAny_isSubtype_exc hC1 ?_
       rw [cC])
    | wp_step
  show wpAny _ _ (typeLookup (.ref C) _) _ _ _
  refine i1.at ?_
  refine wpAny_holding (wpAny_bind (b1.at ?_))
  refine wpAny_bind (wpAny_call (codeAny_mono hq fun r s' z => ?_))
  cases r with
  | error e => exact z
  | ok f =>
    cases f with
    | ret v =>
      obtain ⟨rfl, z⟩ := z
      first
      | exact wpAny_pure (wpAny_pure z)
      | (wp_walk
         exact z)
    | next => exact z.elim
    | brk => exact z.elim
    | cont => exact z.elim

theorem kw_checkCall {M : Model} {rest : List Value} {kw : List (Str × Value)} {Q : Unit → Shared → Prop} (hC : h.get? C = some (excClassObj nm q C N bs bm hdct sn sub ab col dd k0 k1 k2 k3 k5 newId))
    (hq : Q () ⟨h, g, d, t, os⟩) : wpAny M A (checkBuiltinCall "type.__call__" ⟨.ref C :: rest, kw⟩) Q E ⟨h, g, d, t, os⟩ := by
  have e3 := tc_sub
  have ty : (⟨h, g, d, t, os⟩ : Shared).TypeIs (.ref C) "type" := ⟨_, hC, rfl⟩
  simp only [checkBuiltinCall, tc_kind, tc_split]
  repeat (any_goals (first
    | assumption
    | with_reducible refine wpAny_loadPart_at hC ?_
    | with_reducible refine wpAny_onRaise ?_
    | with_reducible refine wpAny_map ?_
    | wp_step))

theorem kw_call (F : ExcBaseFacts B newId initId bmB) (hT : ∀ X : String, bm.contains (.type X) = bmB.contains (.type X)) {rest : List Value} {kw : List (Str × Value)} {fI : Addr}
    (hC : h.get? C = some (excClassObj nm q C N bs bm hdct sn sub ab col dd k0 k1 k2 k3 k5 newId))
    (hi : W.Looks (model prog w) h (typeLookup (.ref C) "__init__") (some (.ref fI))) (hb : ∀ self, W.Looks (model prog w) h (bindSpecial (.ref fI) self) (.ref fI, [self])) (hz : rest.length ≤ sizeLine)
    (hq : codeAny (model prog w) (A.under (.builtin "type.__call__" ⟨.ref C :: rest, kw⟩)) (.call (.ref fI) ⟨.ref (h.objs.size + 1) :: rest, kw⟩) (W.InitBack (h.objs.size + 1) R) ⟨twoMore h C rest, g, d, t, os⟩) :
    codeAny (model prog w) A (.call (.ref C) ⟨rest, kw⟩) R ⟨h, g, d, t, os⟩ := by
  have f1 := tc_lookup
  have f2 := tc_bind (.ref C)
  have ty : (⟨h, g, d, t, os⟩ : Shared).TypeIs (.ref C) "type" := ⟨_, hC, rfl⟩
  refine codeAny_of_tree ?_
  show wpAny _ _ (callAny (.ref C) _) _ _ _
  repeat (any_goals (first
    | assumption
    | with_reducible refine wpAny_loadPart_at hC ?_
    | wp_step))
  refine ⟨rfl, ?_⟩
  refine codeAny_call_builtin_at (Code.quiet_builtin _ (by decide +kernel)) entry_typeCall (kw_checkCall hC (kw_typeCall F hT hC hi hb hz ?_))
  refine codeAny_mono hq fun r s' z => ?_
  cases r with
  | error e => exact z
  | ok f => cases f <;> exact z
end
end K0
namespace K0
open PySem PySem.Spec PyProof.Rows L2
abbrev St := L2.St
section
variable {X : Cx} {pins : List (Addr × Obj)} {σ : St} {H H' : Hp} {s : Shared}
/-- things told by what is true of their one object may be forgotten -/
theorem forget (I : Inv X pins σ H' s) (sub : ∀ b o, H b = some o → H' b = some o) (ext : ∀ b o, H' b = some o → H b = some o ∨ ∃ φ, o = HO.ext φ) : Inv X pins σ H s := by
  have fr : ∀ b, H' b = none → H b = none := fun b n => by
    cases q : H b with
    | none => rfl
    | some o =>
      rw [sub b o q] at n
      cases n
  have back : ∀ b o, H' b = some o → (∀ φ, o ≠ HO.ext φ) → H b = some o := fun b o q n => by
    rcases ext b o q with z | ⟨φ, z⟩
    · exact z
    · exact absurd z (n φ)
  refine ⟨I.ok, I.os, I.bare, ⟨I.base.keep, I.base.slot, fun b o e n hx => fr b (I.base.free b o e n hx), I.base.there, fun b xs q => ?_, fun b o u q => ?_, fun b ps q => ?_⟩, I.loc, I.cell, fr _ I.free, fun x c e => fr c (I.freeC x c e), fun p hp => ?_, fun b o q => ?_, I.len⟩
  · exact back b _ (I.base.tups b xs q) (fun φ z => nomatch z)
  · exact back b _ (I.base.frzs b o u q) (fun φ z => nomatch z)
  · obtain ⟨m, z⟩ := I.base.tbls b ps q
    exact ⟨m, back b _ z (fun φ z => nomatch z)⟩
  · obtain ⟨h1, h2, h3, h4, h5⟩ := I.pin p hp
    exact ⟨h1, fr _ h2, h3, h4, h5⟩
  · exact (I.hok b o (sub b o q)).stay (fun c v _ z => z) (fun c z => back c _ z (fun φ z => nomatch z)) fun c xs z => back c _ z (fun φ z => nomatch z)
end

/-! ### an exception of an own class with its own __init__ -/
structure XCl (K : PySem.W.Frag) (C : Addr) : Prop where
  T : OexC K C
  ga : PySem.W.findIn K (.ref C) "__getattribute__" = some (some (.builtin "BaseException.__getattribute__"))
  gg : PySem.W.findIn K (.ref C) "__getattr__" = some none
  hd : PySem.W.hasDictIn K C = true
  ha : PySem.W.findIn K (.ref C) "__class__" = some (some (.builtin "object.__class__"))
  hn : PySem.W.specialIn K (.builtin "object.__class__") "__get__" = some (some (.builtin "getset_descriptor.__get__"))
  ht : PySem.W.takesIn K (.builtin "object.__class__") = some true
  hm : PySem.W.mroIn K C (.type "object") = some true
/-- the heap with an exception of C at a, its dict of the fields fs at dx -/
abbrev withX (H : Hp) (C a dx : Addr) (fs : List (Str × V)) : Hp := upd (upd H dx (exd dx fs)) a (exo a C (some dx))
/-- what such an __init__ does: the fields fs get the arguments -/
def spX (C : Addr) (fs : List Str) : Sp := fun vs H Q _ => ∃ (a : Addr) (ys : List V), vs = .ref a :: ys ∧ ys.length = fs.length ∧ H a = some (exo a C none) ∧
  ∀ dx, H dx = none → dx ≠ a → Q .non (withX H C a dx (fs.zip ys).reverse)
theorem withX_sub {H : Hp} {C a dx : Addr} {fs : List (Str × V)} (ha : H a = none) (hd : H dx = none) : ∀ b o, H b = some o → withX H C a dx fs b = some o := fun b o e => by
  show upd (upd H dx _) a _ b = some o
  rw [upd_ne (ne_of_none e ha), upd_ne (ne_of_none e hd)]
  exact e
theorem withX_ext {H : Hp} {C a dx : Addr} {fs : List (Str × V)} : ∀ b o, withX H C a dx fs b = some o → H b = some o ∨ ∃ φ, o = HO.ext φ := fun b o e => by
  have e' : upd (upd H dx (exd dx fs)) a (exo a C (some dx)) b = some o := e
  by_cases hb : b = a
  · subst hb
    rw [upd_same] at e'
    exact .inr ⟨_, (Option.some.inj e').symm⟩
  · rw [upd_ne hb] at e'
    by_cases hd : b = dx
    · subst hd
      rw [upd_same] at e'
      exact .inr ⟨_, (Option.some.inj e').symm⟩
    · rw [upd_ne hd] at e'
      exact .inl e'
section
variable {X : Cx} {k : Nat} {f C : Addr} {fd : FuncData} {ps : List Str} {sp : Sp}
theorem run_mx {pins : List (Addr × Obj)} {σ : St} {H : Hp} {s : Shared} {Q : VK} {us args : List Value} {kw : List (Str × Value)} {vs : List V} (T : OexC X.K C) (iC : PySem.W.findIn X.K (.ref C) "__init__" = some (some (.ref f)))
    (tI : PySem.W.typeIn X.K (.ref f) = some (.type "function")) (F : FnOk X.prog X.w X.K X.mg X.base CX0 k f fd ps sp) (hr : Room (k + 1) X.A)
    (hb : ∀ (s : Shared) (self : Value), X.K.In s.heap → BindsTo s fd ⟨self :: us, kw⟩ (ps.zip (self :: args))) (I : Inv X pins σ H s) (hz : us.length ≤ sizeLine) (r : Vals vs args)
    (h : ∀ a, H a = none → sp (.ref a :: vs) (upd H a (exo a C none)) (fun v H2 => v = .non ∧ Q (.ref a) H2) E0) :
    wpAny (model X.prog X.w) X.A (call (.ref C) us kw) (EP X pins σ Q) X.xe s := by
  obtain ⟨nm, q, N, bs, bm, sn, sub, ab, col, dd, k0, k1, k2, k3, k5, hC, hbm⟩ := T.cls
  obtain ⟨hp, g, dr, tk, os⟩ := s
  have up : hp.objs.size ≤ hp.objs.size + 1 := Nat.le_succ _
  have hq := h (hp.objs.size + 1) (I.hok.fresh up)
  have keep : ∀ b o, hp.get? b = some o → (twoMore hp C us).get? b = some o := fun b o e => Heap.get?_push_of_some _ (Heap.get?_push_of_some _ e)
  have there : (twoMore hp C us).get? (hp.objs.size + 1) = some (PySem.HandSPX.excO C hp.objs.size) := by heap_get
  have I2 : Inv X pins σ (upd H (hp.objs.size + 1) (exo (hp.objs.size + 1) C none)) ⟨twoMore hp C us, g, dr, tk, os⟩ := I.laid (t' := tk) keep up (exo_ok there)
  have r2 : Vals (V.ref (hp.objs.size + 1) :: vs) (Value.ref (hp.objs.size + 1) :: args) := .cons rfl r
  refine wpAny_call (kw_call PySem.F.excBase_ValueError (fun Y => PySem.HandSPX.refsVE_contains Y bm hbm) (I.kIn _ _ hC) (PySem.W.looks_findIn I.kIn iC) (fun self => PySem.W.bind_fn I.kIn self tI) hz
    (codeAny_mono (F.run _ X.stack _ _ ⟨Value.ref (hp.objs.size + 1) :: us, kw⟩ _ _ _ E0 (hr.make C us kw) (I2.env0.make C us kw) (hb _ _ I2.kIn) r2 hq) fun r s' hq' => ?_))
  cases r with
  | error er => exact hq'.elim
  | ok fl =>
    cases fl with
    | ret u =>
      obtain ⟨v, H3, I3, rv, ev, q3⟩ := I2.after hq'
      subst ev
      exact ⟨rv, ⟨V.ref (hp.objs.size + 1), H3, I3, rfl, q3⟩⟩
    | next => exact False.elim hq'
    | brk => exact False.elim hq'
    | cont => exact False.elim hq'
/-- the class made, its fields kept: as a value -/
theorem run_mv {fs : List Str} {pins : List (Addr × Obj)} {σ : St} {H : Hp} {s : Shared} {Q : VK} {us args : List Value} {kw : List (Str × Value)} {vs : List V} (T : OexC X.K C) (iC : PySem.W.findIn X.K (.ref C) "__init__" = some (some (.ref f)))
    (tI : PySem.W.typeIn X.K (.ref f) = some (.type "function")) (F : FnOk X.prog X.w X.K X.mg X.base CX0 k f fd ps (spX C fs)) (hr : Room (k + 1) X.A)
    (hb : ∀ (s : Shared) (self : Value), X.K.In s.heap → BindsTo s fd ⟨self :: us, kw⟩ (ps.zip (self :: args))) (I : Inv X pins σ H s) (hz : us.length ≤ sizeLine) (r : Vals vs args) (hl : vs.length = fs.length)
    (h : ∀ a dx, H a = none → H dx = none → dx ≠ a → Q (.ref a) (withX H C a dx (fs.zip vs).reverse)) :
    wpAny (model X.prog X.w) X.A (call (.ref C) us kw) (EP X pins σ Q) X.xe s := by
  refine run_mx T iC tI F hr hb I hz r fun a na => ⟨a, vs, rfl, hl, upd_same, fun dx nd ne => ⟨rfl, ?_⟩⟩
  have nd' : H dx = none := by
    rw [upd_ne ne] at nd
    exact nd
  have e : withX (upd H a (exo a C none)) C a dx (fs.zip vs).reverse = withX H C a dx (fs.zip vs).reverse := by
    funext b
    show upd (upd (upd H a _) dx _) a _ b = upd (upd H dx _) a _ b
    by_cases hb : b = a
    · rw [hb, upd_same, upd_same]
    · rw [upd_ne hb, upd_ne hb]
      by_cases hd : b = dx
      · rw [hd, upd_same, upd_same]
      · rw [upd_ne hd, upd_ne hd, upd_ne hb]
  rw [e]
  exact h a dx na nd' ne
end
end K0
namespace K0
open PySem PySem.Spec PyProof.Rows L2
section
variable {X : Cx} {k : Nat} {f C : Addr} {fd : FuncData} {ps : List Str} {fs : List Str} {x n : Str} {e : Expr} {es : List Expr} {ta : TA} {te : TE} {p pos pos' : Pos} {kws : List Keyword}
/-- what the top says of such a class and its __init__ -/
structure XMk (X : Cx) (x : Str) (C : Addr) (fs : List Str) : Prop where
  cl : XCl X.K C
  gC : X.mg x = some (.ref C)
  ini : ∃ f fd k, PySem.W.findIn X.K (.ref C) "__init__" = some (some (.ref f)) ∧ PySem.W.typeIn X.K (.ref f) = some (.type "function") ∧ FnOk X.prog X.w X.K X.mg X.base CX0 k f fd (("self" : Str) :: fs) (spX C fs) ∧ Room (k + 1) X.A ∧
    (∀ (s : Shared) (self : Value) (us : List Value), us.length = fs.length → BindsTo s fd ⟨self :: us, []⟩ ((("self" : Str) :: fs).zip (self :: us))) ∧
    (∀ (s : Shared) (self : Value) (us : List Value), us.length = fs.length → BindsTo s fd ⟨[self], fs.zip us⟩ ((("self" : Str) :: fs).zip (self :: us)))
/-- C(e, ..) : whatever is asked of the arguments and the heap there, the new exception stands behind it -/
structure PX (X : Cx) (e : Expr) (C : Addr) (fs : List Str) (ta : TA) : Prop where
  run : ∀ (pins : List (Addr × Obj)) (s : Shared) (σ : St) (H : Hp) (P : List V → Hp → Prop), Inv X pins σ H s → (ta σ H fun vs H1 => vs.length = fs.length ∧ vs.length ≤ 1000 ∧ P vs H1) →
    wpAny (model X.prog X.w) X.A (eval e X.env) (fun u s1 => ∃ (vs : List V) (H1 : Hp) (a dx : Addr), u = .ref a ∧ H1 a = none ∧ H1 dx = none ∧ dx ≠ a ∧ Inv X pins σ (withX H1 C a dx (fs.zip vs).reverse) s1 ∧ P vs H1) X.xe s
theorem us_small {vs : List V} {us : List Value} (r : Vals vs us) (h : vs.length ≤ 1000) : us.length ≤ sizeLine := by
  rw [← Paired.length r, sizeLine_eq]
  omega
theorem px_pos (M : XMk X x C fs) (hg : Gl X x) (ha : PA X (e :: es) ta) (hdb : (x == ("__debug__" : Str)) = false := by decide)
    (he : starEach (e :: es) X.env = (false, eval e X.env) :: starEach es X.env := by rfl) (hpl : (backTo pos (starEach es X.env)).any (·.1) = false := by rfl) :
    PX X (.Call (.Name x p) (e :: es) [] pos) C fs ta := by
  refine ⟨fun pins s σ H P I h => ?_⟩
  obtain ⟨f, fd, k, iC, tI, F, hr, b1, _⟩ := M.ini
  refine wpAny_Call_Name_kw (ld_glob I hg M.gC ?_ hdb)
  refine PySem.W.callWith_K (h₀ := X.base) I.ok.mod.kin M.cl.T.kC (thn (ha.run pos pins s σ H _ I h) fun us s1 ⟨vs, H1, I1, r, hl, hz, q⟩ => ⟨I1.kIn, ?_⟩) he hpl
  refine thn (run_mv (fs := fs) (Q := fun v H2 => ∃ a dx, v = .ref a ∧ H1 a = none ∧ H1 dx = none ∧ dx ≠ a ∧ H2 = withX H1 C a dx (fs.zip vs).reverse) M.cl.T iC tI F hr (fun s self _ => b1 s self us (r.length.symm.trans hl)) I1 (us_small r hz) r hl
    fun a dx na nd ne => ⟨a, dx, rfl, na, nd, ne, rfl⟩) fun u s2 ⟨v, H2, I2, rv, a, dx, ev, na, nd, ne, eH⟩ => ?_
  subst ev eH
  exact ⟨vs, H1, a, dx, rv, na, nd, ne, I2, q⟩
theorem px_kw (M : XMk X x C fs) (hg : Gl X x) (hkw : PK X kws ta) (hall : (backToKw pos (keywordEach kws X.env)).all (·.1.isSome) = true := by rfl) (hks : (backToKw pos (keywordEach kws X.env)).filterMap (·.1) = fs := by rfl)
    (hdb : (x == ("__debug__" : Str)) = false := by decide) (hpl : ((backTo pos (starEach [] X.env)).any (·.1) || (backToKw pos (keywordEach kws X.env)).any (·.1.isNone)) = false := by rfl) :
    PX X (.Call (.Name x p) [] kws pos) C fs ta := by
  refine ⟨fun pins s σ H P I h => ?_⟩
  obtain ⟨f, fd, k, iC, tI, F, hr, _, b2⟩ := M.ini
  refine wpAny_Call_Name_kw (ld_glob I hg M.gC ?_ hdb)
  refine PySem.W.callWith_KW0 (h₀ := X.base) I.ok.mod.kin M.cl.T.kC hall (thn (hkw.run pos pins s σ H _ I h) fun us s1 ⟨vs, H1, I1, r, hl, hz, q⟩ => ⟨I1.kIn, ?_⟩) hpl
  rw [hks]
  refine thn (run_mv (fs := fs) (us := []) (Q := fun v H2 => ∃ a dx, v = .ref a ∧ H1 a = none ∧ H1 dx = none ∧ dx ≠ a ∧ H2 = withX H1 C a dx (fs.zip vs).reverse) M.cl.T iC tI F hr (fun s self _ => b2 s self us (r.length.symm.trans hl)) I1 (Nat.zero_le _) r hl
    fun a dx na nd ne => ⟨a, dx, rfl, na, nd, ne, rfl⟩) fun u s2 ⟨v, H2, I2, rv, a, dx, ev, na, nd, ne, eH⟩ => ?_
  subst ev eH
  exact ⟨vs, H1, a, dx, rv, na, nd, ne, I2, q⟩
/-- C(e, ..) as a value -/
def tMx (C : Addr) (fs : List Str) (ta : TA) : TE := fun σ H Q => ta σ H fun vs H1 => vs.length = fs.length ∧ vs.length ≤ 1000 ∧ ∀ a dx, H1 a = none → H1 dx = none → dx ≠ a → Q (.ref a) (withX H1 C a dx (fs.zip vs).reverse)
theorem pe_mx (h : PX X e C fs ta) : PE X e (tMx C fs ta) := by
  refine ⟨fun pins s σ H Q I h0 => thn (h.run pins s σ H _ I h0) fun u s1 hh => ?_⟩
  obtain ⟨vs, H1, a, dx, rfl, na, nd, ne, I1, q⟩ := hh
  exact ⟨.ref a, _, I1, rfl, q a dx na nd ne⟩
/-- C(e, ..).n: the exception itself is let go -/
def tFx (fs : List Str) (n : Str) (ta : TA) : TE := fun σ H Q => ta σ H fun vs H1 => vs.length = fs.length ∧ vs.length ≤ 1000 ∧ ∃ v, (fs.zip vs).reverse.lookup n = some v ∧ Q v H1
theorem pe_fx (cl : XCl X.K C) (hno : PySem.W.findIn X.K (.ref C) n = some none) (h : PX X e C fs ta) (hb : attributeBase e n X.env (eval e X.env) = eval e X.env := by rfl) : PE X (.Attribute e n pos) (tFx fs n ta) := by
  refine ⟨fun pins s σ H Q I h0 => attr_of hb (thn (h.run pins s σ H _ I h0) fun u s1 hh => ?_)⟩
  obtain ⟨vs, H1, a, dx, rfl, na, nd, ne, I1, v, l, q⟩ := hh
  have ea : withX H1 C a dx (fs.zip vs).reverse a = some (exo a C (some dx)) := upd_same
  have ed : withX H1 C a dx (fs.zip vs).reverse dx = some (exd dx (fs.zip vs).reverse) := (upd_ne ne).trans upd_same
  obtain ⟨t1, ho⟩ := exo_at I1.hok ea
  obtain ⟨mA, hns, rel⟩ := exd_at I1.hok ed
  obtain ⟨od, hd, hl⟩ := lookIn_ns hns
  obtain ⟨u, hu, ru⟩ := RelO.some_of (v := v) (o := mA n) (by rw [← l]; exact rel n)
  have J : PySem.W.InstAt s1.heap a _ C (some od) := ⟨ho, rfl, rfl, hd⟩
  exact PySem.HandSPX.exc_get I1.kIn J cl.ga cl.gg cl.T.exC (PySem.W.findObj_own cl.hd hno rfl (by rw [hl, hu])) (handed_of ru) ⟨v, H1, (forget I1 (withX_sub na nd) withX_ext).tok _, ru, q⟩
/-! ### C(), a class without an own __init__ -/
theorem pe_m0 {newId initId B : String} {bmB : List Value} (F : ExcBaseFacts B newId initId bmB) (q : PySem.W.excIn X.K C bmB newId = true) (gC : X.mg x = some (.ref C)) (kC : PySem.W.keepIn X.K (.ref C) = true) (hg : Gl X x) (hdb : (x == ("__debug__" : Str)) = false := by decide) :
    PE X (.Call (.Name x p) [] [] pos) (fun _ H Q => ∀ a, H a = none → Q (.ref a) (upd H a (exo a C none))) := by
  refine ⟨fun pins s σ H Q I h => ?_⟩
  refine wpAny_Call_Name_kw (ld_glob I hg gC ?_ hdb)
  refine PySem.W.callWith_K0 I.kIn kC ?_
  show wpAny _ _ (call (.ref C) []) _ _ _
  obtain ⟨bm, N, nm, qn, bs, hdct, sn, sub, ab, col, dd, k0, k1, k2, k3, k5, mN, hC, hN, hni, T⟩ := exc_obj I.kIn q
  refine wpAny_call_exc_subT F T hC hN hni (fun h' a hm => ?_) (Nat.zero_le _)
  have hn : H a = none := I.hok.gone hm.new
  obtain ⟨t, ht, _, _⟩ := hm.there
  exact ⟨.ref a, upd H a (exo a C none), I.laidN hm.keeps hm.new hn (exo_ok ht), rfl, h a hn⟩
/-! ### isinstance(e, c), e such an exception -/
def rIsx (K : PySem.W.Frag) : List V → Hp → VK → Prop := fun xs H Q => ∃ (a D : Addr) (c : V) (u : Value) (b : Bool), xs = [.ref a, c] ∧ ClsV c u ∧ XCl K D ∧ (H a = some (exo a D none) ∨ ∃ dx gs, H a = some (exo a D (some dx)) ∧ H dx = some (exd dx gs)) ∧
  PySem.W.kitOne K (.ref D) u = some b ∧ Q (.bl b) H
theorem call_isx : CallR X (.builtin "isinstance") (rIsx X.K) := by
  intro pins s σ H xs us Q I r h
  obtain ⟨a, D, c, u, b, rfl, k, cl, ha, e, q⟩ := h
  obtain ⟨u1, u2, rfl, r1, r2⟩ := vals2 r
  obtain rfl : u1 = Value.ref a := r1
  have e2 := k.eq r2
  subst e2
  have hc : (PySem.W.clsIn X.K D).isSome = true := by
    obtain ⟨cd, hcd, _⟩ := PySem.W.any_some cl.hd
    rw [hcd]
    rfl
  have J : ∃ ox od, PySem.W.InstAt s.heap a ox D od := by
    rcases ha with ha | ⟨dx, gs, ha, hd⟩
    · obtain ⟨t1, ho⟩ := exo_at I.hok ha
      exact ⟨_, none, ho, rfl, rfl, trivial⟩
    · obtain ⟨t1, ho⟩ := exo_at I.hok ha
      obtain ⟨mA, hns, rel⟩ := exd_at I.hok hd
      obtain ⟨od, hd, hl⟩ := lookIn_ns hns
      exact ⟨_, some od, ho, rfl, rfl, hd⟩
  obtain ⟨ox, od, J⟩ := J
  exact PySem.W.kia_one (PySem.W.kitx_exc (ox := ox) (od := od) hc cl.ga cl.gg cl.T.exC cl.ha cl.hn cl.ht cl.hm) I.kIn J e (fun z => nomatch z) fun tk => ⟨.bl b, H, I.tok tk, rfl, q⟩
end
/-! ### repr of data with empty dicts -/
mutual
inductive De (K : PySem.W.Frag) (H : Hp) : V → PyData → Prop
  | non : De K H .non .none
  | bl (b : Bool) : De K H (.bl b) (.bool b)
  | int (i : Int) : De K H (.int i) (.int i)
  | str (x : Str) : De K H (.str x) (.str x)
  | lst {a : Addr} {xs : List V} {ds : List PyData} : H a = some (.lst xs) → DeAll K H xs ds → De K H (.ref a) (.list ds)
  | tup {a : Addr} {xs : List V} {ds : List PyData} : H a = some (.tup xs) → DeAll K H xs ds → De K H (.ref a) (.tuple ds)
  | dic {a : Addr} : H a = some (.dK []) → De K H (.ref a) (.dict [])
inductive DeAll (K : PySem.W.Frag) (H : Hp) : List V → List PyData → Prop
  | nil : DeAll K H [] []
  | cons {v : V} {vs : List V} {d : PyData} {ds : List PyData} : De K H v d → DeAll K H vs ds → DeAll K H (v :: vs) (d :: ds)
end
section
variable {X : Cx} {pins : List (Addr × Obj)} {σ : St} {H : Hp} {s : Shared}
theorem off {a : Addr} {o : HO} (hs : H sysModules = none) (h : H a = some o) : sysModules ≠ a := fun e => by
  rw [← e, hs] at h
  cases h
mutual
theorem de_reads (I : Inv X pins σ H s) (hs : H sysModules = none) : ∀ (d : PyData) (v : V) (u : Value), De X.K H v d → RelV v u → ∃ as, Reads s.heap u d as ∧ sysModules ∉ as
  | .none, _, _, h, r => by
    cases h
    obtain rfl : _ = Value.none := r
    exact ⟨_, Reads.none, by simp⟩
  | .bool b, _, _, h, r => by
    cases h
    obtain rfl : _ = Value.bool b := r
    exact ⟨_, Reads.bool b, by simp⟩
  | .int i, _, _, h, r => by
    cases h
    obtain ⟨t, rfl⟩ := r
    exact ⟨_, Reads.int i t, by simp⟩
  | .str x, _, _, h, r => by
    cases h
    obtain ⟨t, rfl⟩ := r
    exact ⟨_, Reads.str x t, by simp⟩
  | .list ds, _, _, h, r => by
    cases h with
    | @lst a xs _ ha hd =>
      obtain rfl : _ = Value.ref a := r
      obtain ⟨_, its, n, rv, ho⟩ := (show ObjOk X.prog X.w H s.heap a (.lst xs) from I.hok a _ ha)
      obtain ⟨as, hr, hn⟩ := de_all I hs ds xs its hd rv
      refine ⟨_, Reads.list ho rfl rfl hr, fun z => ?_⟩
      rcases List.mem_cons.mp z with z | z
      · exact off hs ha z
      · exact hn z
  | .tuple ds, _, _, h, r => by
    cases h with
    | @tup a xs _ ha hd =>
      obtain rfl : _ = Value.ref a := r
      obtain ⟨_, its, rv, o, ho, hc, n, hd2⟩ := (show ObjOk X.prog X.w H s.heap a (.tup xs) from I.hok a _ ha)
      obtain ⟨as, hr, hn⟩ := de_all I hs ds xs its hd rv
      exact ⟨_, Reads.tuple ho hc hd2 hr, hn⟩
  | .dict _, _, _, h, r => by
    cases h with
    | @dic a ha =>
      obtain rfl : _ = Value.ref a := r
      obtain ⟨_, _, vs, rv, o, es, ep, ho, hx, hd, _, hp, _⟩ := (show ObjOk X.prog X.w H s.heap a (.dK []) from I.hok a _ ha)
      cases rv
      have e0 : es.toList = [] := by
        have z := hp.length
        exact List.eq_nil_of_length_eq_zero z
      refine ⟨_, Reads.dict (as := []) (bs := []) ho hx.1 hd (by rw [e0]; exact ReadsAll.nil) (by rw [e0]; exact ReadsAll.nil), fun z => ?_⟩
      simp at z
      exact off hs ha z
theorem de_all (I : Inv X pins σ H s) (hs : H sysModules = none) : ∀ (ds : List PyData) (vs : List V) (us : List Value), DeAll X.K H vs ds → Vals vs us → ∃ as, ReadsAll s.heap us ds as ∧ sysModules ∉ as
  | [], _, _, h, r => by
    cases h
    cases r
    exact ⟨_, ReadsAll.nil, by simp⟩
  | d :: ds, _, _, h, r => by
    cases h with
    | cons h1 h2 =>
      cases r with
      | cons r1 r2 =>
        obtain ⟨as, q1, n1⟩ := de_reads I hs d _ _ h1 r1
        obtain ⟨bs, q2, n2⟩ := de_all I hs ds _ _ h2 r2
        exact ⟨_, ReadsAll.cons q1 q2, fun z => (List.mem_append.mp z).elim n1 n2⟩
end
end
section
variable {X : Cx}
/-- repr(xs), xs a list of data -/
def rRep (K : PySem.W.Frag) : List V → Hp → VK → Prop := fun xs H Q => ∃ (a : Addr) (d : PyData), xs = [.ref a] ∧ De K H (.ref a) d ∧ d.showable = true ∧ d.depth ≤ 8 ∧ d.shown.length ≤ sizeLine ∧ Q (.str d.shown) H
theorem call_rep (hg : X.A.guards = some []) (hu : X.A.units + 64 < cLine) (hsys : ∃ o, X.K.lookup sysModules = some o) : CallR X (.builtin "repr") (rRep X.K) := by
  intro pins s σ H xs us Q I r h
  obtain ⟨a, d, rfl, hd, hsh, hdp, hz, q⟩ := h
  obtain ⟨oS, hoS⟩ := hsys
  have hs : H sysModules = none := (I.bs _ _ (I.ok.mod.kin _ _ hoS)).2
  obtain ⟨u, rfl, ru⟩ := vals1 r
  obtain rfl : u = Value.ref a := ru
  obtain ⟨as, hr, hn⟩ := de_reads I hs d _ _ hd rfl
  exact repr_of_reads' hr hsh (fun _ => hn) hg (by omega) (fun _ _ z => z) (fun h' t tk hk => ⟨.str d.shown, H, I.kept hk, ⟨t, rfl⟩, q⟩) hz
end
end K0
/-! ### sorted(xs, key=f), f's calls seen by an invariant of one's own; the keys are texts -/
namespace SK
open PySem PySem.W PySem.Calls PyProof.Rows
def IsText (v : Value) (k : Str) : Prop := ∃ t, v = .str k t
abbrev Texts (us : List Value) (ks : List Str) : Prop := EachIs IsText us ks
section
variable {prog : Program} {w : World} {A : Around} {E : Value → Shared → Prop} {s : Shared} {a kS : Addr} {b : Bool} {vs : List Value} {ks : List Str} {e1 : Nat} {P : PySem.Fin → Shared → Prop}
theorem texts_read {h : Heap} : ∀ {us : List Value} {ks : List Str}, Texts us ks → EachIs (fun v d => ∃ as, Reads h v d as) us (ks.map PyData.str)
  | _, _, .nil => .nil
  | _, _, .cons ⟨t, e⟩ r => .cons ⟨[], by rw [e]; exact .str _ t⟩ (texts_read r)
theorem alike_texts (ks : List Str) : AllAlike (ks.map PyData.str) := AllAlike.of fun x y => by simp [alike]
theorem sortable_texts (ks : List Str) : Sortable (ks.map PyData.str) := Sortable.others fun x => ⟨(nomatch ·), fun xs => (nomatch ·)⟩
/-- what an invariant J of the sort has to tell -/
structure ByJ (prog : Program) (w : World) (A : Around) (a kS : Addr) (e1 : Nat) (f : Value) (vs : List Value) (ks : List Str) (J : Nat → Shared → Prop) : Prop where
  is : ∀ i s, J i s → ∃ kA e, s.heap.get? kS = some (seqObj "list" kA e) ∧ Texts kA.toList (ks.take i) ∧ s.heap.get? a = some (seqObj "list" #[] e1)
  turn : ∀ (i : Nat) (v : Value) (k : Str), vs[i]? = some v → ks[i]? = some k → ∀ s, J i s → wpAny (model prog w) A (call f [v]) (fun u s2 => IsText u k ∧ ∃ kA e, s2.heap.get? kS = some (seqObj "list" kA e) ∧ Texts kA.toList (ks.take i) ∧
    ∀ h3 e3, Heap.SameBut kS s2.heap h3 → h3.get? kS = some (seqObj "list" (kA.push u) e3) → J (i + 1) { s2 with heap := h3 }) (fun _ _ => False) s
theorem rest_by {f : Value} {J : Nat → Shared → Prop} (B : ByJ prog w A a kS e1 f vs ks J) (hka : kS ≠ a) (hlen : ks.length = vs.length) (hZ : vs.length ≤ sizeLine) (hu : A.units < cLine) (j0 : J 0 s)
    (h : ∀ s' h' tk out c, J vs.length s' → (∀ b o, b ≠ a → b ≠ kS → s'.heap.get? b = some o → h'.get? b = some o) → h'.get? a = some (seqObj "list" (List.toArray out) c) → KeyedOut b (ks.map PyData.str) vs out → P (.done (.ret .none)) { s' with heap := h', toks := tk }) :
    wpAny (model prog w) A (ksk_rest a f b vs.toArray e1 (.ref kS)) P E s := by
  unfold ksk_rest
  refine wpAny_bind (wpAny_rule ?_)
  first
    | rw [List.forIn_toArray]
    | (rw [← Array.forIn_toList]; simp only [List.toList_toArray])
  refine wpAny_bind (ksk_fold J vs 0 s j0 (fun j x s' hx hJ => ?_) fun s' hJ => ?_)
  · rw [Nat.zero_add] at hJ ⊢
    have hj : j < vs.length := (List.getElem?_eq_some_iff.mp hx).1
    obtain ⟨k, hkj⟩ : ∃ k, ks[j]? = some k := ⟨_, List.getElem?_eq_getElem (by omega)⟩
    refine wpAny_bind (wpAny_attempt (wpAny_mono (B.turn j x k hx hkj s' hJ) (fun u s2 q => ?_) fun _ _ z => z.elim))
    obtain ⟨ht, kA, e, nk, tx, go⟩ := q
    dsimp only
    have hz : kA.size ≤ vs.length := by
      have z := tx.length
      rw [Array.length_toList, List.length_take] at z
      omega
    have hz2 : kA.size ≤ sizeLine := Nat.le_trans hz hZ
    obtain ⟨c2, hc2⟩ : ∃ c2, (s2.heap.update kS (Obj.mapSeq (·.push u))).get? kS = some (seqObj "list" (kA.push u) c2) := ⟨_, get?_update_seq nk (·.push u)⟩
    refine wpAny_bind (listUpdate_at nk rfl ?_ hz2 (by rw [Array.size_push]; omega))
    exact wpAny_pure ⟨rfl, go _ c2 (Heap.SameBut.update s2.heap kS (Obj.mapSeq (·.push u))) hc2⟩
  · rw [Nat.zero_add] at hJ
    obtain ⟨kA, e, nk, tx, na⟩ := B.is _ _ hJ
    refine wpAny_bind (listItems_at nk rfl ?_)
    obtain ⟨G, g1, g2⟩ := L2.restrict s'.heap fun b => decide (b ≠ kS)
    have gs : ∀ b o, G.get? b = some o → s'.heap.get? b = some o := fun b o q => by
      by_cases hb : b = kS
      · rw [hb, g2 kS (decide_eq_false fun z => z rfl)] at q
        cases q
      · rw [← g1 b (decide_eq_true hb)]
        exact q
    have et : ks.take vs.length = ks := List.take_of_length_le (by omega)
    rw [et] at tx
    have er := texts_read (h := s'.heap) tx
    have hsz : kA.size = vs.length := by
      have z := tx.length
      rw [Array.length_toList] at z
      omega
    refine keyH_end (h₁ := G) (κ := dataKind s'.heap (ks.map PyData.str)) (fun b o _ q => gs b o q) (g2 kS (decide_eq_false fun z => z rfl)) nk na hka (SortsAt.data er (alike_texts ks) (sortable_texts ks) fun d hd => ?_) hsz hZ fun h' tk c kp hA => ?_
    · obtain ⟨x, _, rfl⟩ := List.mem_map.mp hd
      simp only [PyData.depth]
      omega
    · exact h s' h' tk _ c hJ (fun b o n1 n2 q => kp b o n1 (by rw [g1 b (decide_eq_true n2)]; exact q)) hA ⟨s'.heap, kA.toList, alike_texts ks, rfl, er⟩
theorem sorted_by {β : Type} {R : Value → β → Prop} {l : Addr} {f : Value} {kw : List (Str × Value)} {Q : Value → Shared → Prop} {bs : List β} (key : β → Str) (hl : s.heap.IsList l vs.toArray) (er : EachIs R vs bs) (hZ : bs.length ≤ sizeLine) (hu : A.units + 2 < cLine) (ha1 : argsOk "sorted" ⟨[.ref l], kw⟩)
    (ha2 : ∀ x, argsOk "list.sort" ⟨[.ref x], kw⟩) (ht : ∀ x, Builtin.«list.sort» ⟨[.ref x], kw⟩ = ksk_tree x f b)
    (go : ∀ (a kS : Addr) (e1 : Nat) (h0 : Heap), (∀ b o, s.heap.get? b = some o → h0.get? b = some o) → s.heap.objs.size ≤ a → s.heap.objs.size ≤ kS → kS ≠ a → h0.get? kS = some (seqObj "list" #[] 0) → h0.get? a = some (seqObj "list" #[] e1) →
      ∃ J : Nat → Shared → Prop, ByJ prog w A.in1.in1 a kS e1 f vs (bs.map key) J ∧ J 0 { s with heap := h0 } ∧
        ∀ s' h' tk out c, J vs.length s' → (∀ b o, b ≠ a → b ≠ kS → s'.heap.get? b = some o → h'.get? b = some o) → h'.get? a = some (seqObj "list" (List.toArray out) c) → out.length = bs.length → EachIs R out (bs.mergeSort (dataLe b fun x => .str (key x))) → Q (.ref a) { s' with heap := h', toks := tk }) :
    wpAny (model prog w) A (call (.builtin "sorted") [.ref l] kw) Q E s := by
  refine sorted_of_sort hl (by rw [er.length]; exact hZ) ha1 ha2 fun E' => ?_
  rw [ht]
  have at0 := copyHeap_at s.heap vs
  generalize ha : s.heap.objs.size + 1 = a at at0 ⊢
  have old : ∀ b o, s.heap.get? b = some o → (copyHeap s.heap vs).get? b = some o := fun b o q => copyHeap_old q
  have hsa : a < (copyHeap s.heap vs).objs.size := Heap.lt_size at0
  generalize copyHeap s.heap vs = h1 at at0 old hsa ⊢
  obtain ⟨e1, ho1⟩ : ∃ e1, (h1.update a (Obj.mapSeq fun _ => (#[] : Array Value))).get? a = some (seqObj "list" #[] e1) := ⟨_, get?_update_seq at0 fun _ => #[]⟩
  have hkS : ((h1.update a (Obj.mapSeq fun _ => (#[] : Array Value))).push (seqObj "tuple" vs.toArray 0)).objs.size = h1.objs.size + 1 := by
    rw [size_push', Heap.size_update]
  unfold ksk_tree
  refine wpAny_bind (listItems_at at0 rfl ?_)
  refine wpAny_bind (listUpdate_at at0 rfl ?_ (by rw [List.size_toArray, er.length]; exact hZ) (Nat.zero_le _))
  refine wpAny_bind (seqEpoch_at ho1 rfl ?_)
  refine wpAny_bind (wpAny_newTuple ?_ (by show vs.length ≤ _; rw [er.length]; exact hZ))
  refine wpAny_bind (wpAny_newList ?_ (Nat.zero_le _))
  refine wpAny_holding ?_
  rw [hkS]
  have nka : h1.objs.size + 1 ≠ a := by omega
  have za : s.heap.objs.size ≤ a := by omega
  have zk : s.heap.objs.size ≤ h1.objs.size + 1 := by omega
  have nba : ∀ b o, s.heap.get? b = some o → b ≠ a := fun b o q => Nat.ne_of_lt (Nat.lt_of_lt_of_le (Heap.lt_size q) za)
  obtain ⟨J, B, j0, fin⟩ := go a (h1.objs.size + 1) e1 (((h1.update a (Obj.mapSeq fun _ => (#[] : Array Value))).push (seqObj "tuple" vs.toArray 0)).push (seqObj "list" #[] 0))
    (fun b o q => Heap.get?_push_of_some _ (Heap.get?_push_of_some _ (((Heap.SameBut.update h1 a (Obj.mapSeq fun _ => (#[] : Array Value))).2 b (nba b o q)).trans (old b o q)))) za zk nka
    (by rw [← hkS]; exact Heap.get?_push_size _ rfl) (Heap.get?_push_of_some _ (Heap.get?_push_of_some _ ho1))
  refine rest_by B nka (by rw [List.length_map]; exact er.length.symm) (by rw [er.length]; exact hZ) (by show A.units + 1 + 1 < cLine; omega) j0 fun s' h' tk out c hJ kp hA ko => ⟨rfl, ?_⟩
  have em : (bs.map key).map PyData.str = bs.map fun x => PyData.str (key x) := by
    rw [List.map_map]
    rfl
  rw [em] at ko
  exact fin s' h' tk out c hJ kp hA ((ko.length (by rw [List.length_map]; exact er.length.symm)).trans er.length) (keyedOut_each (fun x => PyData.str (key x)) ko er)
end
end SK
/-! ### sorted(e, key=lambda x: body), e a list of texts, x's key a text -/
namespace SK
open PySem PySem.Spec PyProof.Rows L2 LamX NdefX
abbrev St := L2.St
abbrev CX0 := C8.CX0
abbrev E0 := C8.E0
section
variable {CX : CXT} {P : Program} {w : World} {K : PySem.W.Frag} {mg : Str → Option Value} {base : Heap} {N ps fr : List Str} {F : NF} {f : Addr} {A : Around} {outer : List Env} {s : Shared} {H : Hp} {E : XK} {us : List Value} {vs : List V} {ws : List (Option V)} {k : Nat} {body : Expr} {tb : TE} {Q : VK} {pm ctv : Value}
/-- a lambda with parameters is called -/
theorem lam_run (S : NScope N ps fr F.scope) (hbind : bindArgs (PySem.W.kla_fn F.name F.qual F.params body F.scope F.cl pm (.ref F.c) ctv) ⟨us, []⟩ = pure (ps.zip us)) (ho : s.heap.get? f = some (PySem.W.kla_obj F.name F.qual F.params body F.scope F.cl pm F.c ctv))
    (hco : H F.c = some (CodeO F.c F.qual)) (hr : Room (k + 1) A) (e0 : Env0 P w K mg base A outer s H) (C : CellsAt F.cl fr ws s.heap H) (r : Vals vs us) (hl : vs.length = ps.length) (hbody : PE (ncx CX P w K mg base N F f A outer s H E) body tb)
    (hq : tb (startF N vs ws) H Q) : codeAny (model P w) A (.call (.ref f) ⟨us, []⟩) (CR CX outer P w H s Q E) s := by
  have lim : s.heap.NoLimit := e0.mod.nolimit.keeps fun b o e => (e0.bs b o e).1
  refine PySem.W.kla_callFunE hr.depth ho rfl S.co S.gen rfl (codeO_at e0.hok hco) ?_
  rw [hbind]
  refine wpAny_pure (wpAny_newFunctionEnv S.nocell (fun ⟨n, _⟩ hy => S.par n (List.of_mem_zip hy).1) (fun h₁ hns hsb => ⟨lim.fresh _ hsb, ?_⟩) S.kind)
  show codeAny _ _ (.expr body (envF F f s.heap.objs.size)) _ _
  have kp : ∀ b o, s.heap.get? b = some o → h₁.get? b = some o := fun b o e => hsb.extBut b o (Nat.ne_of_lt (Heap.lt_size e)) (Heap.get?_push_of_some _ e)
  have J := inv_startN (CX := CX) (f := f) (E := E) (tk := s.toks + (ps.zip us).length) S hr.hd e0 hl r C hns kp
  refine PySem.W.kla_codeExpr (wpAny_mono (hbody.run [] _ _ H Q J hq) (fun v s' hs => ?_) fun e s' hs => hs)
  obtain ⟨x, H', J', rv, q⟩ := hs
  exact ⟨x, H', J'.os, J'.bare, J'.base, J'.hok, rv, q⟩
end
/-- what the sort knows of its two lists -/
def aO (a : Addr) (e1 : Nat) : HO := .ext fun h => h.get? a = some (seqObj "list" #[] e1)
def kO (kS : Addr) (ks : List Str) : HO := .ext fun h => ∃ kA e, h.get? kS = some (seqObj "list" kA e) ∧ Texts kA.toList ks
theorem aO_ok {P : Program} {w : World} {H : Hp} {h : Heap} {a : Addr} {e1 : Nat} (q : h.get? a = some (seqObj "list" #[] e1)) : ObjOk P w H h a (aO a e1) := ⟨q, ⟨_, q⟩, fun h1 h2 z st => st _ z⟩
theorem kO_ok {P : Program} {w : World} {H : Hp} {h : Heap} {a : Addr} {ks : List Str} {kA : Array Value} {e : Nat} (q : h.get? a = some (seqObj "list" kA e)) (t : Texts kA.toList ks) : ObjOk P w H h a (kO a ks) :=
  ⟨⟨kA, e, q, t⟩, ⟨_, q⟩, fun h1 h2 ⟨k1, e1, z, t1⟩ st => ⟨k1, e1, st _ z, t1⟩⟩
theorem aO_at {P : Program} {w : World} {H : Hp} {h : Heap} {a : Addr} {e1 : Nat} (x : HOk P w H h) (e : H a = some (aO a e1)) : h.get? a = some (seqObj "list" #[] e1) := (x a _ e).1
theorem kO_at {P : Program} {w : World} {H : Hp} {h : Heap} {a : Addr} {ks : List Str} (x : HOk P w H h) (e : H a = some (kO a ks)) : ∃ kA e, h.get? a = some (seqObj "list" kA e) ∧ Texts kA.toList ks := (x a _ e).1
theorem vals_texts : ∀ {ws : List Str} {us : List Value}, Vals (ws.map V.str) us → Texts us ws
  | [], [], _ => .nil
  | [], _ :: _, h => by cases h
  | _ :: _, [], h => by cases h
  | w :: ws, u :: us, h => by
    cases h with
    | cons h1 h2 => exact .cons h1 (vals_texts h2)
theorem texts_vals : ∀ {us : List Value} {ws : List Str}, Texts us ws → Vals (ws.map V.str) us
  | _, _, .nil => .nil
  | _, _, .cons h1 h2 => .cons h1 (texts_vals h2)
theorem each_get {α β : Type} {R : α → β → Prop} : ∀ {us : List α} {ws : List β}, PySem.W.EachIs R us ws → ∀ {i : Nat} {u : α} {x : β}, us[i]? = some u → ws[i]? = some x → R u x
  | _, _, .nil, i, u, x, h, _ => by simp at h
  | _, _, .cons r t, 0, u, x, h1, h2 => by
    simp at h1 h2
    subst h1 h2
    exact r
  | _, _, .cons r t, i + 1, u, x, h1, h2 => each_get t (by simpa using h1) (by simpa using h2)
theorem texts_snoc {us : List Value} {ks : List Str} {u : Value} {k : Str} : Texts us ks → IsText u k → Texts (us ++ [u]) (ks ++ [k])
  | .nil, h => .cons h .nil
  | .cons a t, h => .cons a (texts_snoc t h)
/-- the reading, behind the list: its words, the key of each by the lambda's body, then the new list in their order -/
def sTail (K : PySem.W.Frag) (T : List (Addr × Str)) (H0 : Hp) (N : List Str) (js : List Nat) (tb : TE) (σ : St) (Q : VK) (x : V) (H1 : Hp) : Prop := ∃ (l : Addr) (ws : List Str) (key : Str → Str), x = .ref l ∧ SqL K H1 l (ws.map V.str) ∧ Tabs T H1 ∧ ExtN H0 H1 ∧
  ∀ H2, ExtN H1 H2 → Tabs T H2 → (∀ y ∈ ws, ∀ H3, Same H2 H3 → tb (startF N [.str y] (js.map (slotAt σ))) H3 fun v H4 => v = .str (key y) ∧ Same H3 H4) ∧
    ∀ H5 p, H2 p = none → Same H2 H5 → H5 p = some (.lst ((ws.mergeSort (PySem.W.dataLe false fun x => .str (key x))).map V.str)) → Q (.ref p) H5
def tSort (K : PySem.W.Frag) (T : List (Addr × Str)) (H0 : Hp) (N : List Str) (js : List Nat) (te tb : TE) : TE := fun σ H Q => te σ H (sTail K T H0 N js tb σ Q)
theorem extN_seq {K : PySem.W.Frag} {H H' : Hp} {l : Addr} {xs : List V} (e : ExtN H H') (h : SqL K H l xs) : SqL K H' l xs := by
  rcases h with (h | ⟨o, h⟩) | h
  · exact .inl (.inl (e _ _ h fun ps z => nomatch z))
  · exact .inl (.inr ⟨o, e _ _ h fun ps z => nomatch z⟩)
  · exact .inr h
section
variable {X : Cx}
theorem pe_sortkey {T : List (Addr × Str)} {c P : Addr} {k : Nat} {e body : Expr} {params : Arguments} {scope : Scope} {te tb : TE} {p lpos kpos pos : Pos} {N fr : List Str} {a1 : Str} {js : List Nat} (hg : Gl X "sorted") (hm : X.mg "sorted" = none) (ha : PE X e te) (TB : TabB X.base X.mg c P) (hcode : X.env.code = .ref c)
    (hmT : (P, X.env.qual ++ "<lambda>") ∈ T) (hu : ∀ p ∈ T, p.1 = P → p.2 = X.env.qual ++ "<lambda>") (hr : Room (k + 3) X.A) (hex : X.ex = []) (S : NScope N [a1] fr scope)
    (hnd : ndefB X.env.scope scope fr = true) (hjs : js.map (fun j => X.N[j]?) = fr.map some) (hdef : defaultsOf params X.env = ([], []))
    (hbind : ∀ (q : Str) (cl : List (Str × Addr)) (pm cv ctv v : Value), bindArgs (PySem.W.kla_fn "<lambda>" q params body scope cl pm cv ctv) ⟨[v], []⟩ = pure [(a1, v)])
    (hbody : ∀ (A : Around) (outer : List Env) (s : Shared) (H : Hp) (f c' : Addr) (cl : List (Str × Addr)), Room k (A.deeper (envF ⟨"<lambda>", X.env.qual ++ "<lambda>", params, [], scope, cl, c'⟩ f s.heap.objs.size)) →
      PE (ncx CX0 X.prog X.w X.K X.mg X.base N ⟨"<lambda>", X.env.qual ++ "<lambda>", params, [], scope, cl, c'⟩ f A outer s H E0) body tb)
    (hs1 : starEach [e] X.env = [(false, eval e X.env)] := by rfl) :
    PE X (.Call (.Name "sorted" p) [e] [⟨some "key", .Lambda params body scope lpos, kpos⟩] pos) (tSort X.K T X.H_0 N js te tb) := by
  have hfree := ndef_free hnd
  have hfr := ndef_fr hnd
  refine ⟨fun pins s σ H Q I h => ?_⟩
  refine wpAny_Call_Name_kw (ld_blt I hg hm PyProof.Rows.boot_sorted ?_)
  refine PyProof.Rows.callWith_kw ?_ (by rw [hs1]; rfl) (by rw [hs1]; rfl) (by rfl) (by rfl)
  refine thn ((pa_cons ha pa_nil hs1).run pos pins s σ H (fun vs H1 => match vs with
    | [x] => sTail X.K T X.H_0 N js tb σ Q x H1
    | _ => False) I h) fun us s1 ⟨vs, H1, I1, r1, q1⟩ => ?_
  match vs, r1, q1 with
  | [x], r1, q1 =>
  obtain ⟨l, ws, key, rfl, hS, hT, h01, q⟩ := q1
  obtain ⟨u, rfl, ru⟩ := vals1 r1
  obtain rfl : u = Value.ref l := ru
  have hcl : ∀ y ∈ scope.names, y.2 = .free → ∃ c, X.env.cells.lookup y.1 = some c := fun y hy e => (hfree y hy e).elim (fun z => I1.ok.has _ (.inl z)) fun z => I1.ok.has _ (.inr z)
  show wpAny _ _ (evalAll ((do let v ← eval (.Lambda params body scope lpos) X.env; standAt pos; pure v) :: (backToKw pos (keywordEach [] X.env)).map (·.2))) _ _ s1
  refine wpAny_evalAll_cons (wpAny_bind (lam_make2 I1 TB hcode hmT hu hT hdef hcl fun f c' pm ctv H2 s2 I2 eN T2 ho hfn hfs hco => wpAny_bind (wpAny_standAt (wpAny_pure ?_))))
  refine wpAny_evalAll_nil ?_
  show wpAny _ _ (call (.builtin "sorted") [.ref l] [(Str.ofString "key", .ref f)]) _ _ s2
  obtain ⟨qa, qend⟩ := q H2 eN T2
  obtain ⟨its, rv, hl, hz⟩ := I2.list (extN_seq eN hS)
  rw [List.length_map] at hz
  have hu2 : X.A.units + 2 < cLine := by
    have z := hr.un
    omega
  have tx := vals_texts rv
  refine sorted_by (b := false) key hl.isList tx hz hu2 (PyProof.Rows.ksk_s1 _ _) (fun x => PyProof.Rows.ksk_l1 _ _) (fun x => PyProof.Rows.ksk_t1 _ _) fun a kS e1 h0 k0 za zk nka hk ha0 => ?_
  have na : H2 a = none := I2.hok.fresh za
  have nk : H2 kS = none := I2.hok.fresh zk
  have fr0 : ∀ b, H2 b = none → Fr0 X.H_0 b := fun b n o e => by
    by_cases ht : ∃ ps, o = .tbl ps
    · exact ht
    · have z := eN b o (h01 b o e fun ps w => ht ⟨ps, w⟩) fun ps w => ht ⟨ps, w⟩
      rw [n] at z
      cases z
  refine ⟨fun i s' => ∃ H', Inv X pins σ H' s' ∧ Same H2 H' ∧ H' a = some (aO a e1) ∧ H' kS = some (kO kS ((ws.map key).take i)) ∧ s'.heap.get? f = some (PySem.W.kla_obj "<lambda>" (X.env.qual ++ "<lambda>") params body scope (cloFrom X.env.cells scope.names []) pm c' ctv) ∧ H' f = none,
    ⟨fun i s' ⟨H', I', sm, oa, ok, of, nf⟩ => ?_, fun i v k0 hv hk0 s' ⟨H', I', sm, oa, ok, of, nf⟩ => ?_⟩, ?_, fun s' h' tk out c0 ⟨H', I', sm, oa, ok, of, nf⟩ kp hA hlen er => ?_⟩
  · obtain ⟨kA, e, z1, z2⟩ := kO_at I'.hok ok
    exact ⟨kA, e, z1, z2, aO_at I'.hok oa⟩
  · obtain ⟨y, hy, rfl⟩ : ∃ y, ws[i]? = some y ∧ key y = k0 := by
      rw [List.getElem?_map] at hk0
      cases e : ws[i]? with
      | none =>
        rw [e] at hk0
        cases hk0
      | some y =>
        rw [e] at hk0
        exact ⟨y, rfl, Option.some.inj hk0⟩
    obtain ⟨t, rfl⟩ := each_get tx hv hy
    have C := cells_of I' (Caps.made I'.ok hfree hfr hjs)
    have hr2 : Room (k + 1) X.A.in1.in1 := hr.in1.in1
    have rc := lam_run (CX := CX0) (E := E0) (F := ⟨"<lambda>", X.env.qual ++ "<lambda>", params, [], scope, cloFrom X.env.cells scope.names [], c'⟩) (f := f) (us := [.str y t]) (vs := [.str y]) (Q := fun v H4 => v = .str (key y) ∧ Same H' H4) S (hbind _ _ _ _ _ _) of (sm _ _ hco) hr2 I'.env0.in1.in1 C
      (.cons ⟨t, rfl⟩ .nil) rfl (hbody _ _ _ _ _ _ _ (hr2.deeper _)) (qa y (List.mem_of_getElem? hy) H' sm)
    refine wpAny_call (codeAny_mono rc fun r s3 hq => ?_)
    cases r with
    | error e => exact (show False from hq).elim
    | ok fl =>
      cases fl with
      | next => exact (show False from hq).elim
      | brk => exact (show False from hq).elim
      | cont => exact (show False from hq).elim
      | ret u =>
        obtain ⟨v2, H4, os, bare, un, hok, rv2, rfl, sm4⟩ := (show CE X.stack X.prog X.w H' s' _ u s3 from hq)
        obtain ⟨hh, g, d, t4, os'⟩ := s3
        obtain rfl : os' = s'.os := os
        have I4 : Inv X pins σ H4 ⟨hh, g, d, t4, s'.os⟩ := I'.call (h' := hh) (g' := g) (d' := d) (t' := t4) (ch := []) un hok bare (fun b z => absurd z (by simp))
        obtain ⟨kA, e, nk4, tx4⟩ := kO_at I4.hok (sm4 _ _ ok)
        have nfk : f ≠ kS := fun z => by
          rw [z, ok] at nf
          cases nf
        have of4 := un.keep f _ of nf hfs (by simp)
        have nf4 := un.free f _ of nf (by simp)
        refine ⟨rv2, kA, e, nk4, tx4, fun h3 e3 hsb hk3 => ?_⟩
        have tx5 : Texts (kA.push u).toList ((ws.map key).take (i + 1)) := by
          have e5 : (ws.map key).take (i + 1) = (ws.map key).take i ++ [key y] := by
            rw [List.take_add_one, List.getElem?_map, hy]
            rfl
          rw [e5, Array.toList_push]
          exact texts_snoc tx4 rv2
        refine ⟨upd H4 kS (kO kS ((ws.map key).take (i + 1))), I4.write (x := kS) (e := kS) (by rw [sm4 _ _ ok]; trivial) (.inl rfl) (fun b o hb z => (hsb.2 b hb).trans z) ⟨_, hk3⟩ (kO_ok hk3 tx5), fun b o z => ?_, ?_, upd_same, ?_, ?_⟩
        · rw [upd_ne (ne_of_none z nk)]
          exact sm4 _ _ (sm _ _ z)
        · rw [upd_ne nka.symm]
          exact sm4 _ _ oa
        · exact (hsb.2 f nfk).trans of4
        · rw [upd_ne nfk]
          exact nf4
  · obtain ⟨G, g1, g2⟩ := restrict h0 fun b => decide (b ≠ kS)
    have lt : ∀ b o, s2.heap.get? b = some o → b ≠ kS ∧ b ≠ a := fun b o z => ⟨Nat.ne_of_lt (Nat.lt_of_lt_of_le (Heap.lt_size z) zk), Nat.ne_of_lt (Nat.lt_of_lt_of_le (Heap.lt_size z) za)⟩
    have gG : ∀ b o, b ≠ kS → h0.get? b = some o → G.get? b = some o := fun b o n z => by
      rw [g1 b (decide_eq_true n)]
      exact z
    have Gh : ∀ b o, G.get? b = some o → h0.get? b = some o := fun b o z => by
      by_cases hb : b = kS
      · rw [hb, g2 kS (decide_eq_false fun z => z rfl)] at z
        cases z
      · rw [← g1 b (decide_eq_true hb)]
        exact z
    have Ia := I2.laidN (h' := G) (t' := s2.toks) (a := a) (o := aO a e1) (fun b o z => gG b o (lt b o z).1 (k0 b o z)) (Heap.get?_none_of_le za) na (aO_ok (gG a _ nka.symm ha0))
    have nk2 : upd H2 a (aO a e1) kS = none := by
      rw [upd_ne nka]
      exact nk
    have Ik := Ia.laidN (h' := h0) (t' := s2.toks) (a := kS) (o := kO kS []) Gh (g2 kS (decide_eq_false fun z => z rfl)) nk2 (kO_ok hk .nil)
    refine ⟨_, Ik, fun b o z => ?_, ?_, ?_, k0 _ _ ho, ?_⟩
    · rw [upd_ne (ne_of_none z nk), upd_ne (ne_of_none z na)]
      exact z
    · rw [upd_ne nka.symm, upd_same]
    · rw [upd_same, List.take_zero]
    · rw [upd_ne (lt _ _ ho).1, upd_ne (lt _ _ ho).2]
      exact hfn
  · obtain ⟨G1, a1, a2, I5⟩ := I'.untrack ok (fr0 kS nk) hex
    obtain ⟨G2, b1, b2, I6⟩ := I5.untrack (a := a) (by rw [delH_ne nka.symm]; exact oa) (fr0 a na) hex
    have hlm : ((ws.mergeSort (PySem.W.dataLe false fun x => .str (key x))).map V.str).length ≤ sizeLine := by
      rw [List.length_map, List.length_mergeSort]
      exact hz
    have I7 := I6.laidN (h' := h') (t' := tk) (a := a) (o := .lst ((ws.mergeSort (PySem.W.dataLe false fun x => .str (key x))).map V.str))
      (fun b o z => kp b o (fun w => by rw [w, b2] at z; cases z) (fun w => by have z2 := b1 b o z; rw [w] at z2; have z3 := z2; rw [a2] at z3; cases z3) (a1 _ _ (b1 _ _ z))) b2 delH_same ⟨hlm, out, c0, texts_vals er, hA⟩
    refine ⟨.ref a, _, I7, rfl, qend _ a na (fun b o z => ?_) upd_same⟩
    rw [upd_ne (ne_of_none z na), delH_ne (ne_of_none z na), delH_ne (ne_of_none z nk)]
    exact sm _ _ z
end
end SK
/-! ### enumerate of a text and of a tuple; dict comprehensions over any walk -/
namespace SK
open PySem PySem.Spec PyProof.Rows L2 LamX NdefX
def ItES (x : Str) : It := ⟨fun i _ => i < x.cps.size, fun i H v H' => ∃ T c, v = .ref T ∧ H T = none ∧ H' = upd H T (.tup [.int (i : Nat), .str ⟨#[c]⟩]) ∧ x.cps[i]? = some c, fun i _ => i = x.cps.size⟩
def ItET (a : Addr) (xs : List V) : It := ⟨fun i H => H a = some (.tup xs) ∧ i < xs.length, fun i H v H' => ∃ T x, v = .ref T ∧ H T = none ∧ H' = upd H T (.tup [.int (i : Nat), x]) ∧ xs[i]? = some x, fun i H => H a = some (.tup xs) ∧ i = xs.length⟩
/-- a pair that enumerate hands out -/
theorem enum_turn {X : Cx} {pins : List (Addr × Obj)} {s : Shared} {σ : St} {H : Hp} {E : Value → Shared → Prop} {J : It} {fp : List Addr} {n i : Nat} {Pd : Nat → Value → Prop} {Sd : Nat → Heap → Prop} {e it : Addr} {elts : List Expr} {kk : Nat} {tpos : Pos} {tn : Nat → Heap → Prop} (I : Inv X pins σ H s)
    (D : PySem.Draws X.prog X.w X.A.in1 it fp n Pd Sd) (hf : ∀ b ∈ [e, it], FpOk X pins H b) (he : ∃ old, IsEnum s.heap e it ((i : Nat) : Int) old) (hst : Sd i s.heap) (hlt : i < n) (hne : e ≠ it) (hef : e ∉ fp)
    (hit : ∃ o, s.heap.get? it = some o) (rel : ∀ u, Pd i u → ∃ x, RelV x u ∧ ∀ H' T, H T = none → H' = upd H T (.tup [.int (i : Nat), x]) → J.yld i H (.ref T) H') (nx : ∀ h' h'', Sd (i + 1) h' → (∀ b o, b ≠ e → h'.get? b = some o → h''.get? b = some o) → (∃ old, IsEnum h'' e it (((i + 1 : Nat)) : Int) old) → tn (i + 1) h'') :
    wpAny (model X.prog X.w) X.A (pyNext (.ref e)) (fun r s1 => ∃ u, r = some u ∧
      wpAny (model X.prog X.w) X.A (letOwnedTupleGo (.Tuple elts kk tpos) (.ref e) u) (fun _ s2 => ∃ x H', Inv X pins σ H' s2 ∧ RelV x u ∧ J.yld i H x H' ∧ tn (i + 1) s2.heap ∧ ∀ b ∈ [e, it], H' b = none) E s1) E s := by
  obtain ⟨old, he⟩ := he
  have hel : e < s.heap.objs.size := Heap.lt_size he
  have hil : it < s.heap.objs.size := by
    obtain ⟨o, q⟩ := hit
    exact Heap.lt_size q
  refine wpAny_pyNext_enum_itemD D he hst hlt hne hef fun u h' tk hP ho hst' hT hsz hk => ?_
  obtain ⟨x, ru, hy⟩ := rel u hP
  refine ⟨_, rfl, wpAny_letOwnedTupleGo_enum (s := { s with heap := h', toks := tk + 1 }) ho fun h'' he' sb => ?_⟩
  have hT2 : h''.get? s.heap.objs.size = some { cls := .type "tuple", data := .seq #[.int i tk, u] } := (sb.2 _ (Nat.ne_of_gt hel)).trans hT
  have nw : ObjOk X.prog X.w (upd H s.heap.objs.size (.tup [.int (i : Nat), x])) h'' s.heap.objs.size (.tup [.int (i : Nat), x]) :=
    ⟨by show 2 ≤ sizeLine; decide, [.int i tk, u], .cons ⟨_, rfl⟩ (.cons ru .nil), ⟨_, hT2, rfl, _, rfl⟩⟩
  have I1 : Inv X pins σ (upd H s.heap.objs.size (.tup [.int (i : Nat), x])) { s with heap := h'', toks := tk + 1 } :=
    I.turnedNew (ch := [e, it]) (fun b ob hb q => (sb.2 b (fun z => hb (by simp [z]))).trans (hk b ob (fun z => hb (by simp [z])) (fun z => hb (by simp [z])) q)) hf (Nat.le_refl _) nw
  refine ⟨.ref s.heap.objs.size, _, I1, rfl, hy _ _ (I.hok.fresh (Nat.le_refl _)) rfl, nx h' h'' hst' (fun b o hb q => (sb.2 b hb).trans q) ⟨u, ?_⟩, fun b hb => ?_⟩
  · have e1 : ((i + 1 : Nat) : Int) = (i : Int) + 1 := by omega
    rw [e1]
    exact he'
  · have hb' : b < s.heap.objs.size := by
      have e' : b = e ∨ b = it := by simpa using hb
      rcases e' with z | z
      · rw [z]; exact hel
      · rw [z]; exact hil
    rw [upd_ne (Nat.ne_of_lt hb')]
    exact (hf b hb).1
theorem turn_enumS {P : Program} {w : World} {K : PySem.W.Frag} {elts : List Expr} {kk : Nat} {tpos : Pos} (x : Str) (t : Tok) (e it : Addr) :
    Turn P w K (.Tuple elts kk tpos) (ItES x) [e, it] e (fun i h => (∃ old, IsEnum h e it ((i : Nat) : Int) old) ∧ h.IsStrIter it (strIterType x) x t i ∧ e ≠ it) where
  mem := by simp
  obj := fun i h st b hb => by
    obtain ⟨⟨old, he⟩, ⟨o, ho, hc, hd⟩, _⟩ := st
    have e' : b = e ∨ b = it := by simpa using hb
    rcases e' with z | z
    · rw [z]
      exact ⟨_, he, fun v q => nomatch q⟩
    · rw [z]
      exact ⟨o, ho, fun v q => by rw [hd] at q; cases q⟩
  keep := fun i h h' st k => by
    obtain ⟨⟨old, he⟩, ⟨o, ho, r⟩, hne⟩ := st
    exact ⟨⟨old, k e (by simp) _ he⟩, ⟨o, k it (by simp) o ho, r⟩, hne⟩
  item := by
    intro X hP hw hK hc i pins s σ H E I hf st hg
    subst hP hw hK
    obtain ⟨he, hit, hne⟩ := st
    have hli : ∃ o, s.heap.get? it = some o := by
      obtain ⟨o, q, _⟩ := hit
      exact ⟨o, q⟩
    refine enum_turn (J := ItES x) (tn := fun i h => (∃ old, IsEnum h e it ((i : Nat) : Int) old) ∧ h.IsStrIter it (strIterType x) x t i ∧ e ≠ it) I (PySem.Draws.text (A := X.A.in1) (I.ok.hd hc) it x t) hf he hit hg hne (by simpa using hne) hli (fun u ⟨c, tu, hx, eu⟩ => ⟨.str ⟨#[c]⟩, ⟨tu, eu⟩, fun H' T hT eH => ⟨T, c, rfl, hT, eH, hx⟩⟩) fun h' h'' hs k hE => ?_
    obtain ⟨o, ho, r⟩ := hs
    exact ⟨hE, ⟨o, k it o (Ne.symm hne) ho, r⟩, hne⟩
  done := by
    intro X hP hw hK hc i pins s σ H E I hf st hg
    subst hP hw hK
    obtain ⟨⟨old, he⟩, hit, hne⟩ := st
    obtain ⟨f0, f1, f2, f3, f4, f5⟩ := hf it (by simp)
    have hg : i = x.cps.size := hg
    rw [hg] at hit
    exact wpAny_pyNext_enum_endD (PySem.Draws.text (A := X.A.in1) (I.ok.hd hc) it x t) he hit fun h' eb => ⟨rfl, I.turned (t' := s.toks) (fun b o hb q => eb b o hb q) f0 f1 f3 f4 f5⟩
  self := fun A i s Q E st h => let ⟨⟨_, he⟩, _⟩ := st; wpAny_pyIter_enum he h
theorem turn_enumT {P : Program} {w : World} {K : PySem.W.Frag} {elts : List Expr} {kk : Nat} {tpos : Pos} (a : Addr) (xs : List V) (e it : Addr) :
    Turn P w K (.Tuple elts kk tpos) (ItET a xs) [e, it] e (fun i h => (∃ old, IsEnum h e it ((i : Nat) : Int) old) ∧ h.IsTupleIter it a i ∧ e ≠ it) where
  mem := by simp
  obj := fun i h st b hb => by
    obtain ⟨⟨old, he⟩, ⟨o, ho, hc, hd⟩, _⟩ := st
    have e' : b = e ∨ b = it := by simpa using hb
    rcases e' with z | z
    · rw [z]
      exact ⟨_, he, fun v q => nomatch q⟩
    · rw [z]
      exact ⟨o, ho, fun v q => by rw [hd] at q; cases q⟩
  keep := fun i h h' st k => by
    obtain ⟨⟨old, he⟩, hi, hne⟩ := st
    exact ⟨⟨old, k e (by simp) _ he⟩, hi.at fun o q => k it (by simp) o q, hne⟩
  item := by
    intro X hP hw hK hc i pins s σ H E I hf st hg
    subst hP hw hK
    obtain ⟨he, hit, hne⟩ := st
    obtain ⟨ha, hlt⟩ := hg
    obtain ⟨its, rv, p, hz⟩ := I.tuple (.inl (.inl ha))
    have hl := rv.length
    have nat : ∀ b ∈ [e, it], a ≠ b := fun b hb z => by
      have q := (hf b hb).1
      rw [← z, ha] at q
      cases q
    have hli : ∃ o, s.heap.get? it = some o := by
      obtain ⟨o, q, _⟩ := hit
      exact ⟨o, q⟩
    have hp : s.heap.IsTuple a its.toArray := p
    refine enum_turn (J := ItET a xs) (tn := fun i h => (∃ old, IsEnum h e it ((i : Nat) : Int) old) ∧ h.IsTupleIter it a i ∧ e ≠ it) I (PySem.Draws.tuple (A := X.A.in1) (I.ok.hd hc) it a (nat it (by simp)) its.toArray) hf he ⟨hit, hp⟩ (by simpa [← hl] using hlt) hne (by simp only [List.mem_cons, List.mem_nil_iff, or_false, not_or]; exact ⟨hne, Ne.symm (nat e (by simp))⟩) hli (fun u hu => ?_) fun h' h'' hs k hE => ⟨hE, hs.1.at fun o q => k it o (Ne.symm hne) q, hne⟩
    obtain ⟨x, hx⟩ : ∃ x, xs[i]? = some x := ⟨_, List.getElem?_eq_getElem hlt⟩
    obtain ⟨u2, hu2, ru⟩ := rv.get hx
    have e2 : u2 = u := by
      have z : its.toArray[i]? = some u2 := by simpa using hu2
      exact Option.some.inj (z.symm.trans hu)
    subst e2
    exact ⟨x, ru, fun H' T hT eH => ⟨T, x, rfl, hT, eH, hx⟩⟩
  done := by
    intro X hP hw hK hc i pins s σ H E I hf st hg
    subst hP hw hK
    obtain ⟨⟨old, he⟩, hit, hne⟩ := st
    obtain ⟨ha, hlt⟩ := hg
    obtain ⟨its, rv, p, hz⟩ := I.tuple (.inl (.inl ha))
    have hl := rv.length
    obtain ⟨f0, f1, f2, f3, f4, f5⟩ := hf it (by simp)
    have nat : a ≠ it := fun z => by
      rw [← z, ha] at f0
      cases f0
    have hp : s.heap.IsTuple a its.toArray := p
    have ei : i = its.toArray.size := by
      rw [List.size_toArray, ← hl]
      exact hlt
    rw [ei] at hit
    exact wpAny_pyNext_enum_endD (PySem.Draws.tuple (A := X.A.in1) (I.ok.hd hc) it a nat its.toArray) he ⟨hit, hp⟩ fun h' eb => ⟨rfl, I.turned (t' := s.toks) (fun b o hb q => eb b o hb q) f0 f1 f3 f4 f5⟩
  self := fun A i s Q E st h => let ⟨⟨_, he⟩, _⟩ := st; wpAny_pyIter_enum he h
section
variable {X : Cx}
def iEnumS (ta : TA) : TI := fun σ H R => ta σ H fun vs H1 => ∃ x, vs = [.str x] ∧ R (ItES x) H1
theorem pi_enumS {e : Expr} {ta : TA} {p pos tpos : Pos} {elts : List Expr} {kk : Nat} (hg : Gl X "enumerate") (hm : X.mg "enumerate" = none) (ha : PA X [e] ta) (hs : starEach [e] X.env = [(false, eval e X.env)] := by rfl) :
    PI X (.Tuple elts kk tpos) (.Call (.Name "enumerate" p) [e] [] pos) (iEnumS ta) := by
  refine ⟨fun pins s σ H R I h => ?_⟩
  refine Call_ (ld_blt I hg hm boot_enumerate (PyProof.Rows.callWith_type1 (thn (ha.run pos pins s σ H _ I h) fun us s1 ⟨vs, H1, I1, r1, q1⟩ => ?_) hs rfl))
  obtain ⟨x, rfl, q⟩ := q1
  obtain ⟨u, rfl, t, rfl⟩ := vals1 r1
  refine call_enumerate_str fun h' he hit hsz hk => wpAny_pyIter_enum he ?_
  have I2 : Inv X pins σ H1 { s1 with heap := h' } := I1.kept (t' := s1.toks) hk
  refine ⟨s1.heap.objs.size + 1, [s1.heap.objs.size + 1, s1.heap.objs.size], _, _, H1, rfl, I2, turn_enumS x t (s1.heap.objs.size + 1) s1.heap.objs.size, ⟨⟨.none, he⟩, hit, Nat.succ_ne_self _⟩, fun b hb => ?_, q⟩
  have e' : b = s1.heap.objs.size + 1 ∨ b = s1.heap.objs.size := by simpa using hb
  have hle : s1.heap.objs.size ≤ b := by
    rcases e' with z | z
    · rw [z]; exact Nat.le_add_right _ _
    · rw [z]; exact Nat.le_refl _
  exact I1.fpOk hle (I1.hok.fresh hle)
def iEnumT (ta : TA) : TI := fun σ H R => ta σ H fun vs H1 => ∃ a xs, vs = [.ref a] ∧ H1 a = some (.tup xs) ∧ R (ItET a xs) H1
theorem walk_enumS {x : Str} : Walk (ItES x) x.cps.size (fun _ => True) (YPair (fun i => some (.int (i : Nat))) (fun i => x.cps[i]?.map fun c => .str ⟨#[c]⟩)) := by
  refine ⟨fun _ _ hi _ => hi, fun _ _ => rfl, fun i H v H' _ _ y => ?_⟩
  obtain ⟨T, c, h1, h2, h3, h4⟩ := y
  exact ⟨T, _, _, h1, h2, h3, rfl, by show x.cps[i]?.map _ = _; rw [h4]; rfl⟩
theorem walk_enumT {a : Addr} {xs : List V} : Walk (ItET a xs) xs.length (fun H => H a = some (.tup xs)) (YPair (fun i => some (.int (i : Nat))) (fun i => xs[i]?)) := by
  refine ⟨fun _ _ hi q => ⟨q, hi⟩, fun _ q => ⟨q, rfl⟩, fun i H v H' _ _ y => ?_⟩
  obtain ⟨T, x, h1, h2, h3, h4⟩ := y
  exact ⟨T, _, _, h1, h2, h3, rfl, h4⟩
end
/-- a dict comprehension over a walk -/
theorem dc_it {J : It} {n : Nat} {G : Hp → Prop} {Y : Nat → Hp → V → Hp → Prop} (w : Walk J n G Y) {g : TG} {tt : TT} {tk tv : TE} {vs : List Nat} {σ : St} {H1 : Hp} {D : Addr} {Qd : Hp → Prop} (Pv : Nat → Hp → Prop) (h0 : Pv 0 (upd H1 D (.dK []))) (hG : ∀ i H, i ≤ n → Pv i H → G H)
    (hs : ∀ i x H H', i < n → Pv i H → Y i H x H' → g x (wipe σ vs) H' fun σ2 H2 => wipe σ2 vs = wipe σ vs ∧ tt σ2 H2 fun b H3 =>
      if b = true then tk σ2 H3 fun y H4 => tv σ2 H4 fun z H5 => ∃ kvs k, y = kV k ∧ H5 D = some (.dK kvs) ∧ kvs.length < sizeLine ∧ Pv (i + 1) (upd H5 D (.dK (putK kvs k z))) else Pv (i + 1) H3) (hd : ∀ H, Pv n H → Qd H) :
    ∃ W : Nat → Nat → Hp → Prop, (∃ m, W 0 m (upd H1 D (.dK []))) ∧ ∀ i m H, W i m H →
      (J.stop i H ∧ Qd H) ∨ (J.go i H ∧ ∃ Nx : Hp → Prop, (∀ H', Nx H' → ∃ m', m' < m ∧ W (i + 1) m' H') ∧ ∀ x H', J.yld i H x H' → g x (wipe σ vs) H' fun σ2 H2 => wipe σ2 vs = wipe σ vs ∧ tt σ2 H2 fun b H3 =>
        if b = true then tk σ2 H3 fun y H4 => tv σ2 H4 fun z H5 => ∃ kvs k, y = kV k ∧ H5 D = some (.dK kvs) ∧ kvs.length < sizeLine ∧ Nx (upd H5 D (.dK (putK kvs k z))) else Nx H3) := by
  refine ⟨fun i m H => m + i = n ∧ Pv i H, ⟨n, rfl, h0⟩, fun i m H ⟨em, p⟩ => ?_⟩
  have q := hG i H (by omega) p
  rcases Nat.lt_or_ge i n with hlt | hge
  · exact .inr ⟨w.goes i H hlt q, Pv (i + 1), fun H' p' => ⟨n - (i + 1), by omega, by omega, p'⟩, fun x H' y => hs i x H H' hlt p (w.yields i H x H' hlt q y)⟩
  · obtain rfl : i = n := by omega
    exact .inl ⟨w.stops H q, hd H p⟩
end SK
namespace SK
open PySem PySem.Spec PyProof.Rows L2 LamX NdefX
/-- enumerate(v) with no start -/
theorem enum_new1 {v : Value} {o : Obj} {C : Heap → Prop} (B : Begins v o C) :
    Meets (Builtin.«enumerate.__new__» ⟨[.type "enumerate", v], []⟩) (fun _ R s => C s.heap ∧
      R (.ok (.ret (.ref (s.heap.push o).objs.size))) { s with heap := (s.heap.push o).push { cls := .type "enumerate", data := .fields #[.none, .bool false, .ref s.heap.objs.size, rawInt 0, .none, .none] } }) :=
  .of_wp fun prog w A R s h => by
    obtain ⟨hp, g, d, tk, os⟩ := s
    obtain ⟨h1, h⟩ := h
    have sub0 := sub_enumerate
    have it0 : ∀ {A' : Around} {E : Value → Shared → Prop} {Q : Value → Shared → Prop}, Q (.ref hp.objs.size) ⟨hp.push o, g, d, tk, os⟩ → wpAny (model prog w) A' (pyIter v) Q E ⟨hp, g, d, tk, os⟩ :=
      fun q => B.iter prog w _ _ ⟨hp, g, d, tk, os⟩ _ h1 q
    wp_walk using it0
    refine wpAny_stack_any fun st => wpAny_pure ?_
    split
    · rename_i c _ _ _ _ _
      cases (c == Value.type "enumerate")
      all_goals
        wp_walk using it0
        exact ⟨_, rfl, h⟩
    · wp_walk using it0
      exact ⟨_, rfl, h⟩
end SK
namespace SK
open PySem PySem.Spec PyProof.Rows L2 LamX NdefX
section
variable {prog : Program} {w : World} {A : Around} {E : Value → Shared → Prop} {s : Shared}
theorem enum_tuple {a : Addr} {items : Array Value} {Q : Value → Shared → Prop} (ht : s.heap.IsTuple a items)
    (h : ∀ h', IsEnum h' (s.heap.objs.size + 1) s.heap.objs.size 0 .none → h'.IsTupleIter s.heap.objs.size a 0 → (∀ b o, s.heap.get? b = some o → h'.get? b = some o) → Q (.ref (s.heap.objs.size + 1)) { s with heap := h' }) :
    wpAny (model prog w) A (call (.type "enumerate") [.ref a]) Q E s := by
  refine callType_new F.called_enumerate (by decide) (F.typeCall_enumerate_1 _) (F.newCall_enumerate_1 _) (fun obj => F.args_object_init_2 obj _) F.entry_enumerate_new (enum_new1 (begins_tuple a items)) ⟨ht, ?_⟩
  generalize ho : ({ cls := .type "tuple_iterator", data := .fields #[.ref a, .int 0 0] } : Obj) = o
  have hfr : o.isFreed = false := by
    rw [← ho]
    rfl
  have hz : (s.heap.push o).objs.size = s.heap.objs.size + 1 := Heap.size_push ..
  show _ ∧ _
  rw [hz]
  have he : IsEnum ((s.heap.push o).push { cls := .type "enumerate", data := .fields #[.none, .bool false, .ref s.heap.objs.size, rawInt 0, .none, .none] }) (s.heap.objs.size + 1) s.heap.objs.size 0 .none := by
    have q := Heap.get?_push_size (s.heap.push o) (o := { cls := .type "enumerate", data := .fields #[.none, .bool false, .ref s.heap.objs.size, rawInt 0, .none, .none] }) rfl
    rw [hz] at q
    exact q
  have hi : (s.heap.push o).get? s.heap.objs.size = some o := Heap.get?_push_size _ hfr
  refine ⟨⟨_, he, rfl⟩, h _ he ⟨o, Heap.get?_push_of_some _ hi, by rw [← ho], by rw [← ho]; rfl⟩ fun b u q => Heap.get?_push_of_some _ (Heap.get?_push_of_some _ q)⟩
end
section
variable {X : Cx}
theorem pi_enumT {e : Expr} {ta : TA} {p pos tpos : Pos} {elts : List Expr} {kk : Nat} (hg : Gl X "enumerate") (hm : X.mg "enumerate" = none) (ha : PA X [e] ta) (hs : starEach [e] X.env = [(false, eval e X.env)] := by rfl) :
    PI X (.Tuple elts kk tpos) (.Call (.Name "enumerate" p) [e] [] pos) (iEnumT ta) := by
  refine ⟨fun pins s σ H R I h => ?_⟩
  refine Call_ (ld_blt I hg hm boot_enumerate (PyProof.Rows.callWith_type1 (thn (ha.run pos pins s σ H _ I h) fun us s1 ⟨vs, H1, I1, r1, q1⟩ => ?_) hs rfl))
  obtain ⟨a, xs, rfl, hq, q⟩ := q1
  obtain ⟨u, rfl, ru⟩ := vals1 r1
  obtain rfl : u = Value.ref a := ru
  obtain ⟨its, rv, pt, hz⟩ := I1.tuple (.inl (.inl hq))
  have pt' : s1.heap.IsTuple a its.toArray := pt
  refine enum_tuple pt' fun h' he hit hk => wpAny_pyIter_enum he ?_
  have I2 : Inv X pins σ H1 { s1 with heap := h' } := I1.kept (t' := s1.toks) hk
  refine ⟨s1.heap.objs.size + 1, [s1.heap.objs.size + 1, s1.heap.objs.size], _, _, H1, rfl, I2, turn_enumT a xs (s1.heap.objs.size + 1) s1.heap.objs.size, ⟨⟨.none, he⟩, hit, Nat.succ_ne_self _⟩, fun b hb => ?_, q⟩
  have hle : s1.heap.objs.size ≤ b := by
    simp only [List.mem_cons, List.mem_nil_iff, or_false] at hb
    rcases hb with z | z
    · rw [z]; exact Nat.le_add_right _ _
    · rw [z]; exact Nat.le_refl _
  exact I1.fpOk hle (I1.hok.fresh hle)
/-- y = {k: v for .. in ..}, y a local name -/
theorem ps_setDc {i : Nat} {y : Str} {py : Pos} {kx vx tg iter : Expr} {ifs : List Expr} {scope : Scope} {own : List (Str × Nat)} {pos spos : Pos} {wi : TI} {g : TG} {tt : TT} {tk tv : TE} (hc : X.calm = true) (hN : X.N.Nodup) (hy : X.N[i]? = some y) (hyl : X.env.scope.names.lookup y = some .local)
    (hsw : swapsWith (.DictComp kx vx [⟨tg, iter, ifs, 0⟩] scope pos) (some (.Name y py)) spos.line X.env = pure true) (hi : PI X tg iter wi) (ok : BlkOk X.N X.env.scope scope own)
    (hg : ∀ (s : Shared) (H : Hp) (C : Addr) (cl : List (Str × Addr)) (fp : List Addr), PG (X.blk s H scope (compEnvC scope cl C X.env) fp) tg g) (ht : ∀ (s : Shared) (H : Hp) (C : Addr) (cl : List (Str × Addr)) (fp : List Addr), PTs (X.blk s H scope (compEnvC scope cl C X.env) fp) ifs tt)
    (hk : ∀ (s : Shared) (H : Hp) (C : Addr) (cl : List (Str × Addr)) (fp : List Addr), PE (X.blk s H scope (compEnvC scope cl C X.env) fp) kx tk)
    (he : ∀ (s : Shared) (H : Hp) (C : Addr) (cl : List (Str × Addr)) (fp : List Addr), PE (X.blk s H scope (compEnvC scope cl C X.env) fp) vx tv) (hs : ∀ x, foldedSetIterable iter X.env x = pure x := by intro _; rfl) :
    PS X (.Assign [.Name y py] (.DictComp kx vx [⟨tg, iter, ifs, 0⟩] scope pos) spos) (tAsg (tDc wi g tt tk tv (own.map (·.2))) (gName i)) := by
  refine ⟨fun pins s σ H D I h => ?_⟩
  rw [exec_Assign_Name_used _ _ _ _ hsw]
  refine wpAny_bind (wpAny_standAt (wpAny_bind ?_))
  show wpAny _ X.A (do let _ ← comprehension (.DictComp kx vx [⟨tg, iter, ifs, 0⟩] scope pos) scope X.env (firstIterPos [⟨tg, iter, ifs, 0⟩] pos) newDict false (eval iter X.env) (some (assign (.Name y py) X.env))) _ _ s
  have hh : tDc wi g tt tk tv (own.map (·.2)) σ H (fun x H1 => gName i x σ H1 D.nx) := h
  refine wpAny_bind (thn (dc_core (Qf := fun _ s' => SP X pins D .next s') hc hN I hi ok hg ht hk he hs hh fun L C s' m H' I' q hn f => ?_) fun _ s' hq => wpAny_pure (wpAny_pure hq))
  show wpAny _ _ (assign (.Name y py) X.env (.ref L)) _ _ _
  refine wpAny_assign_Name (store_ok2 (v := V.ref L) I' hN hy (.inl hyl) rfl (fun s2 I2 ⟨a, sb, ha⟩ => ?_) (.inr hyl))
  obtain ⟨f0, f1, f2, f3, f4, f5⟩ := f
  have haC : C ≠ a := ha.elim (fun z => by rw [z]; exact f1) fun z e => f4 y a z e.symm
  refine ⟨m, hn.sameBut sb haC, fun h3 sb3 => ?_⟩
  exact ⟨_, H', I2.turned (t' := s2.toks) (fun b o hb e => (sb3.2 b hb).trans e) f0 f1 f3 f4 f5, q⟩
theorem swD_true {kx vx : Expr} {gs : List Comprehension} {scope : Scope} {pos py : Pos} {y : Str} {l : Nat} {env : Env} (hk : env.scope.kind = .function) (hy : env.scope.names.lookup y = some .local) (hl : (py.line == pos.line) = true)
    (ha : (scope.names.any fun (n, k) => n == y && (k == .local || k == .cell)) = false) : swapsWith (.DictComp kx vx gs scope pos) (some (.Name y py)) l env = pure true := by
  have ky : env.kindOf y = some .local := hy
  have hb : env.blockKind = .function := by
    unfold Env.blockKind
    rw [hk]
    rfl
  unfold swapsWith
  simp only [hb, ky, ha, Expr.pos, hl]
  rfl
end
end SK
namespace SK
open PySem PySem.Spec PyProof.Rows L2 LamX NdefX
def top (i : Nat) : Stmt := PySem.Challenge.pw_lettertrees_k24_ratios.main.body.getD i (.Pass ⟨0, 0, 0, 0⟩)
/-- a def of the top whose code object is known -/
structure FunT (K : PySem.W.Frag) (x qual : Str) (st : Stmt) (f : Addr) (fd : FuncData) (c : Addr) : Prop where
  ex : ∃ (oc : Value) (od : Option Addr) (kV doc pm : Value) (an : Option Addr) (ct : Value) (osl : Array (Option Value)),
    fd = PySem.W.fnOf x qual (defArgs st) (defBody st) (defScope st) .none kV doc pm an (.ref c) ct ∧ K.lookup f = some ⟨oc, od, .func fd, osl⟩ ∧ PySem.W.codeIn K (.ref c) qual = true
  kp : PySem.W.keepIn K (.ref f) = true
theorem FunT.ok {P : Program} {w : World} {K : PySem.W.Frag} {mg : Str → Option Value} {base : Heap} {x qual : Str} {st : Stmt} {f c : Addr} {fd : FuncData} {N ps : List Str} {k : Nat} {sp : Sp} (F : FunT K x qual st f fd c) (S : FnScope N ps (defScope st)) (len : ∀ vs H Q E, sp vs H Q E → vs.length = ps.length)
    (hbody : ∀ (A : Around) (outer : List Env) (s : Shared) (H : Hp) (vs : List V) (Q : VK) (E : XK), Room k (A.deeper (envOfC qual (defScope st) s.heap.objs.size f (.ref c))) → sp vs H Q E →
      ∃ t, PSs (cxOf CX0 P w K mg base N qual (defScope st) f (.ref c) A outer s H E).nox (defBody st) t ∧ t { nx := fun _ H' => Q .non H', rt := Q } (start N vs) H) : FnOk P w K mg base CX0 (k + 1) f fd ps sp := by
  obtain ⟨oc, od, kV, doc, pm, an, ct, osl, rfl, lk, hcd⟩ := F.ex
  refine fn_of lk hcd S len fun A outer s H vs Q E hr hsp => ?_
  obtain ⟨t, h, q⟩ := hbody A outer s H vs Q E hr hsp
  exact ⟨t, h.nox, q⟩
end SK
namespace SK
open PySem PySem.Spec PyProof.Rows L2 LamX NdefX
open K0 (De DeAll)
def isB : PyData → Bool
  | .bool _ => true
  | _ => false
def okW (ls : Str) : PyData → Bool
  | .str x => decide (x.cps.size ≤ 200) && x.cps.toList.all fun c => decide (c ∈ ls.cps.toList)
  | _ => false
def okR3 (ls : Str) : List PyData → Bool
  | [a, b, c] => okW ls a && (isB b && isB c)
  | _ => false
def okR (ls : Str) : PyData → Bool
  | .tuple ds => okR3 ls ds
  | .list ds => okR3 ls ds
  | _ => false
end SK
namespace SK
open PySem PySem.Spec PyProof.Rows L2 LamX NdefX
open K0 (De DeAll)
mutual
theorem de_mono {K : PySem.W.Frag} {H H' : Hp} (m : ∀ b o, H b = some o → H' b = some o) : ∀ (d : PyData) (v : V), De K H v d → De K H' v d
  | .none, _, h => by
    cases h
    exact .non
  | .bool b, _, h => by
    cases h
    exact .bl b
  | .int i, _, h => by
    cases h
    exact .int i
  | .str x, _, h => by
    cases h
    exact .str x
  | .list ds, _, h => by
    cases h with
    | lst ha hd => exact .lst (m _ _ ha) (de_monoAll m ds _ hd)
  | .tuple ds, _, h => by
    cases h with
    | tup ha hd => exact .tup (m _ _ ha) (de_monoAll m ds _ hd)
  | .dict _, _, h => by
    cases h with
    | dic ha => exact .dic (m _ _ ha)
theorem de_monoAll {K : PySem.W.Frag} {H H' : Hp} (m : ∀ b o, H b = some o → H' b = some o) : ∀ (ds : List PyData) (vs : List V), DeAll K H vs ds → DeAll K H' vs ds
  | [], _, h => by
    cases h
    exact .nil
  | d :: ds, _, h => by
    cases h with
    | cons h1 h2 => exact .cons (de_mono m d _ h1) (de_monoAll m ds _ h2)
end

/-- no text in it is too long -/
def Fit (d : PyData) : Prop := ∀ ds, (d = .tuple ds ∨ d = .list ds) → ∀ x, PyData.str x ∈ ds → x.cps.size ≤ 1000
def spRow (K : PySem.W.Frag) : Sp := fun vs H Q _ => ∃ (ls : Str) (v : V) (d : PyData), vs = [.str ls, v] ∧ De K H v d ∧ Fit d ∧ ∀ H', Same H H' → Q (.bl (okR ls d)) H'
theorem deAll_len {K : PySem.W.Frag} {H : Hp} : ∀ {vs : List V} {ds : List PyData}, DeAll K H vs ds → vs.length = ds.length
  | _, _, .nil => rfl
  | _, _, .cons _ t => congrArg Nat.succ (deAll_len t)
end SK
namespace SK
open PySem PySem.Spec PyProof.Rows L2 LamX NdefX
open K0 (De DeAll XCl spX withX)
/-- what is told of an own exception class, by its name -/
structure XR (P : Program) (w : World) (K : PySem.W.Frag) (mg : Str → Option Value) (base : Heap) (x : Str) (C : Addr) (fs : List Str) : Prop where
  cl : XCl K C
  gC : mg x = some (.ref C)
  no : ∀ n ∈ fs, PySem.W.findIn K (.ref C) n = some none
  ini : ∃ f fd, PySem.W.findIn K (.ref C) "__init__" = some (some (.ref f)) ∧ PySem.W.typeIn K (.ref f) = some (.type "function") ∧ FnOk P w K mg base CX0 1 f fd (("self" : Str) :: fs) (spX C fs) ∧ Binds K fd (("self" : Str) :: fs) []
theorem withX_at {H : Hp} {a dx C : Addr} {gs : List (Str × V)} : withX H C a dx gs a = some (exo a C (some dx)) := upd_same
theorem withX_dx {H : Hp} {a dx C : Addr} {gs : List (Str × V)} (ne : dx ≠ a) : withX H C a dx gs dx = some (exd dx gs) := (upd_ne ne).trans upd_same
/-- the making of such an exception, read behind its arguments -/
theorem rd_mk {C : Addr} {fs : List Str} {vs : List V} {H1 : Hp} {Q : XK} (hl : vs.length = fs.length) (hz : vs.length ≤ 1000) (k : ∀ (d : Addr) (H' : Hp), Same H1 H' → H1 d = none → H' d = some (.xd (fs.zip vs).reverse) → Q (.ref C) (some d) H') :
    vs.length ≤ 1000 ∧ ∀ a, H1 a = none → spX C fs (.ref a :: (vs ++ [])) (upd H1 a (exo a C none))
      (fun v H2 => v = .non ∧ ∃ (d : Addr) (gs : List (Str × V)), H2 a = some (exo a C (some d)) ∧ H2 d = some (exd d gs) ∧ H1 d = none ∧ Q (.ref C) (some d) (upd (del H2 a) d (.xd gs))) (fun _ _ _ => False) := by
  refine ⟨hz, fun a na => ⟨a, vs ++ [], rfl, by rw [List.append_nil]; exact hl, upd_same, fun dx nd ne => ?_⟩⟩
  rw [upd_ne ne] at nd
  refine ⟨rfl, dx, _, withX_at, withX_dx ne, nd, k dx _ (fun b o e => ?_) nd ?_⟩
  · have n1 : b ≠ a := ne_of_none e na
    have n2 : b ≠ dx := ne_of_none e nd
    rw [upd_ne n2, del_ne n1]
    show upd (upd (upd H1 a _) dx _) a _ b = some o
    rw [upd_ne n1, upd_ne n2, upd_ne n1]
    exact e
  · rw [List.append_nil]
    exact upd_same
end SK
namespace SK
open PySem PySem.Spec PyProof.Rows L2 LamX NdefX
open K0 (De DeAll XCl spX withX)
def Rows (H : Hp) (a : Addr) (xs : List V) : Prop := H a = some (.lst xs) ∨ H a = some (.tup xs)
end SK
namespace SK
open PySem PySem.Spec PyProof.Rows L2 LamX NdefX
open K0 (De DeAll XCl spX withX)
def ThrownN (E : XK) (C : Addr) (H : Hp) (gs : List (Str × V)) (T : List (Addr × Str)) : Prop := ∀ (H' : Hp) (d : Addr), ExtN H H' → Tabs T H' → H' d = some (.xd gs) → E (.ref C) (some d) H'
theorem Rows.seq {K : PySem.W.Frag} {H : Hp} {a : Addr} {xs : List V} (r : Rows H a xs) : SqL K H a xs ∨ SqT K H a xs := r.elim (fun h => .inl (.inl (.inl h))) fun h => .inr (.inl (.inl h))
end SK
namespace SK
open PySem PySem.Spec PyProof.Rows L2 LamX NdefX
abbrev Cl := Value × (Addr → Value → Option Addr → TS)
/-- what the clauses wish; i is the slot of their name -/
def wAsM (K : PySem.W.Frag) (Wout : WX) (i : Nat) (D : Ends) : List Cl → WX
  | [] => Wout
  | (c, ts) :: r => wAs K c i ts (wAsM K Wout i D r) D
inductive HdsAs (X : Cx) (n : Str) : List ExceptHandler → List Cl → Prop
  | nil : HdsAs X n [] []
  | cons {x : Str} {c : Value} {ts : Addr → Value → Option Addr → TS} {b₀ : Stmt} {suite : List Stmt} {np pos' : Pos} {hds : List ExceptHandler} {l : List Cl} (hc : Names X x c)
      (hsu : ∀ (a : Addr) (oe : Obj) (cls : Value) (d : Option Addr) (pn : List (Addr × Obj)), Zc cls d oe → (∃ vs, oe.data = .fields vs) → PSs (X.suite a ((a, oe) :: pn)) (b₀ :: suite) (ts a cls d)) (r : HdsAs X n hds l) :
      HdsAs X n (.ExceptHandler (some (.Name x np)) (some n) (b₀ :: suite) pos' :: hds) ((c, ts) :: l)
section
variable {X : Cx} {n : Str} {i : Nat} {body : List Stmt} {h₀ : ExceptHandler} {hds : List ExceptHandler} {l : List Cl} {pos : Pos} {tb : WX → TS} {Wout : WX}
theorem ps_try_asM (hs : X.stack = X.env :: X.outer) (hf : X.env.frame = some X.env.locals) (hN : X.N.Nodup) (hi : X.N[i]? = some n) (hln : X.env.kindOf n = some .local) (tk : Takes X Wout)
    (hb : ∀ (W : WX) (pn : List (Addr × Obj)) (xe : Value → Shared → Prop), Takes (X.tr pn xe) W → PassesOwn (model X.prog X.w) X.A X.env xe → PSs (X.tr pn xe) body (tb W))
    (hh : HdsAs X n (h₀ :: hds) l) : PS X (.Try body (h₀ :: hds) [] [] pos) (fun D σ H => tb (wAsM X.K Wout i D l) D σ H) := by
  refine ⟨fun pins s σ H D I h => ?_⟩
  have ok := I.ok
  have hfr : X.A.frames = some (X.env :: X.outer) := by rw [ok.frames, hs]
  have hloc : Loc X.env.scope n := .inl hln
  refine wpAny_Try_except ?_
  refine wpAny_mono ((hb (wAsM X.K Wout i D l) (X.pn ++ pins) (fun e s₁ => wpAny (model X.prog X.w) X.A (noteFrame e X.env) (fun _ s₂ => wpAny (model X.prog X.w) X.A (setFlight e none) (fun _ s₃ =>
    wpAny (model X.prog X.w) X.A (handleBy e X.env (h₀ :: hds)) (SP X pins D) X.xe s₃) X.xe s₂) X.xe s₁) (fun u s' xx => ?_) PassesOwn.looking).run [] s σ H D (I.toTry _) h) (fun f s1 hsp => ?_) (fun e s1 he => he)
  · obtain ⟨a, B, sI, pins', σ', H', cls, d, rfl, J', nb, up, sky, na, os, ag, w⟩ := xx
    have J : Inv X pins σ' H' sI := J'.ofTry ok
    have sky' : Sky B (X.env :: X.outer) a (Zc cls d) X.env.locals s'.heap := by rw [← hs]; exact sky
    show wpAny (model X.prog X.w) X.A (noteFrame (.ref a) X.env) _ _ _
    refine Sky.land Zc.steady hfr hf sky' fun h3 fl3 up3 => ?_
    have J3 : Inv X pins σ' H' { s' with heap := h3 } := J.landed nb fl3.1 (up.trans up3) os ag
    obtain ⟨oe3, vs3, he3, hz3, hd3⟩ := fl3.there
    have apart : ∀ {h : Heap} {o : Obj} {vs : Array Value}, h.FunFrames B (X.env :: X.outer) → h.get? a = some o → o.data = .fields vs → a ∉ frs (X.env :: X.outer) := fun {h o vs} ff e dd hm => by
      obtain ⟨_, o', e', hnf⟩ := ff.mem hm
      rw [e] at e'
      cases e'
      exact hnf _ dd
    have nfr := apart fl3.2.2.1 he3 hd3
    have nL : a ≠ X.env.locals := fun z => nfr (List.mem_filterMap.mpr ⟨X.env, List.mem_cons_self, by rw [hf, z]⟩)
    have nF : a ∉ X.fs := fun hm => by
      obtain ⟨e, he, q⟩ := List.mem_filterMap.mp hm
      exact nfr (List.mem_filterMap.mpr ⟨e, List.mem_cons_of_mem _ he, q⟩)
    have S3 := J3.suite he3 hd3 na nL nF
    have go : ∀ {hds' : List ExceptHandler} {l' : List Cl}, HdsAs X n hds' l' → wAsM X.K Wout i D l' cls d σ' H' → wpAny (model X.prog X.w) X.A (handleBy (.ref a) X.env hds') (SP X pins D) X.xe { s' with heap := h3 } := by
      intro hds' l' hk
      induction hk with
      | nil =>
        intro w
        refine wpAny_handleBy_nil ?_
        obtain ⟨k1, k2, k3, oe, vs, T, oT, ts', he, hz, hd, h1, hr⟩ := id fl3
        unfold PySem.passOn
        refine wpAny_bind (wpAny_field he hd h1 ?_)
        rw [if_neg (show ¬ ((Value.ref T == Value.none) = true) from by simp)]
        have fin : wpAny (model X.prog X.w) X.A (setFlight (.ref a) X.env.frame) (fun _ s4 => wpAny (model X.prog X.w) X.A (throw (.ref a) : Sem Flow) (SP X pins D) X.xe s4) X.xe { s' with heap := h3 } := by
          rw [hf]
          refine HandSPX.setFlight_upZ fl3 fun h4 hh4 up4 => wpAny_throw (tk _ _ ?_)
          exact ⟨a, B, sI, pins, σ', H', cls, d, rfl, J, nb, (up.trans up3).trans up4, .inr (.inr (by rw [hs]; exact hh4)), na, os, ag, w⟩
        first
          | exact wpAny_bind (wpAny_pure (wpAny_bind fin))
          | exact wpAny_bind fin
      | @cons x c ts b₀ suite np pos' hds2 l2 hc hsu r ih =>
        intro w
        obtain ⟨b, hb1, hyes, hno⟩ := w
        refine wpAny_handleBy_cons (codeAny_handlers_test ?_) (by intro q; cases q)
        have LT : PySem.W.Looks (model X.prog X.w) h3 (typeOf (.ref a)) cls := fun A Q E s k q => wpAny_typeOf_ref (k _ _ he3) (by rw [hz3.1]; exact q)
        have LM := PySem.W.exm_one (M := model X.prog X.w) (J3.kIn) LT hb1
        have test : ∀ {Q : Value → Shared → Prop} {E : Value → Shared → Prop}, Q c { s' with heap := h3 } → wpAny (model X.prog X.w) (X.A.mark (some (.ref a))) (eval (.Name x np) X.env) Q E { s' with heap := h3 } := fun {Q E} q => by
          obtain ⟨hg, hdbg, hm | ⟨hm, hv, hnn⟩⟩ := hc
          · exact ld_glob (X := X.suite a ((a, oe3) :: (X.pn ++ pins))) S3 hg hm q hdbg
          · exact ld_blt (X := X.suite a ((a, oe3) :: (X.pn ++ pins))) S3 hg hm hv q hnn hdbg
        refine test (LM.here ?_)
        cases b with
        | true =>
          refine codeAny_handlers_suite_as ?_
          refine HandSPX.lands_againZ fl3 fun h4 fl4 up4 => ?_
          have J4 : Inv X pins σ' H' { s' with heap := h4 } := J.landed nb fl4.1 ((up.trans up3).trans up4) os ag
          obtain ⟨oe4, vs4, he4, hz4, hd4⟩ := fl4.there
          have S4 := J4.suite he4 hd4 na nL nF
          refine store_ok (X := X.suite a ((a, oe4) :: (X.pn ++ pins))) (v := .ref a) S4 hN hi hloc rfl (fun s5 S5 => ?_) (.inr hln)
          refine wpAny_mono ((hsu a oe4 cls d (X.pn ++ pins) hz4 ⟨_, hd4⟩).run [] s5 _ H' _ S5 (hyes rfl a na)) (fun f s6 hsp => ?_) (fun _ _ z => False.elim z)
          have ends : ∀ {σ6 : St} {H6 : Hp} {Q : Shared → Prop}, Inv (X.suite a ((a, oe4) :: (X.pn ++ pins))) [] σ6 H6 s6 → (∀ s7, Inv X pins (σ6.set i none) H6 s7 → Q s7) →
              wpAny (model X.prog X.w) X.A (do bindName X.env n .none; unbindBehindTheSuite X.env n pos') (fun _ s7 => Q s7) X.xe s6 := fun {σ6 H6 Q} S6 hq => gone_ok (S6.unsuite ok) hN hi hln hq
          cases f with
          | next =>
            obtain ⟨σ6, H6, S6, q6⟩ := hsp
            exact ends S6 fun s7 J7 => ⟨_, _, J7, q6⟩
          | brk =>
            obtain ⟨σ6, H6, S6, q6⟩ := hsp
            exact ends S6 fun s7 J7 => ⟨_, _, J7, q6⟩
          | cont =>
            obtain ⟨σ6, H6, S6, q6⟩ := hsp
            exact ends S6 fun s7 J7 => ⟨_, _, J7, q6⟩
          | ret u =>
            obtain ⟨v6, σ6, H6, S6, r6, q6⟩ := hsp
            exact ends S6 fun s7 J7 => ⟨_, _, _, J7, r6, q6⟩
        | false =>
          show wpAny _ X.A (handleBy (.ref a) X.env hds2) _ _ _
          exact ih (hno rfl)
    exact go hh w
  · cases f with
    | next =>
      obtain ⟨σ', H', J', q⟩ := hsp
      exact wpAny_execs_nil ⟨σ', H', J'.ofTry ok, q⟩
    | brk =>
      obtain ⟨σ', H', J', q⟩ := hsp
      exact ⟨σ', H', J'.ofTry ok, q⟩
    | cont =>
      obtain ⟨σ', H', J', q⟩ := hsp
      exact ⟨σ', H', J'.ofTry ok, q⟩
    | ret u =>
      obtain ⟨v, σ', H', J', r, q⟩ := hsp
      exact ⟨v, σ', H', J'.ofTry ok, r, q⟩
end
/-- isinstance(e, c), e the exception that the suite holds, with fields -/
def rIsD (K : PySem.W.Frag) (a : Addr) (cls : Value) (d : Option Addr) : List V → Hp → VK → Prop := fun xs H Q => ∃ (D dx : Addr) (fs : List (Str × V)), cls = .ref D ∧ d = some dx ∧ ExcC K D ∧ H dx = some (.xd fs) ∧ rIsE K D a xs H Q
theorem call_isD {X : Cx} {a : Addr} {cls : Value} {d : Option Addr} {oe : Obj} {pn : List (Addr × Obj)} (hz : Zc cls d oe) (hf : ∃ vs, oe.data = .fields vs) : CallR (X.suite a ((a, oe) :: pn)) (.builtin "isinstance") (rIsD X.K a cls d) := by
  intro pins s σ H xs us Q I r h
  obtain ⟨D, dx, fs, rfl, rfl, C, hdx, c, cv, b, rfl, hcv, e, q⟩ := h
  obtain ⟨u1, u2, rfl, r1, r2⟩ := vals2 r
  obtain rfl : u1 = Value.ref a := r1
  obtain rfl := hcv _ r2
  obtain ⟨hget, _⟩ := I.pin (a, oe) (List.mem_append.mpr (.inl List.mem_cons_self))
  obtain ⟨vs, hv⟩ := hf
  have hx : ObjOk X.prog X.w H s.heap dx (.xd fs) := I.hok dx _ hdx
  obtain ⟨mA, hns, hr⟩ := hx
  obtain ⟨od, ho, hl⟩ := lookIn_ns hns
  have J : PySem.W.InstAt s.heap a oe D (some od) := ⟨hget, hz.1, by unfold PySem.W.notCls; rw [hv] <;> rfl, by rw [hz.2]; exact ho⟩
  have hc : (PySem.W.clsIn X.K D).isSome = true := by
    obtain ⟨cd, hcd, _⟩ := PySem.W.any_some C.hd
    rw [hcd]
    rfl
  exact PySem.W.kia_one (PySem.W.kitx_exc (ox := oe) (od := some od) hc C.hg C.hk C.hs C.ha C.hn C.ht C.hm) I.kIn J e (fun z => nomatch z) fun tk => ⟨.bl b, H, I.kept (t' := tk) fun _ _ z => z, rfl, q⟩
end SK
namespace SK
open PySem PySem.Spec PyProof.Rows L2 LamX NdefX
open K0 (De DeAll XCl spX withX)
structure FnG (P : Program) (w : World) (K : PySem.W.Frag) (mg : Str → Option Value) (base : Heap) (CX : CXT) (k : Nat) (f : Addr) (fd : FuncData) (ps : List Str) (sp : Sp) : Prop where
  len : ∀ vs H Q E, sp vs H Q E → vs.length = ps.length
  run : ∀ (A : Around) (outer : List Env) (s : Shared) (H : Hp) (args : Args) (us : List Value) (vs : List V) (Q : VK) (E : XK), A.guards = some [] → Room k A → Env0 P w K mg base A outer s H → BindsTo s fd args (ps.zip us) → Vals vs us → sp vs H Q E →
    codeAny (model P w) A (.call (.ref f) args) (CR CX outer P w H s Q E) s
theorem FnG.ok {P : Program} {w : World} {K : PySem.W.Frag} {mg : Str → Option Value} {base : Heap} {x qual : Str} {st : Stmt} {f : Addr} {fd : FuncData} {N ps : List Str} {k : Nat} {sp : Sp} (F : Fun K x qual st f fd) (S : FnScope N ps (defScope st)) (len : ∀ vs H Q E, sp vs H Q E → vs.length = ps.length)
    (hbody : ∀ (cdv : Value) (A : Around) (outer : List Env) (s : Shared) (H : Hp) (vs : List V) (Q : VK) (E : XK), (A.deeper (envOfC qual (defScope st) s.heap.objs.size f cdv)).guards = some [] → Room k (A.deeper (envOfC qual (defScope st) s.heap.objs.size f cdv)) → sp vs H Q E →
      ∃ t, PSs (cxOf CX0 P w K mg base N qual (defScope st) f cdv A outer s H E).nox (defBody st) t ∧ t { nx := fun _ H' => Q .non H', rt := Q } (start N vs) H) : FnG P w K mg base CX0 (k + 1) f fd ps sp := by
  obtain ⟨oc, od, kV, doc, pm, an, cdv, ct, osl, rfl, lk, hcd⟩ := F.ex
  refine ⟨len, fun A outer s H args us vs Q E hg hr e0 hb r hsp => run_ofS lk hcd S hr e0 hb r (len _ _ _ _ hsp) fun hr' => ?_⟩
  obtain ⟨t, h, q⟩ := hbody cdv A outer s H vs Q E hg hr' hsp
  exact ⟨t, h.nox, q⟩
def tCallG (sp : Sp) (E : XK) (t : TA) : TE := fun σ H Q => t σ H fun vs H1 => sp vs H1 Q E
section
variable {X : Cx} {CX : CXT} {k : Nat} {f C : Addr} {fd : FuncData} {ps : List Str} {ds : List Value} {dvs : List V} {sp : Sp} {E : XK} {x : Str} {p pos : Pos} {e : Expr} {es : List Expr} {t : TA}
theorem run_fnG {pins : List (Addr × Obj)} {σ : St} {H : Hp} {s : Shared} {Q : VK} {us : List Value} {vs : List V} (F : FnG X.prog X.w X.K X.mg X.base CX k f fd ps sp) (hgd : X.A.guards = some []) (hr : Room k X.A) (hb : Binds X.K fd ps []) (hx : Passes CX X E) (I : Inv X pins σ H s) (r : Vals vs us)
    (h : sp vs H Q E) : wpAny (model X.prog X.w) X.A (call (.ref f) us) (EP X pins σ Q) X.xe s := by
  have hl : us.length = ps.length := by
    rw [← r.length]
    exact F.len _ _ _ _ h
  have b := hb s us I.kIn (by rw [List.append_nil]; exact hl)
  rw [List.append_nil] at b
  refine wpAny_call (codeAny_mono (F.run X.A X.stack s H ⟨us, []⟩ us vs Q E hgd hr I.env0 b r h) fun r s' hq => ?_)
  cases r with
  | error e => exact hx pins σ H s e s' I hq
  | ok fl =>
    cases fl with
    | ret u => exact I.after hq
    | next => exact False.elim hq
    | brk => exact False.elim hq
    | cont => exact False.elim hq
theorem pe_callG (F : FnG X.prog X.w X.K X.mg X.base CX k f fd ps sp) (hgd : X.A.guards = some []) (hr : Room k X.A) (hg : Gl X x) (hm : X.mg x = some (.ref f)) (hk : PySem.W.keepIn X.K (.ref f) = true) (hb : Binds X.K fd ps []) (hx : Passes CX X E)
    (ha : PA X (e :: es) t) (hdb : (x == ("__debug__" : Str)) = false := by decide) (he : starEach (e :: es) X.env = (false, eval e X.env) :: starEach es X.env := by rfl) (hpl : (backTo pos (starEach es X.env)).any (·.1) = false := by rfl) :
    PE X (.Call (.Name x p) (e :: es) [] pos) (tCallG sp E t) := by
  refine ⟨fun pins s σ H Q I h => ?_⟩
  refine wpAny_Call_Name_kw (ld_glob I hg hm ?_ hdb)
  refine PySem.W.callWith_K (h₀ := X.base) I.ok.mod.kin hk (thn (ha.run pos pins s σ H _ I h) fun us s1 ⟨vs, H1, I1, r, q⟩ => ⟨I1.kIn, ?_⟩) he hpl
  exact run_fnG F hgd hr hb hx I1 r q
/-- C(..), what is raised wished for at the caller's slots -/
def tMakeS (C : Addr) (sp : Sp) (E : St → XK) (t : TA) : TE := fun σ H Q => t σ H fun vs H1 => ∀ x dx, H1 x = none → H1 dx = none → dx ≠ x → sp (.ref x :: vs) (upd (upd H1 dx (.own x)) x (.ins C dx [])) (fun v H2 => v = .non ∧ Q (.ref x) H2) (E σ)
theorem pe_makeS {E : St → XK} (M : Mk X.K C f) (F : FnOk X.prog X.w X.K X.mg X.base CX k f fd ps sp) (hr : Room (k + 1) X.A) (hg : Gl X x) (hm : X.mg x = some (.ref C)) (hb : Binds X.K fd ps []) (hx : ∀ σ, PassesAt CX X σ (E σ)) (ha : PA X (e :: es) t)
    (hdb : (x == ("__debug__" : Str)) = false := by decide) (he : starEach (e :: es) X.env = (false, eval e X.env) :: starEach es X.env := by rfl) (hpl : (backTo pos (starEach es X.env)).any (·.1) = false := by rfl) :
    PE X (.Call (.Name x p) (e :: es) [] pos) (tMakeS C sp E t) := by
  refine ⟨fun pins s σ H Q I h => ?_⟩
  refine wpAny_Call_Name_kw (ld_glob I hg hm ?_ hdb)
  refine PySem.W.callWith_K (h₀ := X.base) I.ok.mod.kin M.kp (thn (ha.run pos pins s σ H _ I h) fun us s1 ⟨vs, H1, I1, r, q⟩ => ⟨I1.kIn, ?_⟩) he hpl
  have hq := q (s1.heap.objs.size + 1) s1.heap.objs.size (I1.hok.fresh (Nat.le_succ _)) (I1.hok.fresh (Nat.le_refl _)) (Nat.ne_of_lt (Nat.lt_succ_self _))
  have I2 := Inv.made (C := C) I1
  have r2 : Vals (V.ref (s1.heap.objs.size + 1) :: vs) (Value.ref (s1.heap.objs.size + 1) :: us) := .cons rfl r
  have hl : (Value.ref (s1.heap.objs.size + 1) :: us).length = ps.length := by
    have z := r2.length
    rw [F.len _ _ _ _ hq] at z
    exact z.symm
  have b := hb _ (Value.ref (s1.heap.objs.size + 1) :: us) I2.kIn (by rw [List.append_nil]; exact hl)
  rw [List.append_nil] at b
  show wpAny _ _ (call (.ref C) us) _ _ _
  refine wpAny_call (make_map (f := f) I1.kIn M.makes M.init (beq_iff_eq.mp M.fn) (codeAny_mono (F.run _ X.stack _ _ ⟨Value.ref (s1.heap.objs.size + 1) :: us, []⟩ (Value.ref (s1.heap.objs.size + 1) :: us) _ _ (E σ) (hr.make C us [])
    (I2.env0.make C us []) b r2 hq) fun r s' hq' => ?_))
  cases r with
  | error er => exact hx σ pins _ _ er s' I2 hq'
  | ok fl =>
    cases fl with
    | ret u =>
      obtain ⟨v, H', I3, rv, ev, q3⟩ := I2.after hq'
      subst ev
      exact ⟨rv, ⟨V.ref (s1.heap.objs.size + 1), H', I3, rfl, q3⟩⟩
    | next => exact False.elim hq'
    | brk => exact False.elim hq'
    | cont => exact False.elim hq'
/-- repr(x), x any data -/
def rRepD (K : PySem.W.Frag) : List V → Hp → VK → Prop := fun xs H Q => ∃ (v : V) (d : PyData), xs = [v] ∧ De K H v d ∧ d.showable = true ∧ d.depth ≤ 8 ∧ d.shown.length ≤ sizeLine ∧ Q (.str d.shown) H
theorem call_repD (hg : X.A.guards = some []) (hu : X.A.units + 64 < cLine) (hsys : ∃ o, X.K.lookup sysModules = some o) : CallR X (.builtin "repr") (rRepD X.K) := by
  intro pins s σ H xs us Q I r h
  obtain ⟨v, d, rfl, hd, hsh, hdp, hz, q⟩ := h
  cases hd with
  | non =>
    obtain ⟨u, rfl, ru⟩ := vals1 r
    obtain rfl : u = Value.none := ru
    exact PySem.P.repr_of_none ⟨.str _, H, I.tok _, ⟨_, rfl⟩, q⟩
  | bl b =>
    obtain ⟨u, rfl, ru⟩ := vals1 r
    obtain rfl : u = Value.bool b := ru
    exact PySem.P.repr_of_bool ⟨.str _, H, I.tok _, ⟨_, rfl⟩, by cases b <;> exact q⟩
  | int i =>
    obtain ⟨u, rfl, t, rfl⟩ := vals1 r
    refine PySem.P.repr_of_int (by simpa [PyData.showable] using hsh) ⟨.str _, H, I.tok _, ⟨_, rfl⟩, q⟩
  | str x =>
    obtain ⟨u, rfl, t, rfl⟩ := vals1 r
    exact PySem.P.repr_of_str ⟨.str _, H, I.tok _, ⟨_, rfl⟩, q⟩ hz
  | @lst a vs ds ha hds => exact K0.call_rep hg hu hsys pins s σ H _ us Q I r ⟨a, _, rfl, .lst ha hds, hsh, hdp, hz, q⟩
  | @tup a vs ds ha hds => exact K0.call_rep hg hu hsys pins s σ H _ us Q I r ⟨a, _, rfl, .tup ha hds, hsh, hdp, hz, q⟩
  | @dic a ha => exact K0.call_rep hg hu hsys pins s σ H _ us Q I r ⟨a, _, rfl, .dic ha, hsh, hdp, hz, q⟩
end
end SK
namespace SK
open PySem PySem.Spec PyProof.Rows L2 LamX NdefX
open K0 (De DeAll XCl spX withX)
theorem xf_of {K : PySem.W.Frag} {C : Addr} (c : XCl K C) : XfC K C := ⟨c.ga, c.gg, c.T.exC, c.hd⟩
theorem ec_of {K : PySem.W.Frag} {C : Addr} (c : XCl K C) : ExcC K C := ⟨c.ga, c.gg, c.T.exC, c.hd, c.ha, c.hn, c.ht, c.hm⟩
end SK
namespace SK
open PySem PySem.Spec PyProof.Rows L2 LamX NdefX
open K0 (De DeAll XCl spX withX)
def pen (l : Addr) (k lf : Int) : List (Key × V) := [(Sum.inr "cells", V.ref l), (Sum.inr "next", V.int k), (Sum.inr "left", V.int lf)]
theorem pen_cells (l : Addr) (k lf : Int) : valV (pen l k lf) (Sum.inr "cells") = some (.ref l) := by kernel_rfl
theorem pen_next (l : Addr) (k lf : Int) : valV (pen l k lf) (Sum.inr "next") = some (.int k) := by kernel_rfl
theorem pen_left (l : Addr) (k lf : Int) : valV (pen l k lf) (Sum.inr "left") = some (.int lf) := by kernel_rfl
theorem pen_put_next (l : Addr) (k lf j : Int) : putK (pen l k lf) (Sum.inr "next") (.int j) = pen l j lf := by kernel_rfl
theorem pen_put_left (l : Addr) (k lf j : Int) : putK (pen l k lf) (Sum.inr "left") (.int j) = pen l k j := by kernel_rfl
theorem pen_merge (l : Addr) (k lf : Int) : mergeK [] (pen l k lf) = pen l k lf := by kernel_rfl
structure PenAt (H : Hp) (p l : Addr) (ns : List Int) (k lf : Int) : Prop where
  dc : H p = some (.dK (pen l k lf))
  ls : H l = some (.lst (ns.map V.int))
/-- all but p is as it was -/
def SameBut (p : Addr) (H H' : Hp) : Prop := ∀ b o, b ≠ p → H b = some o → H' b = some o
theorem SameBut.trans {p : Addr} {H H1 H2 : Hp} (a : SameBut p H H1) (b : SameBut p H1 H2) : SameBut p H H2 := fun c o n h => b c o n (a c o n h)
theorem cut63 {ns : List Int} (h : ns.length ≤ 63) : cutV (ns.map V.int) none (some 63) = ns.map V.int := by
  unfold cutV
  rw [HT.sIx_none, show ((63 : Int)) = ((63 : Nat) : Int) from rfl, HT.sIx_nat, List.drop_zero, List.length_map, Nat.min_eq_right h, Nat.sub_zero, List.take_of_length_le (by rw [List.length_map]; exact Nat.le_refl _)]
def spPen (K : PySem.W.Frag) : Sp := fun vs H Q _ => ∃ (a : Addr) (ns : List Int), vs = [.ref a] ∧ SqL K H a (ns.map V.int) ∧ ns.length ≤ 63 ∧ ∀ (H' : Hp) (p l : Addr), Same H H' → PenAt H' p l ns 0 0 → Q (.ref p) H'
section
variable {P : Program} {w : World} {K : PySem.W.Frag} {mg : Str → Option Value} {base : Heap} {f : Addr} {fd : FuncData}
theorem scPen : FnScope ["script"] ["script"] (defScope (top 8)) := ⟨rfl, rfl, rfl, by decide +kernel, rfl, by decide +kernel, by decide +kernel⟩
theorem ok_pen (F : Fun K "_law_pen_of" "_law_pen_of" (top 8) f fd) (gL : mg "list" = none) : FnOk P w K mg base CX0 1 f fd ["script"] (spPen K) := by
  refine F.ok scPen (fun vs H Q E h => ?_) (fun cdv A outer s H vs Q E hr h => ?_)
  · obtain ⟨a, ns, rfl, _⟩ := h
    rfl
  · obtain ⟨a, ns, rfl, hS, hn, k⟩ := h
    refine ⟨_, pss_one (ps_ret (pe_disp (pps_cons pe_str (pe_callTy call_list_of (by rfl) gL PyProof.Rows.boot_list (pa_cons (pe_slice sl_list (pv 0) po_none (po_some pe_int)) pa_nil)) (pps_cons pe_str pe_int (pps_cons pe_str pe_int pps_nil))) rfl rfl (by simp) (by decide))), ?_⟩
    intro p hp
    refine ⟨_, rfl, 63, rfl, a, ns.map V.int, rfl, ?_, fun q hq => ?_⟩
    · exact Same.seq (fun b o e => by rw [upd_ne (ne_of_none e hp)]; exact e) hS
    rw [cut63 hn]
    refine ⟨q, ns.map V.int, rfl, .inl (.inl (.inl upd_same)), fun l hl => ?_⟩
    have npq : p ≠ q := ne_of_none (H := upd H p (.dK [])) upd_same hq
    have npl : p ≠ l := ne_of_none (H := upd (upd H p (.dK [])) q (.lst (ns.map V.int))) (by rw [upd_ne npq, upd_same]) hl
    refine ⟨by rw [upd_ne npl, upd_ne npq, upd_same], pen l 0 0, rfl, (by show 3 ≤ 15; decide), ?_⟩
    rw [pen_merge]
    refine k _ p l (fun b o e => ?_) ⟨upd_same, ?_⟩
    · have n1 : b ≠ p := ne_of_none e hp
      have e1 : upd H p (.dK []) b = some o := by rw [upd_ne n1]; exact e
      have n2 : b ≠ q := ne_of_none e1 hq
      have e2 : upd (upd H p (.dK [])) q (.lst (ns.map V.int)) b = some o := by rw [upd_ne n2]; exact e1
      have n3 : b ≠ l := ne_of_none e2 hl
      rw [upd_ne n1, upd_ne n3]
      exact e2
    · rw [upd_ne npl.symm, upd_same]
theorem upd_but {p : Addr} {o : HO} (H : Hp) : SameBut p H (upd H p o) := fun c u n h => by
  rw [upd_ne n]
  exact h
/-- the draw: a number below the base; the pen's numbers may change -/
def spDraw : Sp := fun vs H Q _ => ∃ (p l : Addr) (ns : List Int) (k lf b : Int), vs = [.ref p, .int b] ∧ PenAt H p l ns k lf ∧ ns.length ≤ 63 ∧ 0 ≤ k ∧ k ≤ 100000 ∧ 0 ≤ lf ∧ 0 < b ∧ b ≤ 1000000000 ∧
  ∀ (H' : Hp) (k' lf' d : Int), k' ≤ k + 1 → 0 ≤ k' → 0 ≤ lf' → 0 ≤ d → d < b → SameBut p H H' → PenAt H' p l ns k' lf' → Q (.int d) H'
theorem scD : FnScope ["pen", "many", "digit", "index", "size", "cell", "mixed"] ["pen", "many"] (defScope (top 9)) := ⟨rfl, rfl, rfl, by decide +kernel, rfl, by decide +kernel, by decide +kernel⟩
theorem ok_draw (F : Fun K "_law_draw" "_law_draw" (top 9) f fd) (gI : mg "int" = none) (gN : mg "len" = none) (gA : mg "abs" = none) : FnOk P w K mg base CX0 1 f fd ["pen", "many"] spDraw := by
  refine F.ok scD (fun vs H Q E h => ?_) (fun cdv A outer s H vs Q E hr h => ?_)
  · obtain ⟨p, l, ns, k, lf, b, rfl, _⟩ := h
    rfl
  · obtain ⟨p, l, ns, k, lf, b, rfl, ⟨hd, hl⟩, hn, hk0, hk1, hf, hb0, hb1, kk⟩ := h
    have hu := hu_of hr
    have hu64 := hr.units
    refine ⟨_, pss_cons (ps_if (pt_cmpR op_gt (pe_dget hu (pv 0) pe_str (fun _ _ => rfl)) pe_int (nomark _)) (pss_cons (ps_set (i := 2) scD.nd rfl (Or.inl rfl) (pe_op op_mod (pe_callTy call_int1 (by rfl) gI PyProof.Rows.boot_int (pa_cons (pe_dget hu (pv 0) pe_str (fun _ _ => rfl)) pa_nil)) (pv 1))) (pss_cons (ps_dput hu (pv 0) pe_str (pe_op op_fdiv (pe_dget hu (pv 0) pe_str (fun _ _ => rfl)) (pv 1)) rfl) (pss_one (ps_ret (pv 2))))) pss_nil)
      (pss_cons (ps_par (i := 3) (j := 4) rfl scD.nd rfl rfl (by decide) rfl rfl (pa_cons (pe_dget hu (pv 0) pe_str (fun _ _ => rfl)) (pa_cons (pe_callB call_len_seq (by rfl) gN PySem.boot_len (pa_cons (pe_dget hu (pv 0) pe_str (fun _ _ => rfl)) pa_nil)) pa_nil)) rfl)
      (pss_cons (ps_dput hu (pv 0) pe_str (pe_op op_add (pv 3) pe_int) rfl)
      (pss_cons (ps_if (pt_cmpR op_eq (pv 4) pe_int (nomark _)) (pss_one (ps_ret (pe_op op_mod (pe_callTy call_int1 (by rfl) gI PyProof.Rows.boot_int (pa_cons (pe_op op_add (pe_op op_mul pe_int (pv 3)) pe_int) pa_nil)) (pv 1)))) pss_nil)
      (pss_cons (ps_set (i := 5) scD.nd rfl (Or.inl rfl) (pe_ix ix_list (pe_dget hu (pv 0) pe_str (fun _ _ => rfl)) (pe_op op_mod (pe_callTy call_int1 (by rfl) gI PyProof.Rows.boot_int (pa_cons (pv 3) pa_nil)) (pv 4)) (fun _ _ => rfl)))
      (pss_cons (ps_if ((pw_and (pt_cmpR op_lt (pv 3) (pv 4) (nomark _)) (pw_and1 (pt_cmpR op_ge (pe_callB call_abs (by rfl) gA PyProof.Rows.boot_abs (pa_cons (pv 5) pa_nil)) (pe_op op_pow pe_int pe_int) (nomark _)))).pt)
        (pss_cons (ps_dput hu (pv 0) pe_str (pe_op op_fdiv (pe_op op_sub (pe_callB call_abs (by rfl) gA PyProof.Rows.boot_abs (pa_cons (pv 5) pa_nil)) (pe_op op_pow pe_int pe_int)) (pv 1)) rfl) (pss_one (ps_ret (pe_op op_mod (pe_callTy call_int1 (by rfl) gI PyProof.Rows.boot_int (pa_cons (pe_op op_sub (pe_callB call_abs (by rfl) gA PyProof.Rows.boot_abs (pa_cons (pv 5) pa_nil)) (pe_op op_pow pe_int pe_int)) pa_nil)) (pv 1))))) pss_nil)
      (pss_cons (ps_set (i := 6) scD.nd rfl (Or.inl rfl) (pe_op op_add (pe_op op_mul (pe_op op_mod (pe_callTy call_int1 (by rfl) gI PyProof.Rows.boot_int (pa_cons (pv 5) pa_nil)) pe_int) pe_int) (pe_op op_mul (pe_op op_mul pe_int (pv 3)) (pv 3))))
      (pss_cons (ps_set (i := 6) scD.nd rfl (Or.inl rfl) (pe_op op_mod (pe_callTy call_int1 (by rfl) gI PyProof.Rows.boot_int (pa_cons (pe_op op_add (pe_op op_add (pv 6) (pe_op op_mul pe_int (pv 3))) pe_int) pa_nil)) pe_int))
      (pss_cons (ps_set (i := 6) scD.nd rfl (Or.inl rfl) (pe_op op_mod (pe_callTy call_int1 (by rfl) gI PyProof.Rows.boot_int (pa_cons (pe_op op_add (pe_op op_add (pe_op op_add (pe_op op_mul (pv 6) (pv 6)) (pe_op op_mul pe_int (pv 6))) (pe_op op_mul pe_int (pv 3))) pe_int) pa_nil)) pe_int))
      (pss_one (ps_ret (pe_op op_mod (pe_callTy call_int1 (by rfl) gI PyProof.Rows.boot_int (pa_cons (pe_op op_fdiv (pe_op op_mod (pe_callTy call_int1 (by rfl) gI PyProof.Rows.boot_int (pa_cons (pe_op op_mul (pv 6) (pe_op op_add (pv 6) pe_int)) pa_nil)) pe_int) pe_int) pa_nil)) (pv 1)))))))))))), ?_⟩
    have npl : p ≠ l := ne_of hd hl (by intro z; cases z)
    have gL : DGet H p (.str "left") (some (.int lf)) := by
      have z := DGet.k (k := Sum.inr "left") hd
      rw [pen_left] at z
      exact z
    have gO : DGet H p (.str "next") (some (.int k)) := by
      have z := DGet.k (k := Sum.inr "next") hd
      rw [pen_next] at z
      exact z
    have gC : DGet H p (.str "cells") (some (.ref l)) := by
      have z := DGet.k (k := Sum.inr "cells") hd
      rw [pen_cells] at z
      exact z
    have hlen : (ns.map V.int).length = ns.length := List.length_map _
    refine ⟨V.ref p, rfl, p, V.int lf, rfl, gL, lf, 0, rfl, rfl, _, rfl, ?_⟩
    refine ite2 (fun c => ?_) (fun c => ?_)
    · have c' : 0 < lf := of_decide_eq_true c
      refine ⟨V.ref p, rfl, p, V.int lf, rfl, gL, .inl ⟨lf, rfl, V.int b, rfl, lf, b, rfl, rfl, hb0, ?_⟩⟩
      refine ⟨V.ref p, rfl, p, V.int lf, rfl, gL, V.int b, rfl, lf, b, rfl, rfl, ⟨hb0, by omega⟩, V.ref p, rfl, p, _, rfl, DPut.k (k := Sum.inr "left") hd (by show 3 < sizeLine; decide), V.int (lf % b), rfl, ?_⟩
      rw [pen_put_left]
      exact kk _ k (lf / b) (lf % b) (by omega) hk0 (Int.ediv_nonneg hf (Int.le_of_lt hb0)) (Int.emod_nonneg _ (by omega)) (Int.emod_lt_of_pos _ hb0) (upd_but H) ⟨upd_same, by rw [upd_ne npl.symm]; exact hl⟩
    · refine ⟨V.ref p, rfl, p, V.int k, rfl, gO, V.ref p, rfl, p, V.ref l, rfl, gC, l, ns.map V.int, rfl, .inl (.inl (.inl hl)), V.int k, V.int (ns.length : Nat), by rw [hlen], ?_⟩
      refine ⟨V.int k, rfl, k, 1, rfl, rfl, V.ref p, rfl, p, _, rfl, DPut.k (k := Sum.inr "next") hd (by show 3 < sizeLine; decide), ?_⟩
      rw [pen_put_next]
      have s1 : SameBut p H (upd H p (.dK (pen l (k + 1) lf))) := upd_but H
      have hd1 : upd H p (.dK (pen l (k + 1) lf)) p = some (.dK (pen l (k + 1) lf)) := upd_same
      have hl1 : upd H p (.dK (pen l (k + 1) lf)) l = some (.lst (ns.map V.int)) := by
        rw [upd_ne npl.symm]
        exact hl
      generalize upd H p (.dK (pen l (k + 1) lf)) = H2 at s1 hd1 hl1
      have gC2 : DGet H2 p (.str "cells") (some (.ref l)) := by
        have z := DGet.k (k := Sum.inr "cells") hd1
        rw [pen_cells] at z
        exact z
      have S2 : SqL K H2 l (ns.map V.int) := .inl (.inl hl1)
      refine ⟨V.int (ns.length : Nat), rfl, rfl, _, rfl, ?_⟩
      refine ite2 (fun c2 => ?_) (fun c2 => ?_)
      · refine ⟨V.int k, rfl, 7, k, rfl, rfl, .inl ⟨by decide, by decide⟩, _, 3, rfl, rfl, .inl ⟨_, rfl, V.int b, rfl, _, b, rfl, rfl, hb0, ?_⟩⟩
        exact kk H2 (k + 1) lf _ (Int.le_refl _) (by omega) hf (Int.emod_nonneg _ (by omega)) (Int.emod_lt_of_pos _ hb0) s1 ⟨hd1, hl1⟩
      have hne : 0 < ns.length := by
        rcases Nat.eq_zero_or_pos ns.length with z | z
        · rw [z] at c2
          exact absurd (decide_eq_true rfl) c2
        · exact z
      have hi0 : 0 ≤ k % (ns.length : Int) := Int.emod_nonneg _ (by omega)
      have hi1 : k % (ns.length : Int) < (ns.length : Int) := Int.emod_lt_of_pos _ (by omega)
      obtain ⟨j, hj⟩ : ∃ j : Nat, k % (ns.length : Int) = (j : Int) := ⟨(k % (ns.length : Int)).toNat, (Int.toNat_of_nonneg hi0).symm⟩
      obtain ⟨c, hc⟩ : ∃ c, ns[j]? = some c := ⟨_, List.getElem?_eq_getElem (by omega)⟩
      have hcV : (ns.map V.int)[j]? = some (.int c) := by
        rw [List.getElem?_map, hc]
        all_goals rfl
      refine ⟨V.ref p, rfl, p, V.ref l, rfl, gC2, V.int k, rfl, .inl ⟨k, rfl, V.int (ns.length : Nat), rfl, k, _, rfl, rfl, (by omega), l, ns.map V.int, _, .int c, rfl, rfl, S2, at_of hj hcV, ?_⟩⟩
      refine ⟨V.int k, rfl, V.int (ns.length : Nat), rfl, k, _, rfl, rfl, _, rfl, ?_⟩
      refine ite2 (fun c3 => ?_) (fun c3 => iteF ?_)
      refine ⟨V.int c, rfl, c, rfl, 10, 18, rfl, rfl, ⟨by decide, by decide, by decide⟩, _, _, rfl, rfl, _, rfl, ?_⟩
      refine ite2 (fun c4 => ?_) (fun c4 => ?_)
      · have c4' := of_decide_eq_true c4
        refine ⟨V.int c, rfl, c, rfl, 10, 18, rfl, rfl, ⟨by decide, by decide, by decide⟩, _, _, rfl, rfl, V.int b, rfl, _, b, rfl, rfl, ⟨hb0, by omega⟩, V.ref p, rfl, p, _, rfl, DPut.k (k := Sum.inr "left") hd1 (by show 3 < sizeLine; decide), ?_⟩
        rw [pen_put_left]
        refine ⟨V.int c, rfl, c, rfl, 10, 18, rfl, rfl, ⟨by decide, by decide, by decide⟩, _, _, rfl, rfl, .inl ⟨_, rfl, V.int b, rfl, _, b, rfl, rfl, hb0, ?_⟩⟩
        exact kk _ (k + 1) _ _ (Int.le_refl _) (by omega) (Int.ediv_nonneg (by omega) (Int.le_of_lt hb0)) (Int.emod_nonneg _ (by omega)) (Int.emod_lt_of_pos _ hb0) (s1.trans (upd_but H2)) ⟨upd_same, by rw [upd_ne npl.symm]; exact hl1⟩
      all_goals
        refine ⟨V.int c, rfl, .inl ⟨c, rfl, c, 4294967197, rfl, rfl, (by show (0 : Int) < 4294967197; decide), _, 52711, rfl, rfl, .inr ⟨by decide, by decide⟩, ?_⟩⟩
        refine ⟨V.int k, rfl, 20353, k, rfl, rfl, .inl ⟨by decide, by decide⟩, V.int k, rfl, _, k, rfl, rfl, .inr ⟨by omega, by omega⟩, _, _, rfl, rfl, ?_⟩
        dsimp only
        generalize (c % 4294967197 * 52711 + 20353 * k * k) = e
        refine ⟨V.int e, rfl, V.int k, rfl, 1531, k, rfl, rfl, .inl ⟨by decide, by decide⟩, _, _, rfl, rfl, _, 11, rfl, rfl, .inl ⟨_, rfl, _, 4294967189, rfl, rfl, (by show (0 : Int) < 4294967189; decide), ?_⟩⟩
        dsimp only
        have a0 : 0 ≤ (e + 1531 * k + 11) % 4294967189 := Int.emod_nonneg _ (by decide)
        have a1 : (e + 1531 * k + 11) % 4294967189 < 4294967189 := Int.emod_lt_of_pos _ (by decide)
        generalize (e + 1531 * k + 11) % 4294967189 = m at a0 a1
        refine ⟨V.int m, rfl, V.int m, rfl, m, m, rfl, rfl, .inl ⟨by omega, by omega⟩, V.int m, rfl, 68903, m, rfl, rfl, .inl ⟨by decide, by decide⟩, _, _, rfl, rfl, ?_⟩
        refine ⟨V.int k, rfl, 23, k, rfl, rfl, .inl ⟨by decide, by decide⟩, _, _, rfl, rfl, _, 7, rfl, rfl, .inl ⟨_, rfl, _, 4294967161, rfl, rfl, (by show (0 : Int) < 4294967161; decide), ?_⟩⟩
        dsimp only
        have b0' : 0 ≤ (m * m + 68903 * m + 23 * k + 7) % 4294967161 := Int.emod_nonneg _ (by decide)
        have b1' : (m * m + 68903 * m + 23 * k + 7) % 4294967161 < 4294967161 := Int.emod_lt_of_pos _ (by decide)
        generalize (m * m + 68903 * m + 23 * k + 7) % 4294967161 = u at b0' b1'
        refine ⟨V.int u, rfl, V.int u, rfl, u, 57037, rfl, rfl, u, _, rfl, rfl, .inl ⟨by omega, by omega⟩, .inl ⟨_, rfl, _, 4294967143, rfl, rfl, (by show (0 : Int) < 4294967143; decide), _, 64, rfl, rfl, ⟨by decide, by decide⟩, .inl ⟨_, rfl, V.int b, rfl, _, b, rfl, rfl, hb0, ?_⟩⟩⟩
        exact kk H2 (k + 1) lf _ (Int.le_refl _) (by omega) hf (Int.emod_nonneg _ (by omega)) (Int.emod_lt_of_pos _ hb0) s1 ⟨hd1, hl1⟩
end
end SK
namespace SK
open PySem PySem.Spec PyProof.Rows L2 LamX NdefX
open K0 (De DeAll XCl spX withX)
theorem IxR.or {X : Cx} {r1 r2 : R2} (h1 : IxR X r1) (h2 : IxR X r2) : IxR X (fun x y H Q => r1 x y H Q ∨ r2 x y H Q) := by
  intro value slice pins s σ H x y v u Q I rx ry h hs
  rcases h with h | h
  · exact h1 value slice pins s σ H x y v u Q I rx ry h hs
  · exact h2 value slice pins s σ H x y v u Q I rx ry h hs
theorem CallR.or {X : Cx} {f : Value} {r1 r2 : List V → Hp → VK → Prop} (h1 : CallR X f r1) (h2 : CallR X f r2) : CallR X f (fun xs H Q => r1 xs H Q ∨ r2 xs H Q) := by
  intro pins s σ H xs us Q I r h
  rcases h with h | h
  · exact h1 pins s σ H xs us Q I r h
  · exact h2 pins s σ H xs us Q I r h
/-- a list or a text, and what stands in it -/
def Items (H : Hp) (v : V) (xs : List V) : Prop := (∃ a, v = .ref a ∧ H a = some (.lst xs)) ∨ ∃ z : Str, v = .str z ∧ xs = z.cps.toList.map fun c => V.str ⟨#[c]⟩
def spPick : Sp := fun vs H Q _ => ∃ (p l : Addr) (v : V) (ns : List Int) (k lf : Int) (xs : List V), vs = [.ref p, v] ∧ PenAt H p l ns k lf ∧ ns.length ≤ 63 ∧ 0 ≤ k ∧ k ≤ 100000 ∧ 0 ≤ lf ∧ Items H v xs ∧ 0 < xs.length ∧ xs.length ≤ 1000 ∧
  ∀ (H' : Hp) (k' lf' : Int) (y : V), k' ≤ k + 1 → 0 ≤ k' → 0 ≤ lf' → y ∈ xs → SameBut p H H' → PenAt H' p l ns k' lf' → Q y H'
section
variable {P : Program} {w : World} {K : PySem.W.Frag} {mg : Str → Option Value} {base : Heap} {f fD fP : Addr} {fd fdD fdP : FuncData}
theorem sc28 : FnScope ["pen", "items"] ["pen", "items"] (defScope (top 10)) := ⟨rfl, rfl, rfl, by decide +kernel, rfl, by decide +kernel, by decide +kernel⟩
theorem ok_pick (F : Fun K "_law_pick" "_law_pick" (top 10) f fd) (gN : mg "len" = none) (gD : mg "_law_draw" = some (.ref fD)) (kD : PySem.W.keepIn K (.ref fD) = true) (GD : FnOk P w K mg base CX0 1 fD fdD ["pen", "many"] spDraw)
    (bD : Binds K fdD ["pen", "many"] []) : FnOk P w K mg base CX0 2 f fd ["pen", "items"] spPick := by
  refine F.ok sc28 (fun vs H Q E h => ?_) (fun cdv A outer s H vs Q E hr h => ?_)
  · obtain ⟨p, l, v, ns, k, lf, xs, rfl, _⟩ := h
    rfl
  · obtain ⟨p, l, v, ns, k, lf, xs, rfl, hp, hn, hk0, hk1, hf, hv, h0, h1, kk⟩ := h
    refine ⟨_, pss_one (ps_ret (pe_ix (IxR.or ix_list ix_str) (pv 1) (pe_call GD hr (by rfl) gD kD bD .nil pass0 (pa_cons (pv 0) (pa_cons (pe_callB (CallR.or call_len_seq call_len_str) (by rfl) gN PySem.boot_len (pa_cons (pv 1) pa_nil)) pa_nil))) (fun _ _ => rfl))), ?_⟩
    rcases hv with ⟨a, rfl, ha⟩ | ⟨z, rfl, rfl⟩
    · have nap : a ≠ p := ne_of ha hp.dc (by intro z; cases z)
      refine ⟨V.ref a, rfl, V.ref p, rfl, V.ref a, rfl, .inl ⟨a, xs, rfl, .inl (.inl (.inl ha)), p, l, ns, k, lf, _, rfl, hp, hn, hk0, hk1, hf, by omega, by omega, fun H' k' lf' d e1 e2 e3 e4 e5 s5 P5 => ?_⟩⟩
      obtain ⟨j, hj⟩ : ∃ j : Nat, d = (j : Int) := ⟨d.toNat, (Int.toNat_of_nonneg e4).symm⟩
      obtain ⟨v, hv⟩ : ∃ v, xs[j]? = some v := ⟨_, List.getElem?_eq_getElem (by omega)⟩
      exact .inl ⟨a, xs, d, v, rfl, rfl, .inl (.inl (s5 _ _ nap ha)), at_of hj hv, kk H' k' lf' v e1 e2 e3 (List.mem_of_getElem? hv) s5 P5⟩
    · rw [List.length_map] at h0 h1
      have ez : z.length = z.cps.toList.length := by rw [Array.length_toList]; rfl
      have hz : z.length ≤ sizeLine := by
        have t : (1000 : Nat) < sizeLine := by decide
        omega
      refine ⟨V.str z, rfl, V.ref p, rfl, V.str z, rfl, .inr ⟨z, rfl, hz, p, l, ns, k, lf, _, rfl, hp, hn, hk0, hk1, hf, by omega, by omega, fun H' k' lf' d e1 e2 e3 e4 e5 s5 P5 => ?_⟩⟩
      obtain ⟨j, hj⟩ : ∃ j : Nat, d = (j : Int) := ⟨d.toNat, (Int.toNat_of_nonneg e4).symm⟩
      obtain ⟨c, hc⟩ : ∃ c, z.cps.toList[j]? = some c := ⟨_, List.getElem?_eq_getElem (by omega)⟩
      exact .inr ⟨z, d, c, rfl, rfl, hz, (by rw [hj]; exact atI_nat hc), kk H' k' lf' _ e1 e2 e3 (List.mem_map.mpr ⟨c, List.mem_of_getElem? hc, rfl⟩) s5 P5⟩
end
end SK
namespace SK
open PySem PySem.Spec PyProof.Rows L2 LamX NdefX
open K0 (De DeAll XCl spX withX)
theorem seq_ix {d : Int} {j n : Nat} (h : d = (j : Int)) (hj : j < n) : seqIndex? d n = some j := by
  subst h
  unfold seqIndex?
  have h1 : ¬ ((j : Int) < 0) := by omega
  have h2 : (j : Int) < (n : Int) := by omega
  simp [h1, h2, hj]
end SK
/-! ### operators by own methods -/
namespace PySem.W
open PySem PySem.Calls PyProof.Rows Builtin
section
variable {prog : Program} {w : World} {A : Around} {E : Value → Shared → Prop} {s : Shared} {K : Frag} {x C f g : Addr} {ox : Obj} {od : Option Obj}
theorem rule_intT {nm : String} (X : K.In s.heap) (h1 : findIn K (.ref C) (PySem.dunder nm) = some (some (.ref f))) (h2 : findIn K (.ref C) (dunderR nm) = some (some (.ref g))) : Looks (model prog w) s.heap (numberSlotInPython (.ref C) nm) true := by
  intro A Q E s' k q
  unfold numberSlotInPython
  refine wpAny_bind (looks_findIn X h1 A _ E s' k ?_)
  refine wpAny_bind (m := calledByName (.ref C) (PySem.dunder nm) (some (.ref f))) (wpAny_pure ?_)
  refine wpAny_bind (looks_findIn X h2 A _ E s' k ?_)
  refine wpAny_bind (m := calledByName (.ref C) (dunderR nm) (some (.ref g))) (wpAny_pure ?_)
  rw [if_pos (show (true || true) = true from rfl)]
  exact wpAny_pure q
theorem bin1_KI {nm : String} {j : Int} {u : Tok} {m : Value} {Q : Value → Shared → Prop} {cd : ClassData} {rest : List Value} (X : K.In s.heap) (I : InstAt s.heap x ox C od) (hc : clsIn K C = some cd) (hm : cd.mro = .ref C :: rest)
    (hs : findIn K (.ref C) (PySem.dunder nm) = some (some (.ref f))) (hg : findIn K (.ref C) (dunderR nm) = some (some (.ref g))) (hf : isFn K (.ref f) = true) (hsub : subIn K (.type "int") (.ref C) = some false)
    (hfill : fillsNumberSlot (.type "int") nm = pure true) (hr : typeLookup (.type "int") (dunderR nm) = pure (some m))
    (h : wpAny (model prog w) A (call (.ref f) [.ref x, .int j u]) (CmpBack Q) E s) : wpAny (model prog w) A (binaryOp1 nm (.ref x) (.int j u)) (fun r s' => ∃ v, r = some v ∧ Q v s') E s := by
  unfold binaryOp1
  refine wpAny_bind (I.type.here (wpAny_bind (wpAny_typeOf (typeIs_int s j u) (wpAny_bind ((fills_K X hc hm hs).here ?_)))))
  have ne : (Value.ref C == Value.type "int") = false := by simp
  rw [ne]
  simp only [Bool.false_eq_true, if_false]
  rw [hfill]
  refine wpAny_bind (wpAny_pure ?_)
  simp only [Bool.and_self, if_true]
  refine wpAny_bind ((looks_subIn X hsub).here ?_)
  simp only [Bool.false_eq_true, if_false, Bool.not_false, if_true]
  refine wpAny_bind ((rule_intT X hs hg).here ?_)
  simp only [if_true]
  refine wpAny_bind (m := numberSlotInPython (.type "int") nm) (wpAny_pure ?_)
  simp only [Bool.not_false, if_true]
  rw [hr]
  refine wpAny_bind (wpAny_pure ?_)
  refine wpAny_bind (m := tryMethod (.ref x) _ _) ?_
  unfold tryMethod
  refine wpAny_bind (special_fn X I hs (beq_iff_eq.mp hf) (wpAny_mono h (fun v s' hv => ?_) fun _ _ e => e))
  cases v <;> first | exact hv.elim | exact wpAny_pure (wpAny_pure ⟨_, rfl, hv⟩)
theorem bin1_IK {nm id : String} {j : Int} {u : Tok} {Q : Value → Shared → Prop} {cd : ClassData} {rest : List Value} (X : K.In s.heap) (I : InstAt s.heap x ox C od) (hc : clsIn K C = some cd) (hm : cd.mro = .ref C :: rest)
    (hs : findIn K (.ref C) (PySem.dunder nm) = some (some (.ref f))) (hg : findIn K (.ref C) (dunderR nm) = some (some (.ref g))) (hf : isFn K (.ref g) = true) (hsub : subIn K (.ref C) (.type "int") = some false)
    (hfill : fillsNumberSlot (.type "int") nm = pure true) (slot : Slot "int" (PySem.dunder nm) id)
    (dec : ∀ R : Value → Shared → Prop, R .notImplemented s → wpAny (model prog w) A (call (.builtin id) [.int j u, .ref x]) R E s)
    (h : wpAny (model prog w) A (call (.ref g) [.ref x, .int j u]) (CmpBack Q) E s) : wpAny (model prog w) A (binaryOp1 nm (.int j u) (.ref x)) (fun r s' => ∃ v, r = some v ∧ Q v s') E s := by
  unfold binaryOp1
  refine wpAny_bind (wpAny_typeOf (typeIs_int s j u) (wpAny_bind (I.type.here (wpAny_bind ?_))))
  rw [hfill]
  refine wpAny_pure ?_
  have ne : (Value.type "int" == Value.ref C) = false := by simp
  rw [ne]
  simp only [Bool.false_eq_true, if_false]
  refine wpAny_bind ((fills_K X hc hm hs).here ?_)
  simp only [Bool.and_self, if_true]
  refine wpAny_bind ((looks_subIn X hsub).here ?_)
  simp only [Bool.false_eq_true, if_false, Bool.not_false, if_true]
  refine wpAny_bind (m := numberSlotInPython (.type "int") nm) (wpAny_pure ?_)
  simp only [Bool.false_eq_true, if_false]
  refine wpAny_bind (wpAny_tryMethod_declines (typeIs_int s j u) slot (dec _ ⟨rfl, ?_⟩))
  simp only [Bool.and_self, if_true]
  refine wpAny_bind (m := tryMethod (.ref x) _ _) ?_
  unfold tryMethod
  refine wpAny_bind (special_fn X I hg (beq_iff_eq.mp hf) (wpAny_mono h (fun v s' hv => ?_) fun _ _ e => e))
  cases v <;> first | exact hv.elim | exact wpAny_pure (wpAny_bind (wpAny_rule (wpAny_pure ⟨_, rfl, hv⟩)))
theorem bin_of1 {op : Operator} {a b : Value} {Q : Value → Shared → Prop} (h : wpAny (model prog w) A (binaryOp1 op.info.2 a b) (fun r s' => ∃ v, r = some v ∧ Q v s') E s) : wpAny (model prog w) A (binaryOp op a b) Q E s := by
  unfold binaryOp
  refine wpAny_holding (wpAny_bind (wpAny_mono h (fun r s' hr => ?_) fun _ _ e => e))
  obtain ⟨v, rfl, q⟩ := hr
  exact wpAny_pure q
end
end PySem.W
namespace PySem.SeqAt
open PySem
theorem int_add_no (j : Int) (u : Tok) (l : Addr) (c : Value) (dd : Option Addr) (sl : Array (Option Value)) :
    Meets (Builtin.«int.__add__» ⟨[.int j u, .ref l], []⟩) (fun _ R s => s.heap.get? l = some { cls := c, dict := dd, data := .plain, slots := sl } ∧ R (.ok (.ret .notImplemented)) s) :=
  .of_wp fun prog w A R s h => by
    obtain ⟨hp, g, d, tk, os⟩ := s
    obtain ⟨hl, h⟩ := h
    wp_walk using wpAny_loadPart' hl, wpAny_load hl
    exact ⟨_, rfl, h⟩
theorem int_sub_no (j : Int) (u : Tok) (l : Addr) (c : Value) (dd : Option Addr) (sl : Array (Option Value)) :
    Meets (Builtin.«int.__sub__» ⟨[.int j u, .ref l], []⟩) (fun _ R s => s.heap.get? l = some { cls := c, dict := dd, data := .plain, slots := sl } ∧ R (.ok (.ret .notImplemented)) s) :=
  .of_wp fun prog w A R s h => by
    obtain ⟨hp, g, d, tk, os⟩ := s
    obtain ⟨hl, h⟩ := h
    wp_walk using wpAny_loadPart' hl, wpAny_load hl
    exact ⟨_, rfl, h⟩
theorem int_mul_no (j : Int) (u : Tok) (l : Addr) (c : Value) (dd : Option Addr) (sl : Array (Option Value)) :
    Meets (Builtin.«int.__mul__» ⟨[.int j u, .ref l], []⟩) (fun _ R s => s.heap.get? l = some { cls := c, dict := dd, data := .plain, slots := sl } ∧ R (.ok (.ret .notImplemented)) s) :=
  .of_wp fun prog w A R s h => by
    obtain ⟨hp, g, d, tk, os⟩ := s
    obtain ⟨hl, h⟩ := h
    wp_walk using wpAny_loadPart' hl, wpAny_load hl
    exact ⟨_, rfl, h⟩
end PySem.SeqAt
/-! ### own operators over the layer -/
namespace SK
open PySem PySem.Spec PyProof.Rows L2 LamX NdefX
/-- what is told of a class with own operators -/
structure Own (K : PySem.W.Frag) (C : Addr) : Prop where
  cd : ∃ cd rest, PySem.W.clsIn K C = some cd ∧ cd.mro = .ref C :: rest
  s1 : PySem.W.subIn K (.type "int") (.ref C) = some false
  s2 : PySem.W.subIn K (.ref C) (.type "int") = some false
  s3 : PySem.W.subIn K (.type "tuple") (.ref C) = some false
  sf : PySem.W.selfFirst K C = true
structure Has (K : PySem.W.Frag) (C : Addr) (m : Str) (f : Addr) : Prop where
  at_ : PySem.W.findIn K (.ref C) m = some (some (.ref f))
  fn : PySem.W.isFn K (.ref f) = true
/-- an instance -/
def Ins (C : Addr) (H : Hp) (x : V) : Prop := ∃ a dx fs, x = .ref a ∧ H a = some (.ins C dx fs)
section
variable {X : Cx} {CX : CXT} {k : Nat} {f g C : Addr} {fd : FuncData} {ps : List Str} {sp : Sp} {E : XK}
theorem inst_of {pins : List (Addr × Obj)} {s : Shared} {σ : St} {H : Hp} {x : V} {v : Value} (I : Inv X pins σ H s) (h : Ins C H x) (r : RelV x v) : ∃ a dx od, x = .ref a ∧ v = .ref a ∧ PySem.W.InstAt s.heap a (PySem.W.instObj C dx) C (some od) := by
  obtain ⟨a, dx, fs, rfl, ha⟩ := h
  obtain rfl : v = Value.ref a := r
  obtain ⟨mA, J, _⟩ := ins_get I.hok ha
  obtain ⟨od, J, _⟩ := J.look
  exact ⟨a, dx, od, rfl, rfl, J⟩
/-- a def's call in a nearer around -/
theorem run_at {A : Around} {pins : List (Addr × Obj)} {σ : St} {H : Hp} {s : Shared} {Q : VK} {us : List Value} {vs : List V} (F : FnOk X.prog X.w X.K X.mg X.base CX k f fd ps sp) (hr : Room k A) (e0 : Env0 X.prog X.w X.K X.mg X.base A X.stack s H) (hb : Binds X.K fd ps []) (hx : Passes CX X E)
    (I : Inv X pins σ H s) (r : Vals vs us) (h : sp vs H Q E) : wpAny (model X.prog X.w) A (call (.ref f) us) (EP X pins σ Q) X.xe s := by
  have hl : us.length = ps.length := by
    rw [← r.length]
    exact F.len _ _ _ _ h
  have b := hb s us I.kIn (by rw [List.append_nil]; exact hl)
  rw [List.append_nil] at b
  refine wpAny_call (codeAny_mono (F.run A X.stack s H ⟨us, []⟩ us vs Q E hr e0 b r h) fun r s' hq => ?_)
  cases r with
  | error e => exact hx pins σ H s e s' I hq
  | ok fl =>
    cases fl with
    | ret u => exact I.after hq
    | next => exact False.elim hq
    | brk => exact False.elim hq
    | cont => exact False.elim hq
theorem back_of {pins : List (Addr × Obj)} {σ : St} {Q : VK} {u : Value} {s' : Shared} (h : EP X pins σ Q u s') : PySem.W.CmpBack (EP X pins σ Q) u s' := by
  obtain ⟨v, H', I, r, q⟩ := h
  cases u with
  | notImplemented => cases v <;> first | (obtain ⟨_, z⟩ := r; cases z) | cases r
  | _ => exact ⟨v, H', I, r, q⟩
/-- one op other, both instances -/
theorem op_ownRR {op : Operator} (O : Own X.K C) (M : Has X.K C (PySem.dunder op.info.2) f) (F : FnOk X.prog X.w X.K X.mg X.base CX k f fd ps sp) (hr : Room k X.A) (hb : Binds X.K fd ps []) (hx : Passes CX X E) :
    OpR X (binaryOp op) (fun x y H Q => Ins C H x ∧ Ins C H y ∧ sp [x, y] H Q E) := by
  intro pins s σ H x y v u Q I rx ry ⟨hX, hY, q⟩
  obtain ⟨a, dx, od, rfl, rfl, J⟩ := inst_of I hX rx
  obtain ⟨b, dy, od2, rfl, rfl, J2⟩ := inst_of I hY ry
  obtain ⟨m, hF⟩ := I.fr
  refine PySem.W.binop_K hF I.ok.mod.kin J J2.type O.sf M.at_ M.fn ?_
  exact wpAny_mono (run_at F hr I.env0 hb hx I (.cons rx (.cons ry .nil)) q) (fun _ _ h => back_of h) fun _ _ z => z
theorem op_ownRI {op : Operator} {m : Value} (O : Own X.K C) (M : Has X.K C (PySem.dunder op.info.2) f) (M2 : Has X.K C (dunderR op.info.2) g) (hfill : fillsNumberSlot (.type "int") op.info.2 = pure true) (hm : typeLookup (.type "int") (dunderR op.info.2) = pure (some m))
    (F : FnOk X.prog X.w X.K X.mg X.base CX k f fd ps sp) (hr : Room k X.A) (hb : Binds X.K fd ps []) (hx : Passes CX X E) :
    OpR X (binaryOp op) (fun x y H Q => Ins C H x ∧ (∃ j, y = .int j) ∧ sp [x, y] H Q E) := by
  intro pins s σ H x y v u Q I rx ry ⟨hX, ⟨j, hj⟩, q⟩
  subst hj
  have ry' := ry
  obtain ⟨t, rfl⟩ := ry
  obtain ⟨a, dx, od, rfl, rfl, J⟩ := inst_of I hX rx
  obtain ⟨cd, rest, hc, hmro⟩ := O.cd
  refine PySem.W.bin_of1 (PySem.W.bin1_KI I.kIn J hc hmro M.at_ M2.at_ M.fn O.s1 hfill hm ?_)
  exact wpAny_mono (run_at F hr I.env0 hb hx I (.cons rx (.cons ry' .nil)) q) (fun _ _ h => back_of h) fun _ _ z => z
theorem op_ownIR {op : Operator} {id : String} (O : Own X.K C) (M : Has X.K C (PySem.dunder op.info.2) f) (M2 : Has X.K C (dunderR op.info.2) g) (hfill : fillsNumberSlot (.type "int") op.info.2 = pure true) (slot : Slot "int" (PySem.dunder op.info.2) id)
    (dec : ∀ (A : Around) (s : Shared) (j : Int) (t : Tok) (a dx : Addr) (R : Value → Shared → Prop), s.heap.get? a = some (PySem.W.instObj C dx) → R .notImplemented s → wpAny (model X.prog X.w) A (call (.builtin id) [.int j t, .ref a]) R X.xe s)
    (F : FnOk X.prog X.w X.K X.mg X.base CX k g fd ps sp) (hr : Room k X.A) (hb : Binds X.K fd ps []) (hx : Passes CX X E) :
    OpR X (binaryOp op) (fun x y H Q => (∃ j, x = .int j) ∧ Ins C H y ∧ sp [y, x] H Q E) := by
  intro pins s σ H x y v u Q I rx ry ⟨⟨j, hj⟩, hY, q⟩
  subst hj
  have rx' := rx
  obtain ⟨t, rfl⟩ := rx
  obtain ⟨a, dx, od, rfl, rfl, J⟩ := inst_of I hY ry
  obtain ⟨cd, rest, hc, hmro⟩ := O.cd
  refine PySem.W.bin_of1 (PySem.W.bin1_IK I.kIn J hc hmro M.at_ M2.at_ M2.fn O.s2 hfill slot (fun R h => dec _ _ _ _ _ _ R J.at_ h) ?_)
  exact wpAny_mono (run_at F hr I.env0 hb hx I (.cons ry (.cons rx' .nil)) q) (fun _ _ h => back_of h) fun _ _ z => z
theorem dec_add (A : Around) (s : Shared) (j : Int) (t : Tok) (a dx : Addr) (R : Value → Shared → Prop) (h : s.heap.get? a = some (PySem.W.instObj C dx)) (q : R .notImplemented s) : wpAny (model X.prog X.w) A (call (.builtin "int.__add__") [.int j t, .ref a]) R X.xe s :=
  PySem.call_meets PySem.F.slot_int_add (typeIs_int s j t) PySem.F.entry_int_add (PySem.F.args_int_add_2 _ _) (SeqAt.int_add_no j t a (.ref C) (some dx) _) ⟨h, q⟩
theorem dec_sub (A : Around) (s : Shared) (j : Int) (t : Tok) (a dx : Addr) (R : Value → Shared → Prop) (h : s.heap.get? a = some (PySem.W.instObj C dx)) (q : R .notImplemented s) : wpAny (model X.prog X.w) A (call (.builtin "int.__sub__") [.int j t, .ref a]) R X.xe s :=
  PySem.call_meets PySem.F.slot_int_sub (typeIs_int s j t) PySem.F.entry_int_sub (PySem.F.args_int_sub_2 _ _) (SeqAt.int_sub_no j t a (.ref C) (some dx) _) ⟨h, q⟩
theorem dec_mul (A : Around) (s : Shared) (j : Int) (t : Tok) (a dx : Addr) (R : Value → Shared → Prop) (h : s.heap.get? a = some (PySem.W.instObj C dx)) (q : R .notImplemented s) : wpAny (model X.prog X.w) A (call (.builtin "int.__mul__") [.int j t, .ref a]) R X.xe s :=
  PySem.call_meets PySem.F.slot_int_mul (typeIs_int s j t) PySem.F.entry_int_mul (PySem.F.args_int_mul_2 _ _) (SeqAt.int_mul_no j t a (.ref C) (some dx) _) ⟨h, q⟩
/-- -one -/
theorem un_own (M : Has X.K C "__neg__" f) (F : FnOk X.prog X.w X.K X.mg X.base CX k f fd ps sp) (hr : Room k X.A) (hb : Binds X.K fd ps []) (hx : Passes CX X E) :
    UnR X (unaryOp .USub) (fun x H Q => Ins C H x ∧ sp [x] H Q E) := by
  intro pins s σ H x v Q I rx ⟨hX, q⟩
  obtain ⟨a, dx, od, rfl, rfl, J⟩ := inst_of I hX rx
  unfold unaryOp
  refine wpAny_holding ?_
  simp only [show (UnaryOp.USub == UnaryOp.Not) = false from rfl, Bool.false_eq_true, if_false]
  refine wpAny_bind (PySem.W.special_fn I.kIn J M.at_ (beq_iff_eq.mp M.fn) (wpAny_mono (run_at F hr I.env0 hb hx I (.cons rx .nil) q) (fun v s' h => wpAny_pure h) fun _ _ z => z))
/-- abs(one) -/
theorem call_absO (M : Has X.K C "__abs__" f) (F : FnOk X.prog X.w X.K X.mg X.base CX k f fd ps sp) (hr : Room (k + 1) X.A) (hb : Binds X.K fd ps []) (hx : Passes CX X E) :
    CallR X (.builtin "abs") (fun xs H Q => ∃ x, xs = [x] ∧ Ins C H x ∧ sp [x] H Q E) := by
  intro pins s σ H xs us Q I r ⟨x, hxs, hX, q⟩
  subst hxs
  obtain ⟨u, rfl, ru⟩ := vals1 r
  obtain ⟨a, dx, od, rfl, rfl, J⟩ := inst_of I hX ru
  refine Calls.call_function_entry kind_abs plain_abs entry_abs (args_abs _) ?_
  unfold Builtin.«abs»
  refine wpAny_bind (m := oneArg "abs" _) (wpAny_pure ?_)
  refine wpAny_bind (m := callSpecial? (.ref a) (Str.ofString "__abs__")) (PySem.W.special_fn I.kIn J M.at_ (beq_iff_eq.mp M.fn) (wpAny_mono (run_at F hr.in1 I.env0.in1 hb hx I (.cons ru .nil) q) (fun v s' h => ?_) fun _ _ z => z))
  exact wpAny_pure ⟨_, rfl, h⟩
/-- str(one), a text behind it -/
theorem call_strO (M : Has X.K C "__str__" f) (F : FnOk X.prog X.w X.K X.mg X.base CX k f fd ps sp) (hr : Room (k + 2) X.A) (hb : Binds X.K fd ps []) (hx : Passes CX X E) :
    CallR X (.type "str") (fun xs H Q => ∃ x, xs = [x] ∧ Ins C H x ∧ sp [x] H (fun v H' => ∃ z, v = .str z ∧ Q (.str z) H') E) := by
  intro pins s σ H xs us Q I r ⟨x, hxs, hX, q⟩
  subst hxs
  obtain ⟨u, rfl, ru⟩ := vals1 r
  obtain ⟨a, dx, od, rfl, rfl, J⟩ := inst_of I hX ru
  have hr2 : Room k X.A.in1.in1 := hr.in1.in1
  refine PySem.W.kso_call hr2.units0 I.kIn J M.at_ M.fn (wpAny_mono (run_at F hr2 I.env0.in1.in1 hb hx I (.cons ru .nil) q) (fun v s' h => ?_) fun _ _ z => z)
  obtain ⟨v1, H', I', r1, z, rfl, q1⟩ := h
  obtain ⟨t, rfl⟩ := r1
  exact ⟨.str z, H', I', ⟨t, rfl⟩, q1⟩
/-- one == y -/
theorem rc_own {op : CmpOp} (O : Own X.K C) (M : Has X.K C (cmpInfo op).2.1 f) (F : FnOk X.prog X.w X.K X.mg X.base CX k f fd ps sp) (hr : Room k X.A) (hb : Binds X.K fd ps []) (hx : Passes CX X E) {pins : List (Addr × Obj)} {s : Shared} {σ : St} {H : Hp} {x y : V} {v u : Value} {Q : VK} (I : Inv X pins σ H s) (rx : RelV x v) (ry : RelV y u)
    (hX : Ins C H x) (hY : Ins C H y ∨ (∃ j, y = .int j) ∨ ∃ t xs, y = .ref t ∧ SqT X.K H t xs) (q : sp [x, y] H Q E) : wpAny (model X.prog X.w) X.A (richCompare op v u) (EP X pins σ Q) X.xe s := by
  obtain ⟨a, dx, od, rfl, rfl, J⟩ := inst_of I hX rx
  obtain ⟨m, hF⟩ := I.fr
  have fin : wpAny (model X.prog X.w) X.A (call (.ref f) [.ref a, u]) (PySem.W.CmpBack (EP X pins σ Q)) X.xe s := wpAny_mono (run_at F hr I.env0 hb hx I (.cons rx (.cons ry .nil)) q) (fun _ _ h => back_of h) fun _ _ z => z
  rcases hY with hY | ⟨j, rfl⟩ | ⟨t, xs, rfl, hT⟩
  · obtain ⟨b, dy, od2, rfl, rfl, J2⟩ := inst_of I hY ry
    exact PySem.W.cmp_K (tb := .ref C) hr.units0 hF I.ok.mod.kin J J2.type (by simp [PySem.W.notFirst]) M.at_ M.fn fin
  · obtain ⟨t, rfl⟩ := ry
    exact PySem.W.cmp_K (tb := .type "int") hr.units0 hF I.ok.mod.kin J (fun A Q E s' k q => wpAny_typeOf (typeIs_int s' j t) q) (by unfold PySem.W.notFirst; rw [O.s1]; rfl) M.at_ M.fn fin
  · obtain rfl : u = Value.ref t := ry
    obtain ⟨its, rv, hl, hz⟩ := I.tuple hT
    obtain ⟨o, ho, hc, _⟩ := hl
    exact PySem.W.cmp_K (tb := .type "tuple") hr.units0 hF I.ok.mod.kin J (fun A Q E s' k q => wpAny_typeOf (T := "tuple") ⟨o, k _ _ ho, hc⟩ q) (by unfold PySem.W.notFirst; rw [O.s3]; rfl) M.at_ M.fn fin
theorem op_ownEq (O : Own X.K C) (M : Has X.K C "__eq__" f) (F : FnOk X.prog X.w X.K X.mg X.base CX k f fd ps sp) (hr : Room k X.A) (hb : Binds X.K fd ps []) (hx : Passes CX X E) :
    OpR X (compareOp .Eq) (fun x y H Q => Ins C H x ∧ (Ins C H y ∨ (∃ j, y = .int j) ∨ ∃ t xs, y = .ref t ∧ SqT X.K H t xs) ∧ sp [x, y] H Q E) := by
  intro pins s σ H x y v u Q I rx ry ⟨hX, hY, q⟩
  exact rc_own (op := .Eq) O M F hr hb hx I rx ry hX hY q
end
end SK
/-! ### one != other, by its __eq__ -/
namespace PySem.W
open PySem PySem.Calls PyProof.Rows Builtin
section
variable {prog : Program} {w : World} {A : Around} {E : Value → Shared → Prop} {s : Shared} {K : Frag} {x C f : Addr} {ox : Obj} {od : Option Obj}
theorem slot_ne : Slot "object" "__ne__" "object.__ne__" := .of (owner := "object") (n := "__ne__") (by rw [typeLookup_type, builtinLookup_eq_fast]; kernel_rfl) (by decide +kernel) (by decide +kernel) (by decide +kernel) (by decide +kernel) (by rw [isSubtype_type]; kernel_rfl)
theorem isInst_K {M : Model} {T : String} {Q : Bool → Shared → Prop} (X : K.In s.heap) (I : InstAt s.heap x ox C od) (h : subIn K (.ref C) (.type T) = some true) (q : Q true s) : wpAny M A (isInstance (.ref x) (.type T)) Q E s := by
  unfold isInstance
  exact wpAny_bind (I.type.here ((looks_subIn X h).here q))
theorem check_K {M : Model} {id owner n : String} {rest : List Value} {Q : Unit → Shared → Prop} (X : K.In s.heap) (I : InstAt s.heap x ox C od) (hk : builtinKind id = some .slot) (hs : splitId id = some (owner, n)) (h : subIn K (.ref C) (.type owner) = some true)
    (ha : argsOk id ⟨.ref x :: rest, []⟩) (q : Q () s) : wpAny M A (checkBuiltinCall id ⟨.ref x :: rest, []⟩) Q E s := by
  simp only [checkBuiltinCall, hk, hs]
  refine wpAny_bind (isInst_K X I h ?_)
  cases hsig : Manifest.signature? id with
  | none => exact wpAny_pure q
  | some sig =>
    simp only [argsOk, hsig] at ha
    have h2 : Bind.checkArgs id sig ⟨.ref x :: rest, []⟩ = pure () := ha
    show wpAny M A (Bind.checkArgs id sig ⟨.ref x :: rest, []⟩) Q E _
    rw [h2]
    exact wpAny_pure q
/-- what __eq__ gives, told the other way round -/
def NotOf (Q : Value → Shared → Prop) (v : Value) (s' : Shared) : Prop := ∃ b, v = .bool b ∧ Q (.bool (!b)) s'
theorem call_ne {b : Value} {Q : Value → Shared → Prop} (hu : A.in1.units < cLine) (X : K.In s.heap) (I : InstAt s.heap x ox C od) (ho : subIn K (.ref C) (.type "object") = some true) (hs : findIn K (.ref C) "__eq__" = some (some (.ref f))) (hf : isFn K (.ref f) = true)
    (h : wpAny (model prog w) A.in1 (call (.ref f) [.ref x, b]) (NotOf Q) E s) : wpAny (model prog w) A (call (.builtin "object.__ne__") [.ref x, b]) Q E s := by
  refine wpAny_call (codeAny_call_builtin slot_ne.plain F.cmpEntry_ne (check_K X I F.cmpKind_ne F.cmpSplit_ne ho (F.cmpArgs_ne _ _) ?_))
  unfold Builtin.«object.__ne__»
  refine wpAny_bind (m := slotArgs "__ne__" 1 _) (wpAny_pure ?_)
  refine wpAny_bind (wpAny_cRoomFor hu ?_)
  refine wpAny_bind (ifBound_K X I hs hf (wpAny_mono h (fun v s' hv => ?_) fun _ _ e => e))
  obtain ⟨c, rfl, q⟩ := hv
  exact wpAny_bind (wpAny_truthy_bool (wpAny_pure q))
theorem ne_K {b tb : Value} {Q : Value → Shared → Prop} (hu : A.in1.units < cLine) (X : K.In s.heap) (I : InstAt s.heap x ox C od) (hb : Looks (model prog w) s.heap (typeOf b) tb) (hn : notFirst K C tb = true) (hne : findIn K (.ref C) "__ne__" = some (some (.builtin "object.__ne__")))
    (ho : subIn K (.ref C) (.type "object") = some true) (hs : findIn K (.ref C) "__eq__" = some (some (.ref f))) (hf : isFn K (.ref f) = true)
    (h : wpAny (model prog w) A.in1 (call (.ref f) [.ref x, b]) (NotOf Q) E s) : wpAny (model prog w) A (richCompare .NotEq (.ref x) b) Q E s := by
  have hu0 : A.units < cLine := by
    have z : A.units + 1 < cLine := hu
    omega
  have back : wpAny (model prog w) A (call (.builtin "object.__ne__") [.ref x, b]) (fun v s' => ∃ c, v = .bool c ∧ Q v s') E s := call_ne (Q := fun v s' => ∃ c, v = .bool c ∧ Q v s') hu X I ho hs hf (wpAny_mono h (fun v s' hv => by
    obtain ⟨c, e, q⟩ := hv
    exact ⟨c, e, _, rfl, q⟩) fun _ _ e => e)
  have one : wpAny (model prog w) A (tryCompare (.ref x) "__ne__" b) (fun r s' => ∃ v, r = some v ∧ Q v s') E s := by
    unfold tryCompare
    simp only [callSpecialIfBound?, bindSpecialIfBound?]
    refine wpAny_bind (wpAny_holding (wpAny_bind (wpAny_bind (wpAny_bind (I.type.here ((looks_findIn X hne).here ?_))))))
    refine wpAny_bind (wpAny_askSetting (wpAny_ite ?_))
    have fin : wpAny (model prog w) A (call (.builtin "object.__ne__") ([.ref x] ++ [b]) >>= fun v => pure (some v)) (fun a s' => wpAny (model prog w) A (match a with
      | some .notImplemented | none => pure none
      | some v => pure (some v)) (fun r s' => ∃ v, r = some v ∧ Q v s') E s') E s := wpAny_bind (wpAny_mono back (fun v s' h' => by
        obtain ⟨c, rfl, q⟩ := h'
        exact wpAny_pure (wpAny_pure ⟨_, rfl, q⟩)) fun _ _ e => e)
    rw [slot_ne.bind]
    split
    · exact wpAny_bind (wpAny_pure (wpAny_pure fin))
    · exact wpAny_tryCatch (wpAny_bind (wpAny_pure (wpAny_pure fin)))
  unfold richCompare
  simp only [oneThing_ref]
  refine wpAny_holding (wpAny_bind (wpAny_cRoomFor hu0 ?_))
  refine wpAny_bind (I.type.here (wpAny_bind (hb.here ?_)))
  split
  · rename_i q
    have e : subIn K tb (.ref C) = some false := by
      rcases Bool.or_eq_true_iff.mp hn with e | e
      · rw [beq_iff_eq.mp e] at q; simp at q
      · exact beq_iff_eq.mp e
    refine wpAny_bind ((looks_subIn X e).here ?_)
    simp only [Bool.false_eq_true, if_false]
    exact wpAny_bind (wpAny_mono one (fun r s' z => by obtain ⟨v, rfl, hq⟩ := z; exact wpAny_pure hq) fun _ _ e => e)
  · refine wpAny_bind (wpAny_pure ?_)
    simp only [Bool.false_eq_true, if_false]
    exact wpAny_bind (wpAny_mono one (fun r s' z => by obtain ⟨v, rfl, hq⟩ := z; exact wpAny_pure hq) fun _ _ e => e)
end
end PySem.W
namespace SK
open PySem PySem.Spec PyProof.Rows L2 LamX NdefX
section
variable {X : Cx} {CX : CXT} {k : Nat} {f C : Addr} {fd : FuncData} {ps : List Str} {sp : Sp} {E : XK}
theorem op_ownNe (O : Own X.K C) (hne : PySem.W.findIn X.K (.ref C) "__ne__" = some (some (.builtin "object.__ne__"))) (ho : PySem.W.subIn X.K (.ref C) (.type "object") = some true) (M : Has X.K C "__eq__" f) (F : FnOk X.prog X.w X.K X.mg X.base CX k f fd ps sp) (hr : Room (k + 1) X.A) (hb : Binds X.K fd ps []) (hx : Passes CX X E) :
    OpR X (compareOp .NotEq) (fun x y H Q => Ins C H x ∧ Ins C H y ∧ sp [x, y] H (fun v H' => ∃ b, v = .bl b ∧ Q (.bl (!b)) H') E) := by
  intro pins s σ H x y v u Q I rx ry ⟨hX, hY, q⟩
  obtain ⟨a, dx, od, rfl, rfl, J⟩ := inst_of I hX rx
  obtain ⟨b, dy, od2, rfl, rfl, J2⟩ := inst_of I hY ry
  show wpAny (model X.prog X.w) X.A (richCompare .NotEq (.ref a) (.ref b)) (EP X pins σ Q) X.xe s
  refine PySem.W.ne_K (tb := .ref C) hr.in1.units0 I.kIn J J2.type (by simp [PySem.W.notFirst]) hne ho M.at_ M.fn ?_
  refine wpAny_mono (run_at F hr.in1 I.env0.in1 hb hx I (.cons rx (.cons ry .nil)) q) (fun v s' h => ?_) fun _ _ z => z
  obtain ⟨v1, H', I', r1, b1, rfl, q1⟩ := h
  obtain rfl : v = Value.bool b1 := r1
  exact ⟨b1, rfl, .bl (!b1), H', I', rfl, q1⟩
end
end SK
namespace SK
open PySem PySem.Spec PyProof.Rows L2 LamX NdefX
/-! ### sizes -/
def Bd (k : Nat) (x : Int) : Prop := x.natAbs < 2 ^ k
section
variable {j k n : Nat} {x y : Int}
theorem Bd.mono (h : Bd k x) (hk : k ≤ j) : Bd j x := Nat.lt_of_lt_of_le h (Nat.pow_le_pow_right (by decide) hk)
theorem Bd.mul (hx : Bd j x) (hy : Bd k y) : Bd (j + k) (x * y) := by
  unfold Bd at *
  rw [Int.natAbs_mul, Nat.pow_add]
  exact Nat.mul_lt_mul'' hx hy
theorem Bd.add (hx : Bd k x) (hy : Bd k y) : Bd (k + 1) (x + y) := by
  unfold Bd at *
  rw [Nat.pow_succ]
  have := Int.natAbs_add_le x y
  omega
theorem Bd.neg (hx : Bd k x) : Bd k (-x) := by
  unfold Bd at *
  rw [Int.natAbs_neg]
  exact hx
theorem Bd.sub (hx : Bd k x) (hy : Bd k y) : Bd (k + 1) (x - y) := by
  rw [Int.sub_eq_add_neg]
  exact hx.add hy.neg
theorem Bd.abs (hx : Bd k x) : Bd k (if x < 0 then -x else x) := by
  split
  · exact hx.neg
  · exact hx
theorem Bd.le (h : Bd k y) (e : x.natAbs ≤ y.natAbs) : Bd k x := Nat.lt_of_le_of_lt e h
theorem Bd.log (h : Bd k x) (h0 : 0 < k) (hk : k ≤ n) : x.natAbs.log2 < n := Nat.lt_of_lt_of_le (PySem.Flt.log2_lt_of h0 h) hk
theorem Bd.cm (hx : Bd j x) (hy : Bd k y) (h0 : 0 < j) (h1 : 0 < k) (h : j + k ≤ 1000000) : CMulW x y := wide_mul hx hy h0 h1 h
end
/-! ### lowest terms -/
/-- m / e is n / d, in lowest terms -/
structure Red (m e n d : Int) : Prop where
  pos : 0 < e
  cop : Nat.gcd m.natAbs e.natAbs = 1
  eq : m * d = n * e
section
variable {m e n d m2 e2 n2 d2 : Int}
theorem Red.ne (h : Red m e n d) : e ≠ 0 := by
  have := h.pos
  omega
theorem Red.bound (h : Red m e n d) (hd : d ≠ 0) : m.natAbs ≤ n.natAbs ∧ e.natAbs ≤ d.natAbs := by
  have q : m.natAbs * d.natAbs = n.natAbs * e.natAbs := by
    rw [← Int.natAbs_mul, ← Int.natAbs_mul, h.eq]
  have hd0 : 0 < d.natAbs := Int.natAbs_pos.mpr hd
  have he0 : 0 < e.natAbs := Int.natAbs_pos.mpr h.ne
  have c : Nat.Coprime e.natAbs m.natAbs := by
    have z := h.cop
    rw [Nat.gcd_comm] at z
    exact z
  have dv : e.natAbs ∣ d.natAbs := c.dvd_of_dvd_mul_left ⟨n.natAbs, by rw [q, Nat.mul_comm]⟩
  obtain ⟨k, hk⟩ := dv
  have hk0 : 0 < k := by
    rcases Nat.eq_zero_or_pos k with z | z
    · rw [z] at hk
      omega
    · exact z
  have q2 : m.natAbs * k = n.natAbs := by
    rw [hk, ← Nat.mul_assoc, Nat.mul_comm m.natAbs, Nat.mul_assoc, Nat.mul_comm n.natAbs] at q
    exact Nat.eq_of_mul_eq_mul_left he0 q
  refine ⟨?_, ?_⟩
  · rw [← q2]
    exact Nat.le_mul_of_pos_right _ hk0
  · rw [hk]
    exact Nat.le_mul_of_pos_right _ hk0
theorem cancelR {a b c : Int} (hb : b ≠ 0) (h : a * b = c * b) : a = c := Int.eq_of_mul_eq_mul_right hb h
theorem Red.uniq (h : Red m e n d) (h2 : Red m2 e2 n2 d2) (hd : d ≠ 0) (hd2 : d2 ≠ 0) (q : n * d2 = n2 * d) : m = m2 ∧ e = e2 := by
  have p := h.pos
  have p2 := h2.pos
  have x : m * e2 = m2 * e := by
    refine cancelR (b := d * d2) (Int.mul_ne_zero hd hd2) ?_
    have a1 := h.eq
    have a2 := h2.eq
    grind
  have c1 : Nat.Coprime e.natAbs m.natAbs := by
    have z := h.cop
    rw [Nat.gcd_comm] at z
    exact z
  have c2 : Nat.Coprime e2.natAbs m2.natAbs := by
    have z := h2.cop
    rw [Nat.gcd_comm] at z
    exact z
  have y : m.natAbs * e2.natAbs = m2.natAbs * e.natAbs := by
    rw [← Int.natAbs_mul, ← Int.natAbs_mul, x]
  have d1 : e.natAbs ∣ e2.natAbs := c1.dvd_of_dvd_mul_left ⟨m2.natAbs, by rw [y, Nat.mul_comm]⟩
  have d2 : e2.natAbs ∣ e.natAbs := c2.dvd_of_dvd_mul_left ⟨m.natAbs, by rw [← y, Nat.mul_comm]⟩
  have ee := Nat.dvd_antisymm d1 d2
  have ez : e = e2 := by omega
  refine ⟨?_, ez⟩
  subst ez
  exact cancelR h.ne x
theorem Red.same (h : Red m e n d) (h2 : Red m e n2 d2) (hd : d ≠ 0) (hd2 : d2 ≠ 0) : n * d2 = n2 * d := by
  refine cancelR h.ne ?_
  have a1 := h.eq
  have a2 := h2.eq
  grind
theorem Red.congr (h : Red m e n d) (hd : d ≠ 0) (q : n * d2 = n2 * d) : Red m e n2 d2 := by
  refine ⟨h.pos, h.cop, cancelR hd ?_⟩
  have a1 := h.eq
  grind
theorem Red.refl (h : Red m e n d) : Red m e m e := ⟨h.pos, h.cop, rfl⟩
/-- the fraction of the two reduced ones -/
theorem red_add (h : Red m e n d) (h2 : Red m2 e2 n2 d2) : (m * e2 + m2 * e) * (d * d2) = (n * d2 + n2 * d) * (e * e2) := by
  have a1 := h.eq
  have a2 := h2.eq
  grind
theorem red_sub (h : Red m e n d) (h2 : Red m2 e2 n2 d2) : (m * e2 - m2 * e) * (d * d2) = (n * d2 - n2 * d) * (e * e2) := by
  have a1 := h.eq
  have a2 := h2.eq
  grind
theorem red_mul (h : Red m e n d) (h2 : Red m2 e2 n2 d2) : (m * m2) * (d * d2) = (n * n2) * (e * e2) := by
  have a1 := h.eq
  have a2 := h2.eq
  grind
theorem red_div (h : Red m e n d) (h2 : Red m2 e2 n2 d2) : (m * e2) * (d * n2) = (n * d2) * (e * m2) := by
  have a1 := h.eq
  have a2 := h2.eq
  grind
/-- what __init__ makes -/
theorem red_init (n d : Int) (hd : d ≠ 0) : ∃ c m e : Int, c = (if 0 < d then ((Nat.gcd n.natAbs d.natAbs : Nat) : Int) else -((Nat.gcd n.natAbs d.natAbs : Nat) : Int)) ∧ c ≠ 0 ∧ c.natAbs ≤ d.natAbs ∧ n.fdiv c = m ∧ d.fdiv c = e ∧ Red m e n d := by
  have hd0 : 0 < d.natAbs := Int.natAbs_pos.mpr hd
  have hg : 0 < Nat.gcd n.natAbs d.natAbs := Nat.gcd_pos_of_pos_right _ hd0
  have hle : Nat.gcd n.natAbs d.natAbs ≤ d.natAbs := Nat.gcd_le_right _ hd0
  obtain ⟨a, b, hab, ha, hb⟩ := Nat.exists_coprime n.natAbs d.natAbs
  generalize hG : Nat.gcd n.natAbs d.natAbs = g at *
  -- n = g n', d = g d'
  obtain ⟨n', hn', hna⟩ : ∃ n' : Int, n = (g : Int) * n' ∧ n'.natAbs = a := by
    rcases Int.natAbs_eq n with z | z
    · exact ⟨(a : Int), by rw [z, ha]; push_cast; rw [Int.mul_comm], Int.natAbs_natCast _⟩
    · exact ⟨-(a : Int), by rw [z, ha]; push_cast; rw [Int.mul_neg, Int.mul_comm], by rw [Int.natAbs_neg, Int.natAbs_natCast]⟩
  obtain ⟨d', hd', hda⟩ : ∃ d' : Int, d = (g : Int) * d' ∧ d'.natAbs = b := by
    rcases Int.natAbs_eq d with z | z
    · exact ⟨(b : Int), by rw [z, hb]; push_cast; rw [Int.mul_comm], Int.natAbs_natCast _⟩
    · exact ⟨-(b : Int), by rw [z, hb]; push_cast; rw [Int.mul_neg, Int.mul_comm], by rw [Int.natAbs_neg, Int.natAbs_natCast]⟩
  have hgI : (0 : Int) < (g : Int) := by omega
  have hcop : Nat.gcd n'.natAbs d'.natAbs = 1 := by
    rw [hna, hda]
    exact hab
  by_cases c : 0 < d
  · refine ⟨(g : Int), n', d', by rw [if_pos c], by omega, by rw [Int.natAbs_natCast]; exact hle, ?_, ?_, ?_, hcop, ?_⟩
    · rw [hn']
      exact Int.mul_fdiv_cancel_left _ (by omega)
    · rw [hd']
      exact Int.mul_fdiv_cancel_left _ (by omega)
    · rw [hd'] at c
      exact Int.pos_of_mul_pos_right c hgI
    · rw [hn', hd']
      grind
  · refine ⟨-(g : Int), -n', -d', by rw [if_neg c], by omega, by rw [Int.natAbs_neg, Int.natAbs_natCast]; exact hle, ?_, ?_, ?_, by rw [Int.natAbs_neg, Int.natAbs_neg]; exact hcop, ?_⟩
    · rw [hn', ← Int.neg_mul_neg]
      exact Int.mul_fdiv_cancel_left _ (by omega)
    · rw [hd', ← Int.neg_mul_neg]
      exact Int.mul_fdiv_cancel_left _ (by omega)
    · have hneg : d < 0 := by omega
      have c2 : 0 < (g : Int) * (-d') := by
        rw [Int.mul_neg, ← hd']
        omega
      exact Int.pos_of_mul_pos_right c2 hgI
    · rw [hn', hd']
      grind
/-- the order of two fractions, by the law's own cross products -/
def lessB (n d n2 d2 : Int) : Bool := decide (n * d2 * (if 0 < d * d2 then 1 else -1) < n2 * d * (if 0 < d * d2 then 1 else -1))
theorem red_less (h : Red m e n d) (h2 : Red m2 e2 n2 d2) (hd : d ≠ 0) (hd2 : d2 ≠ 0) : decide (m * e2 < m2 * e) = lessB n d n2 d2 := by
  have p := h.pos
  have p2 := h2.pos
  have hee : 0 < e * e2 := Int.mul_pos p p2
  have k : (m * e2) * (d * d2) = (n * d2) * (e * e2) := by
    have a1 := h.eq
    grind
  have k2 : (m2 * e) * (d * d2) = (n2 * d) * (e * e2) := by
    have a2 := h2.eq
    grind
  unfold lessB
  rw [decide_eq_decide]
  have hdd : d * d2 ≠ 0 := Int.mul_ne_zero hd hd2
  generalize d * d2 = D at *
  generalize e * e2 = E at *
  generalize m * e2 = A at *
  generalize m2 * e = B at *
  generalize n * d2 = N at *
  generalize n2 * d = M at *
  by_cases c : 0 < D
  · rw [if_pos c, Int.mul_one, Int.mul_one]
    constructor
    · intro q
      have q2 : A * D < B * D := Int.mul_lt_mul_of_pos_right q c
      rw [k, k2] at q2
      exact Int.lt_of_mul_lt_mul_right q2 (Int.le_of_lt hee)
    · intro q
      have q2 : N * E < M * E := Int.mul_lt_mul_of_pos_right q hee
      rw [← k, ← k2] at q2
      exact Int.lt_of_mul_lt_mul_right q2 (Int.le_of_lt c)
  · have c' : 0 < -D := by omega
    rw [if_neg c, Int.mul_neg, Int.mul_neg, Int.mul_one, Int.mul_one]
    have k' : A * (-D) = (-N) * E := by
      rw [Int.mul_neg, k, Int.neg_mul]
    have k2' : B * (-D) = (-M) * E := by
      rw [Int.mul_neg, k2, Int.neg_mul]
    constructor
    · intro q
      have q2 : A * (-D) < B * (-D) := Int.mul_lt_mul_of_pos_right q c'
      rw [k', k2'] at q2
      exact Int.lt_of_mul_lt_mul_right q2 (Int.le_of_lt hee)
    · intro q
      have q2 : (-N) * E < (-M) * E := Int.mul_lt_mul_of_pos_right q hee
      rw [← k', ← k2'] at q2
      exact Int.lt_of_mul_lt_mul_right q2 (Int.le_of_lt c')
theorem red_zero (h : Red m e n d) (hd : d ≠ 0) : m = 0 ↔ n = 0 := by
  have a := h.eq
  have p := h.ne
  constructor
  · intro z
    rw [z, Int.zero_mul] at a
    rcases Int.mul_eq_zero.mp a.symm with z | z
    · exact z
    · exact absurd z p
  · intro z
    rw [z, Int.zero_mul] at a
    rcases Int.mul_eq_zero.mp a with z | z
    · exact z
    · exact absurd z hd
end
end SK
namespace SK
open PySem PySem.Spec PyProof.Rows L2 LamX NdefX
/-! ### rules -/
/-- C() raised, a class without own __init__ -/
theorem pmk_own0 {X : Cx} {C : Addr} {bmB : List Value} {B newId initId : String} {x : Str} {p pos : Pos} (F : ExcBaseFacts B newId initId bmB) (q : PySem.W.excIn X.K C bmB newId = true) (gC : X.mg x = some (.ref C)) (kC : PySem.W.keepIn X.K (.ref C) = true) (r : Raises X (.ref C)) (hg : Gl X x)
    (hdb : (x == ("__debug__" : Str)) = false := by decide) : PMk X (.Call (.Name x p) [] [] pos) (fun _ H Q => Q (.ref C) none H) := by
  intro pins s σ H Q I h
  refine wpAny_Call_Name_kw (ld_glob I hg gC ?_ hdb)
  refine PySem.W.callWith_K0 I.kIn kC ?_
  show wpAny _ _ (call (.ref C) []) _ _ _
  obtain ⟨bm, N, nm, qn, bs, hdct, sn, sub, ab, col, dd, k0, k1, k2, k3, k5, mN, hC, hN, hni, T⟩ := exc_obj I.kIn q
  refine wpAny_call_exc_subT F T hC hN hni (fun h' a hm => ?_) (Nat.zero_le _)
  exact mk_of I hm r h (I.hok.gone hm.new)
/-- // by any divisor but 0 -/
def CDivX (_ j : Int) : Prop := j ≠ 0 ∧ j.natAbs.log2 < 9000
theorem op_fdivX {X : Cx} : OpR X (binaryOp .FloorDiv) (rI CDivX fun i j => .int (i.fdiv j)) := opI fun _ _ _ _ _ _ _ hc q => floordiv_int hc.1 q (.inl (PyProof.noPylong_of_log2 hc.2))
/-- what is not reached -/
theorem pss_dead {X : Cx} {b : List Stmt} : PSs X b (fun _ _ _ => False) := ⟨fun _ _ _ _ _ _ h => h.elim⟩
/-! ### the class -/
structure RatC (K : PySem.W.Frag) (C : Addr) : Prop where
  own : Own K C
  cl : Cls K C
  n1 : NoAttr K C "number"
  n2 : NoAttr K C "over"
  ha : PySem.W.findIn K (.ref C) "__class__" = some (some (.builtin "object.__class__"))
  hn : PySem.W.specialIn K (.builtin "object.__class__") "__get__" = some (some (.builtin "getset_descriptor.__get__"))
  htk : PySem.W.takesIn K (.builtin "object.__class__") = some true
  hm : PySem.W.mroIn K C (.type "object") = some true
  k1 : PySem.W.kitOne K (.ref C) (.ref C) = some true
  kI : PySem.W.kitOne K (.type "int") (.ref C) = some false
  kT : PySem.W.kitOne K (.type "tuple") (.ref C) = some false
  ne : PySem.W.findIn K (.ref C) "__ne__" = some (some (.builtin "object.__ne__"))
  oo : PySem.W.subIn K (.ref C) (.type "object") = some true
def rf (m e : Int) : List (Str × V) := [("number", .int m), ("over", .int e)]
theorem rf_put (m e : Int) : putF "over" (.int e) (putF "number" (.int m) []) = rf m e := by kernel_rfl
theorem rf_n (m e : Int) : (rf m e).lookup ("number" : Str) = some (V.int m) := by kernel_rfl
theorem rf_o (m e : Int) : (rf m e).lookup ("over" : Str) = some (V.int e) := by kernel_rfl
/-- x is the fraction n / d -/
def Rat (C : Addr) (k : Nat) (H : Hp) (x : V) (n d : Int) : Prop := ∃ (a dx : Addr) (m e : Int), x = .ref a ∧ H a = some (.ins C dx (rf m e)) ∧ Red m e n d ∧ d ≠ 0 ∧ Bd k n ∧ Bd k d
def RIn (C : Addr) (k : Nat) (H : Hp) (v : V) (n d : Int) : Prop := Rat C k H v n d ∨ (v = .int n ∧ d = 1 ∧ Bd k n)
theorem Rat.mono {C : Addr} {j k : Nat} {H : Hp} {x : V} {n d : Int} (h : Rat C k H x n d) (hk : k ≤ j) : Rat C j H x n d := by
  obtain ⟨a, dx, m, e, h1, h2, h3, h4, h5, h6⟩ := h
  exact ⟨a, dx, m, e, h1, h2, h3, h4, h5.mono hk, h6.mono hk⟩
theorem Rat.same {C : Addr} {k : Nat} {H H' : Hp} {x : V} {n d : Int} (h : Rat C k H x n d) (s : Same H H') : Rat C k H' x n d := by
  obtain ⟨a, dx, m, e, h1, h2, h3, h4, h5, h6⟩ := h
  exact ⟨a, dx, m, e, h1, s _ _ h2, h3, h4, h5, h6⟩
theorem RIn.same {C : Addr} {k : Nat} {H H' : Hp} {x : V} {n d : Int} (h : RIn C k H x n d) (s : Same H H') : RIn C k H' x n d := h.elim (fun h => .inl (h.same s)) .inr
theorem RIn.ne {C : Addr} {k : Nat} {H : Hp} {x : V} {n d : Int} (h : RIn C k H x n d) : d ≠ 0 := by
  rcases h with ⟨_, _, _, _, _, _, _, h, _⟩ | ⟨_, rfl, _⟩
  · exact h
  · decide
theorem bd_one {k : Nat} (h : 0 < k) : Bd k 1 := by
  show (1 : Int).natAbs < 2 ^ k
  exact Nat.lt_of_lt_of_le (by decide : 1 < 2 ^ 1) (Nat.pow_le_pow_right (by decide) h)
theorem RIn.bd {C : Addr} {k : Nat} {H : Hp} {x : V} {n d : Int} (h : RIn C k H x n d) (hk : 0 < k) : Bd k n ∧ Bd k d := by
  rcases h with ⟨_, _, _, _, _, _, _, _, h1, h2⟩ | ⟨_, rfl, h⟩
  · exact ⟨h1, h2⟩
  · exact ⟨h, bd_one hk⟩
theorem RatC.ty {K : PySem.W.Frag} {C a dx : Addr} {H : Hp} {fs : List (Str × V)} (R : RatC K C) (h : H a = some (.ins C dx fs)) : TyX K H (.ref a) (.ref C) := .base (.ins h R.cl R.ha R.hn R.htk R.hm)
theorem absI (x : Int) : (if x < 0 then -x else x) = (x.natAbs : Int) := by
  split <;> omega
/-! ### __init__ -/
def spInit (C CB : Addr) : Sp := fun vs H Q E => ∃ (x dx : Addr) (n d : Int), vs = [.ref x, .int n, .int d] ∧ H x = some (.ins C dx []) ∧ Bd 600 n ∧ Bd 600 d ∧ (d = 0 → E (.ref CB) none H) ∧
  (d ≠ 0 → ∀ (H' : Hp) (m e : Int), Red m e n d → SameBut x H H' → H' x = some (.ins C dx (rf m e)) → Q .non H')
theorem mk_rat {C CB : Addr} {k : Nat} {H1 : Hp} {Q : VK} {E : XK} {N D n d : Int} (hn : Bd 600 N) (hd : Bd 600 D) (hD : D ≠ 0) (q : N * d = n * D) (hd0 : d ≠ 0) (b1 : Bd k n) (b2 : Bd k d) (kk : ∀ (H' : Hp) (y : V), Same H1 H' → Rat C k H' y n d → Q y H') :
    ∀ x dx, H1 x = none → H1 dx = none → dx ≠ x → spInit C CB [.ref x, .int N, .int D] (upd (upd H1 dx (.own x)) x (.ins C dx [])) (fun v H2 => v = .non ∧ Q (.ref x) H2) E := by
  intro x dx nx nd ne
  refine ⟨x, dx, N, D, rfl, upd_same, hn, hd, fun z => absurd z hD, fun _ H' m e r s hx => ⟨rfl, kk H' (.ref x) (fun b o hb => ?_) ⟨x, dx, m, e, rfl, hx, r.congr hD q, hd0, b1, b2⟩⟩⟩
  have n1 : b ≠ x := ne_of_none hb nx
  have n2 : b ≠ dx := ne_of_none hb nd
  exact s b o n1 (by rw [upd_ne n1, upd_ne n2]; exact hb)
theorem mk_zero {C CB : Addr} {H1 : Hp} {Q : VK} {E : XK} {N D : Int} (hn : Bd 600 N) (hD : D = 0) (kk : ∀ H' : Hp, Same H1 H' → E (.ref CB) none H') :
    ∀ x dx, H1 x = none → H1 dx = none → dx ≠ x → spInit C CB [.ref x, .int N, .int D] (upd (upd H1 dx (.own x)) x (.ins C dx [])) (fun v H2 => v = .non ∧ Q (.ref x) H2) E := by
  subst hD
  intro x dx nx nd ne
  refine ⟨x, dx, N, 0, rfl, upd_same, hn, (by show 0 < 2 ^ 600; exact Nat.pow_pos (by decide)), fun _ => kk _ fun b o hb => ?_, fun z => absurd rfl z⟩
  rw [upd_ne (ne_of_none hb nx), upd_ne (ne_of_none hb nd)]
  exact hb
section
variable {P : Program} {w : World} {K : PySem.W.Frag} {mg : Str → Option Value} {base : Heap} {f fI C CB : Addr} {fd fdI : FuncData}
abbrev initSt : Stmt := inClass (top 5) 0
theorem scInit : FnScope ["self", "number", "over", "common"] ["self", "number", "over"] (defScope initSt) := ⟨rfl, rfl, rfl, by decide +kernel, rfl, by decide +kernel, by decide +kernel⟩
theorem ok_init {kws : List (Str × V)} {dvs : List V} (F : FunD K "__init__" "Ratio.__init__" (defArgs initSt) (defBody initSt) (defScope initSt) dvs kws f fd) (R : RatC K C) (gG : mg "gcd" = some (.builtin "math.gcd"))
    (ex : PySem.W.excIn K CB He.veBase "ValueError.__new__" = true) (gB : mg "BadOver" = some (.ref CB)) (kB : PySem.W.keepIn K (.ref CB) = true) (r1 : PySem.W.subIn K (.ref CB) (.type "BaseException") = some true) (r2 : PySem.W.typeIn K (.ref CB) = some (.type "type")) :
    FnOk P w K mg base (L2.CX P w) 1 f fd ["self", "number", "over"] (spInit C CB) := by
  refine F.ok scInit (fun vs H Q E h => ?_) (fun cdv A outer s H vs Q E hr h => ?_)
  · obtain ⟨x, dx, n, d, rfl, _⟩ := h
    rfl
  · obtain ⟨x, dx, n, d, rfl, hx, hn, hd, h0, h1⟩ := h
    refine ⟨_, pss_cons (ps_if (pt_cmpR op_eq (pv 2) pe_int (nomark _)) (pss_one (ps_raise rfl (takes_of rfl rfl rfl rfl) (pmk_own0 PySem.F.excBase_ValueError ex gB kB (raises_own r1 r2) (by rfl)))) pss_nil)
      (pss_cons (ps_set (i := 3) scInit.nd rfl (Or.inl rfl) (pe_ifExp (pt_cmpR op_gt (pv 2) pe_int (nomark _)) (pe_callBfun cr_gcd (by rfl) gG (pa_cons (pv 1) (pa_cons (pv 2) pa_nil))) (pe_un un_neg (pe_callBfun cr_gcd (by rfl) gG (pa_cons (pv 1) (pa_cons (pv 2) pa_nil))))))
      (pss_cons (ps_fld (pv 0) (pe_op op_fdivX (pv 1) (pv 3)) rfl)
      (pss_one (ps_fld (pv 0) (pe_op op_fdivX (pv 2) (pv 3)) rfl)))), ?_⟩
    refine ⟨V.int d, rfl, rfl, _, rfl, ?_⟩
    refine ite2 (fun c => ?_) (fun c => ?_)
    · have c' : d = 0 := by
        have z := of_decide_eq_true c
        exact V.int.inj z
      exact h0 c'
    · have c' : d ≠ 0 := fun z => c (decide_eq_true (by rw [z]))
      obtain ⟨g, m, e, hg, hg0, hgd, hm, he, hR⟩ := red_init n d c'
      have hlog : g.natAbs.log2 < 9000 := (hd.le hgd).log (by decide) (by decide)
      refine ⟨V.int d, rfl, d, 0, rfl, rfl, _, rfl, ?_⟩
      refine ite2 (fun c2 => ?_) (fun c2 => ?_)
      · rw [if_pos (of_decide_eq_true c2)] at hg
        refine ⟨V.int n, rfl, V.int d, rfl, n, d, rfl, ?_⟩
        rw [← hg]
        refine ⟨V.int n, rfl, V.int g, rfl, n, g, rfl, rfl, ⟨hg0, hlog⟩, V.ref x, rfl, x, C, dx, [], rfl, hx, R.cl, R.n1, by decide, ?_⟩
        refine ⟨V.int d, rfl, V.int g, rfl, d, g, rfl, rfl, ⟨hg0, hlog⟩, V.ref x, rfl, x, C, dx, _, rfl, upd_same, R.cl, R.n2, (by show 1 < 1000; decide), ?_⟩
        dsimp only
        rw [hm, he, rf_put]
        exact h1 c' _ m e hR (fun b o hb z => by rw [upd_ne hb, upd_ne hb]; exact z) upd_same
      · rw [if_neg (fun z => c2 (decide_eq_true z))] at hg
        refine ⟨V.int n, rfl, V.int d, rfl, n, d, rfl, _, rfl, ?_⟩
        dsimp only
        rw [← hg]
        refine ⟨V.int n, rfl, V.int g, rfl, n, g, rfl, rfl, ⟨hg0, hlog⟩, V.ref x, rfl, x, C, dx, [], rfl, hx, R.cl, R.n1, by decide, ?_⟩
        refine ⟨V.int d, rfl, V.int g, rfl, d, g, rfl, rfl, ⟨hg0, hlog⟩, V.ref x, rfl, x, C, dx, _, rfl, upd_same, R.cl, R.n2, (by show 1 < 1000; decide), ?_⟩
        dsimp only
        rw [hm, he, rf_put]
        exact h1 c' _ m e hR (fun b o hb z => by rw [upd_ne hb, upd_ne hb]; exact z) upd_same
/-! ### as_ratio -/
def spAs (C : Addr) : Sp := fun vs H Q _ => ∃ (v : V) (n d : Int), vs = [v] ∧ RIn C 140 H v n d ∧ ∀ (H' : Hp) (y : V), Same H H' → Rat C 140 H' y n d → Q y H'
theorem scAs : FnScope ["value"] ["value"] (defScope (top 6)) := ⟨rfl, rfl, rfl, by decide +kernel, rfl, by decide +kernel, by decide +kernel⟩
theorem ok_as {ds : List Value} (F : Fun K "as_ratio" "as_ratio" (top 6) f fd) (R : RatC K C) (gI : mg "isinstance" = none) (gN : mg "int" = none) (gL : mg "bool" = none) (gC : mg "Ratio" = some (.ref C)) (M : Mk K C fI) (GI : FnOk P w K mg base (L2.CX P w) 1 fI fdI ["self", "number", "over"] (spInit C CB))
    (bD : Binds K fdI ["self", "number", "over"] ds) (vD : Vals [V.int 1] ds) : FnOk P w K mg base (L2.CX P w) 3 f fd ["value"] (spAs C) := by
  refine F.okX scAs (fun vs H Q E h => ?_) (fun cdv A outer s H vs Q E hr h => ?_)
  · obtain ⟨v, n, d, rfl, _⟩ := h
    rfl
  · obtain ⟨v, n, d, rfl, hv, kk⟩ := h
    refine ⟨_, pss_cons (ps_if (pt_val (pe_callB call_isi (by rfl) gI PyProof.Rows.boot_isinstance (pa_cons (pv 0) (pa_cons (pe_glob (v := V.ref C) (by rfl) gC rfl) pa_nil)))) (pss_one (ps_ret (pv 0))) pss_nil)
      (pss_one (ps_ret (pe_ifExp (pw_and (pt_val (pe_callB call_isi (by rfl) gI PyProof.Rows.boot_isinstance (pa_cons (pv 0) (pa_cons (pe_bltn (v := .ty "int") (by rfl) gN PyProof.Rows.boot_int rfl) pa_nil))))
          (pw_and1 (pt_not (pt_val (pe_callB call_isi (by rfl) gI PyProof.Rows.boot_isinstance (pa_cons (pv 0) (pa_cons (pe_bltn (v := .ty "bool") (by rfl) gL PyProof.Rows.boot_bool rfl) pa_nil))))))).pt
        (pe_make M GI hr (by rfl) gC bD vD (passes_call (takes_of rfl rfl rfl rfl) (fun _ _ _ _ h => h)) (pa_cons (pv 0) pa_nil)) pe_non))), ?_⟩
    rcases hv with hv | ⟨rfl, rfl, hb⟩
    · have hv0 := hv
      obtain ⟨a, dx, m, e, rfl, ha, _⟩ := hv
      exact ⟨V.ref a, rfl, V.ref a, .ref C, .ref C, .ref C, true, rfl, .own C, R.ty ha, R.k1, true, rfl, iteT ⟨V.ref a, rfl, kk H _ (Same.refl H) hv0⟩⟩
    · refine ⟨V.int n, rfl, V.int n, .ref C, .type "int", .ref C, false, rfl, .own C, .base (.int n), R.kI, false, rfl, iteF ?_⟩
      refine ⟨V.int n, rfl, V.int n, .ty "int", .type "int", .type "int", true, rfl, .ty _, .base (.int n), kit_ty (by decide +kernel), true, rfl, iteT ?_⟩
      refine ⟨V.int n, rfl, V.int n, .ty "bool", .type "int", .type "bool", false, rfl, .ty _, .base (.int n), kit_ty (by decide +kernel), false, rfl, iteT ?_⟩
      exact ⟨V.int n, rfl, mk_rat (hb.mono (by decide)) (bd_one (by decide)) (by decide) rfl (by decide) hb (bd_one (by decide)) kk⟩
end
end SK
namespace SK
open PySem PySem.Spec PyProof.Rows L2 LamX NdefX
/-! ### the methods -/
theorem Rat.out {C : Addr} {k : Nat} {H : Hp} {x : V} {n d : Int} (h : Rat C k H x n d) : ∃ (a dx : Addr) (m e : Int), x = .ref a ∧ H a = some (.ins C dx (rf m e)) ∧ Red m e n d ∧ d ≠ 0 ∧ Bd k n ∧ Bd k d ∧ Bd k m ∧ Bd k e := by
  obtain ⟨a, dx, m, e, h1, h2, h3, h4, h5, h6⟩ := h
  obtain ⟨b1, b2⟩ := h3.bound h4
  exact ⟨a, dx, m, e, h1, h2, h3, h4, h5, h6, h5.le b1, h6.le b2⟩
theorem Rat.ins {C : Addr} {k : Nat} {H : Hp} {x : V} {n d : Int} (h : Rat C k H x n d) : Ins C H x := by
  obtain ⟨a, dx, m, e, h1, h2, _⟩ := h
  exact ⟨a, dx, _, h1, h2⟩
section
variable {K : PySem.W.Frag} {C a dx : Addr} {σ : L2.St} {H : Hp} {Q : VK} {i : Nat} {m e : Int}
theorem tnum (R : RatC K C) (hs : σ[i]? = some (some (V.ref a))) (ha : H a = some (.ins C dx (rf m e))) (q : Q (.int m) H) : tFld K (tVar i) "number" σ H Q := ⟨V.ref a, hs, a, C, dx, _, _, rfl, ha, R.cl, R.n1, rf_n m e, q⟩
theorem tovr (R : RatC K C) (hs : σ[i]? = some (some (V.ref a))) (ha : H a = some (.ins C dx (rf m e))) (q : Q (.int e) H) : tFld K (tVar i) "over" σ H Q := ⟨V.ref a, hs, a, C, dx, _, _, rfl, ha, R.cl, R.n2, rf_o m e, q⟩
end
def spNeg (C : Addr) : Sp := fun vs H Q _ => ∃ (x : V) (n d : Int) (k : Nat), vs = [x] ∧ k ≤ 300 ∧ Rat C k H x n d ∧ ∀ (H' : Hp) (y : V), Same H H' → Rat C k H' y (-n) d → Q y H'
def spAbs (C : Addr) : Sp := fun vs H Q _ => ∃ (x : V) (n d : Int) (k : Nat), vs = [x] ∧ k ≤ 300 ∧ Rat C k H x n d ∧ ∀ (H' : Hp) (y : V), Same H H' → Rat C k H' y (n.natAbs : Int) (d.natAbs : Int) → Q y H'
def spOp (C : Addr) (N D : Int → Int → Int → Int → Int) : Sp := fun vs H Q _ => ∃ (x v : V) (n d n2 d2 : Int), vs = [x, v] ∧ Rat C 140 H x n d ∧ RIn C 140 H v n2 d2 ∧ ∀ (H' : Hp) (y : V), Same H H' → Rat C 300 H' y (N n d n2 d2) (D n d n2 d2) → Q y H'
def spOpI (C : Addr) (N D : Int → Int → Int → Int → Int) : Sp := fun vs H Q _ => ∃ (x : V) (n d j : Int), vs = [x, .int j] ∧ Rat C 140 H x n d ∧ Bd 140 j ∧ ∀ (H' : Hp) (y : V), Same H H' → Rat C 300 H' y (N n d j 1) (D n d j 1) → Q y H'
def spLess (C : Addr) : Sp := fun vs H Q _ => ∃ (x v : V) (n d n2 d2 : Int), vs = [x, v] ∧ Rat C 140 H x n d ∧ RIn C 140 H v n2 d2 ∧ ∀ (H' : Hp), Same H H' → Q (.bl (lessB n d n2 d2)) H'
def spDiv (C CB : Addr) : Sp := fun vs H Q E => ∃ (x v : V) (n d n2 d2 : Int), vs = [x, v] ∧ Rat C 140 H x n d ∧ RIn C 140 H v n2 d2 ∧ (n2 = 0 → ∀ H', Same H H' → E (.ref CB) none H') ∧ (n2 ≠ 0 → ∀ (H' : Hp) (y : V), Same H H' → Rat C 300 H' y (n * d2) (d * n2) → Q y H')
def spEq (K : PySem.W.Frag) (C : Addr) : Sp := fun vs H Q _ => ∃ (x v : V) (n d : Int), vs = [x, v] ∧ Rat C 300 H x n d ∧ ((∃ n2 d2, Rat C 300 H v n2 d2 ∧ Q (.bl (decide (n * d2 = n2 * d))) H) ∨ (((∃ j, v = .int j) ∨ ∃ t xs, v = .ref t ∧ H t = some (.tup xs)) ∧ Q (.bl false) H))
def toldS (m e : Int) : Str := if e = 1 then Str.ofString (toString m) else (Str.ofString (toString m) ++ Str.ofString "/") ++ Str.ofString (toString e)
def spStr (C : Addr) : Sp := fun vs H Q _ => ∃ (a dx : Addr) (m e : Int), vs = [.ref a] ∧ H a = some (.ins C dx (rf m e)) ∧ Bd 300 m ∧ Bd 300 e ∧ Q (.str (toldS m e)) H
abbrev nAdd : Int → Int → Int → Int → Int := fun n d n2 d2 => n * d2 + n2 * d
abbrev nSub : Int → Int → Int → Int → Int := fun n d n2 d2 => n * d2 - n2 * d
abbrev nMul : Int → Int → Int → Int → Int := fun n _ n2 _ => n * n2
abbrev nRsb : Int → Int → Int → Int → Int := fun n d n2 d2 => -n * d2 + n2 * d
abbrev dMul : Int → Int → Int → Int → Int := fun _ d _ d2 => d * d2
abbrev me (i : Nat) : Stmt := inClass (top 5) i
theorem str_nil (y : Str) : Str.empty ++ y = y := by
  obtain ⟨a⟩ := y
  show (⟨#[] ++ a⟩ : Str) = ⟨a⟩
  rw [Array.empty_append]
theorem bd300 {x : Int} {k : Nat} (h : Bd k x) (hk : k ≤ 300) (hk0 : 0 < k) : x.natAbs.log2 < 1920 := h.log hk0 (by omega)
section
variable {P : Program} {w : World} {K : PySem.W.Frag} {mg : Str → Option Value} {base : Heap} {f fI fA fP fN C CB : Addr} {fd fdI fdA fdP fdN : FuncData}
abbrev IP : List Str := ["self", "number", "over"]
theorem ok_neg (F : Fun K "__neg__" "Ratio.__neg__" (me 3) f fd) (R : RatC K C) (gC : mg "Ratio" = some (.ref C)) (M : Mk K C fI) (GI : FnOk P w K mg base (L2.CX P w) 1 fI fdI IP (spInit C CB)) (bI : Binds K fdI IP []) :
    FnOk P w K mg base (L2.CX P w) 3 f fd ["self"] (spNeg C) := by
  refine F.okX (N := ["self"]) ⟨rfl, rfl, rfl, by decide +kernel, rfl, by decide +kernel, by decide +kernel⟩ (fun vs H Q E h => ?_) (fun cdv A outer s H vs Q E hr h => ?_)
  · obtain ⟨x, n, d, k, rfl, _⟩ := h
    rfl
  · obtain ⟨x, n, d, k, rfl, hk, hx, kk⟩ := h
    obtain ⟨a, dx, m, e, rfl, ha, r, hd, b1, b2, b3, b4⟩ := hx.out
    refine ⟨_, pss_one (ps_ret (pe_make M GI hr (by rfl) gC bI .nil (passes_call (takes_of rfl rfl rfl rfl) (fun _ _ _ _ h => h)) (pa_cons (pe_un un_neg (pe_fld (pv 0) rfl)) (pa_cons (pe_fld (pv 0) rfl) pa_nil)))), ?_⟩
    refine ⟨V.ref a, rfl, a, C, dx, _, _, rfl, ha, R.cl, R.n1, rf_n m e, m, rfl, V.ref a, rfl, a, C, dx, _, _, rfl, ha, R.cl, R.n2, rf_o m e, ?_⟩
    exact mk_rat (b3.neg.mono (by omega)) (b4.mono (by omega)) r.ne (by rw [Int.neg_mul, Int.neg_mul, r.eq]) hd b1.neg b2 kk
theorem ok_abs (F : Fun K "__abs__" "Ratio.__abs__" (me 4) f fd) (R : RatC K C) (gA : mg "abs" = none) (gC : mg "Ratio" = some (.ref C)) (M : Mk K C fI) (GI : FnOk P w K mg base (L2.CX P w) 1 fI fdI IP (spInit C CB)) (bI : Binds K fdI IP []) :
    FnOk P w K mg base (L2.CX P w) 3 f fd ["self"] (spAbs C) := by
  refine F.okX (N := ["self"]) ⟨rfl, rfl, rfl, by decide +kernel, rfl, by decide +kernel, by decide +kernel⟩ (fun vs H Q E h => ?_) (fun cdv A outer s H vs Q E hr h => ?_)
  · obtain ⟨x, n, d, k, rfl, _⟩ := h
    rfl
  · obtain ⟨x, n, d, k, rfl, hk, hx, kk⟩ := h
    obtain ⟨a, dx, m, e, rfl, ha, r, hd, b1, b2, b3, b4⟩ := hx.out
    refine ⟨_, pss_one (ps_ret (pe_make M GI hr (by rfl) gC bI .nil (passes_call (takes_of rfl rfl rfl rfl) (fun _ _ _ _ h => h)) (pa_cons (pe_callB call_abs (by rfl) gA PyProof.Rows.boot_abs (pa_cons (pe_fld (pv 0) rfl) pa_nil)) (pa_cons (pe_fld (pv 0) rfl) pa_nil)))), ?_⟩
    refine ⟨V.ref a, rfl, a, C, dx, _, _, rfl, ha, R.cl, R.n1, rf_n m e, m, rfl, V.ref a, rfl, a, C, dx, _, _, rfl, ha, R.cl, R.n2, rf_o m e, ?_⟩
    have q := r.eq
    have z : (m.natAbs : Int) * (d.natAbs : Int) = (n.natAbs : Int) * e := by
      have h1 : m.natAbs * d.natAbs = n.natAbs * e.natAbs := by rw [← Int.natAbs_mul, ← Int.natAbs_mul, q]
      have h2 : (e.natAbs : Int) = e := Int.natAbs_of_nonneg (Int.le_of_lt r.pos)
      rw [← Int.natCast_mul, h1, Int.natCast_mul, h2]
    refine mk_rat (b3.abs.mono (by omega)) (b4.mono (by omega)) r.ne (by rw [absI]; exact z) (by omega) ?_ ?_ kk
    · show (n.natAbs : Int).natAbs < _
      rw [Int.natAbs_natCast]
      exact b1
    · show (d.natAbs : Int).natAbs < _
      rw [Int.natAbs_natCast]
      exact b2
theorem tnon {b : Addr} : ¬ decide (V.ref b = V.non) = true := fun z => by
  have := of_decide_eq_true z
  cases this
abbrev NB : List Str := ["self", "other", "told"]
theorem ok_add (F : Fun K "__add__" "Ratio.__add__" (me 5) f fd) (R : RatC K C) (gA : mg "as_ratio" = some (.ref fA)) (kA : PySem.W.keepIn K (.ref fA) = true) (GA : FnOk P w K mg base (L2.CX P w) 3 fA fdA ["value"] (spAs C)) (bA : Binds K fdA ["value"] [])
    (gC : mg "Ratio" = some (.ref C)) (M : Mk K C fI) (GI : FnOk P w K mg base (L2.CX P w) 1 fI fdI IP (spInit C CB)) (bI : Binds K fdI IP []) :
    FnOk P w K mg base (L2.CX P w) 4 f fd ["self", "other"] (spOp C nAdd dMul) := by
  have S : FnScope NB ["self", "other"] (defScope (me 5)) := ⟨rfl, rfl, rfl, by decide +kernel, rfl, by decide +kernel, by decide +kernel⟩
  refine F.okX S (fun vs H Q E h => ?_) (fun cdv A outer s H vs Q E hr h => ?_)
  · obtain ⟨x, v, n, d, n2, d2, rfl, _⟩ := h
    rfl
  · obtain ⟨x, v, n, d, n2, d2, rfl, hx, hv, kk⟩ := h
    obtain ⟨a, dx, m, e, rfl, ha, r, hd, b1, b2, b3, b4⟩ := hx.out
    refine ⟨_, pss_cons (ps_set (i := 2) S.nd rfl (Or.inl rfl) (pe_call GA hr (by rfl) gA kA bA .nil (passes_call (takes_of rfl rfl rfl rfl) (fun _ _ _ _ h => h)) (pa_cons (pv 1) pa_nil)))
      (pss_cons (ps_if (pt_cmpR op_isN (pv 2) pe_non (nomark _)) pss_dead pss_nil)
      (pss_one (ps_ret (pe_make M GI (hr.mono (by decide)) (by rfl) gC bI .nil (passes_call (takes_of rfl rfl rfl rfl) (fun _ _ _ _ h => h))
        (pa_cons (pe_op op_add (pe_op op_mulW (pe_fld (pv 0) rfl) (pe_fld (pv 2) rfl)) (pe_op op_mulW (pe_fld (pv 2) rfl) (pe_fld (pv 0) rfl))) (pa_cons (pe_op op_mulW (pe_fld (pv 0) rfl) (pe_fld (pv 2) rfl)) pa_nil)))))), ?_⟩
    refine ⟨v, rfl, v, n2, d2, rfl, hv, fun H1 y s1 hy => ?_⟩
    obtain ⟨b, dy, m2, e2, rfl, hb, r2, hd2, c1, c2, c3, c4⟩ := hy.out
    have ha1 := s1 _ _ ha
    refine ⟨V.ref b, rfl, rfl, _, rfl, ite2 (fun c => absurd c tnon) fun _ => ?_⟩
    refine ⟨V.ref a, rfl, a, C, dx, _, _, rfl, ha1, R.cl, R.n1, rf_n m e, V.ref b, rfl, b, C, dy, _, _, rfl, hb, R.cl, R.n2, rf_o m2 e2, m, e2, rfl, rfl, b3.cm c4 (by decide) (by decide) (by decide), V.ref b, rfl, b, C, dy, _, _, rfl, hb, R.cl, R.n1, rf_n m2 e2, V.ref a, rfl, a, C, dx, _, _, rfl, ha1, R.cl, R.n2, rf_o m e, m2, e, rfl, rfl, c3.cm b4 (by decide) (by decide) (by decide), m * e2, m2 * e, rfl, rfl, V.ref a, rfl, a, C, dx, _, _, rfl, ha1, R.cl, R.n2, rf_o m e, V.ref b, rfl, b, C, dy, _, _, rfl, hb, R.cl, R.n2, rf_o m2 e2, e, e2, rfl, rfl, b4.cm c4 (by decide) (by decide) (by decide), ?_⟩
    exact mk_rat (((b3.mul c4).add (c3.mul b4)).mono (by decide)) ((b4.mul c4).mono (by decide)) (Int.mul_ne_zero r.ne r2.ne) (red_add r r2) (Int.mul_ne_zero hd hd2) (((b1.mul c2).add (c1.mul b2)).mono (by decide)) ((b2.mul c2).mono (by decide)) fun H' y s hy => kk H' y (s1.trans s) hy
theorem ok_sub (F : Fun K "__sub__" "Ratio.__sub__" (me 7) f fd) (R : RatC K C) (gA : mg "as_ratio" = some (.ref fA)) (kA : PySem.W.keepIn K (.ref fA) = true) (GA : FnOk P w K mg base (L2.CX P w) 3 fA fdA ["value"] (spAs C)) (bA : Binds K fdA ["value"] [])
    (gC : mg "Ratio" = some (.ref C)) (M : Mk K C fI) (GI : FnOk P w K mg base (L2.CX P w) 1 fI fdI IP (spInit C CB)) (bI : Binds K fdI IP []) :
    FnOk P w K mg base (L2.CX P w) 4 f fd ["self", "other"] (spOp C nSub dMul) := by
  have S : FnScope NB ["self", "other"] (defScope (me 7)) := ⟨rfl, rfl, rfl, by decide +kernel, rfl, by decide +kernel, by decide +kernel⟩
  refine F.okX S (fun vs H Q E h => ?_) (fun cdv A outer s H vs Q E hr h => ?_)
  · obtain ⟨x, v, n, d, n2, d2, rfl, _⟩ := h
    rfl
  · obtain ⟨x, v, n, d, n2, d2, rfl, hx, hv, kk⟩ := h
    obtain ⟨a, dx, m, e, rfl, ha, r, hd, b1, b2, b3, b4⟩ := hx.out
    refine ⟨_, pss_cons (ps_set (i := 2) S.nd rfl (Or.inl rfl) (pe_call GA hr (by rfl) gA kA bA .nil (passes_call (takes_of rfl rfl rfl rfl) (fun _ _ _ _ h => h)) (pa_cons (pv 1) pa_nil)))
      (pss_cons (ps_if (pt_cmpR op_isN (pv 2) pe_non (nomark _)) pss_dead pss_nil)
      (pss_one (ps_ret (pe_make M GI (hr.mono (by decide)) (by rfl) gC bI .nil (passes_call (takes_of rfl rfl rfl rfl) (fun _ _ _ _ h => h))
        (pa_cons (pe_op op_sub (pe_op op_mulW (pe_fld (pv 0) rfl) (pe_fld (pv 2) rfl)) (pe_op op_mulW (pe_fld (pv 2) rfl) (pe_fld (pv 0) rfl))) (pa_cons (pe_op op_mulW (pe_fld (pv 0) rfl) (pe_fld (pv 2) rfl)) pa_nil)))))), ?_⟩
    refine ⟨v, rfl, v, n2, d2, rfl, hv, fun H1 y s1 hy => ?_⟩
    obtain ⟨b, dy, m2, e2, rfl, hb, r2, hd2, c1, c2, c3, c4⟩ := hy.out
    have ha1 := s1 _ _ ha
    refine ⟨V.ref b, rfl, rfl, _, rfl, ite2 (fun c => absurd c tnon) fun _ => ?_⟩
    refine ⟨V.ref a, rfl, a, C, dx, _, _, rfl, ha1, R.cl, R.n1, rf_n m e, V.ref b, rfl, b, C, dy, _, _, rfl, hb, R.cl, R.n2, rf_o m2 e2, m, e2, rfl, rfl, b3.cm c4 (by decide) (by decide) (by decide), V.ref b, rfl, b, C, dy, _, _, rfl, hb, R.cl, R.n1, rf_n m2 e2, V.ref a, rfl, a, C, dx, _, _, rfl, ha1, R.cl, R.n2, rf_o m e, m2, e, rfl, rfl, c3.cm b4 (by decide) (by decide) (by decide), m * e2, m2 * e, rfl, rfl, V.ref a, rfl, a, C, dx, _, _, rfl, ha1, R.cl, R.n2, rf_o m e, V.ref b, rfl, b, C, dy, _, _, rfl, hb, R.cl, R.n2, rf_o m2 e2, e, e2, rfl, rfl, b4.cm c4 (by decide) (by decide) (by decide), ?_⟩
    exact mk_rat (((b3.mul c4).sub (c3.mul b4)).mono (by decide)) ((b4.mul c4).mono (by decide)) (Int.mul_ne_zero r.ne r2.ne) (red_sub r r2) (Int.mul_ne_zero hd hd2) (((b1.mul c2).sub (c1.mul b2)).mono (by decide)) ((b2.mul c2).mono (by decide)) fun H' y s hy => kk H' y (s1.trans s) hy
theorem ok_mul (F : Fun K "__mul__" "Ratio.__mul__" (me 9) f fd) (R : RatC K C) (gA : mg "as_ratio" = some (.ref fA)) (kA : PySem.W.keepIn K (.ref fA) = true) (GA : FnOk P w K mg base (L2.CX P w) 3 fA fdA ["value"] (spAs C)) (bA : Binds K fdA ["value"] [])
    (gC : mg "Ratio" = some (.ref C)) (M : Mk K C fI) (GI : FnOk P w K mg base (L2.CX P w) 1 fI fdI IP (spInit C CB)) (bI : Binds K fdI IP []) :
    FnOk P w K mg base (L2.CX P w) 4 f fd ["self", "other"] (spOp C nMul dMul) := by
  have S : FnScope NB ["self", "other"] (defScope (me 9)) := ⟨rfl, rfl, rfl, by decide +kernel, rfl, by decide +kernel, by decide +kernel⟩
  refine F.okX S (fun vs H Q E h => ?_) (fun cdv A outer s H vs Q E hr h => ?_)
  · obtain ⟨x, v, n, d, n2, d2, rfl, _⟩ := h
    rfl
  · obtain ⟨x, v, n, d, n2, d2, rfl, hx, hv, kk⟩ := h
    obtain ⟨a, dx, m, e, rfl, ha, r, hd, b1, b2, b3, b4⟩ := hx.out
    refine ⟨_, pss_cons (ps_set (i := 2) S.nd rfl (Or.inl rfl) (pe_call GA hr (by rfl) gA kA bA .nil (passes_call (takes_of rfl rfl rfl rfl) (fun _ _ _ _ h => h)) (pa_cons (pv 1) pa_nil)))
      (pss_cons (ps_if (pt_cmpR op_isN (pv 2) pe_non (nomark _)) pss_dead pss_nil)
      (pss_one (ps_ret (pe_make M GI (hr.mono (by decide)) (by rfl) gC bI .nil (passes_call (takes_of rfl rfl rfl rfl) (fun _ _ _ _ h => h))
        (pa_cons (pe_op op_mulW (pe_fld (pv 0) rfl) (pe_fld (pv 2) rfl)) (pa_cons (pe_op op_mulW (pe_fld (pv 0) rfl) (pe_fld (pv 2) rfl)) pa_nil)))))), ?_⟩
    refine ⟨v, rfl, v, n2, d2, rfl, hv, fun H1 y s1 hy => ?_⟩
    obtain ⟨b, dy, m2, e2, rfl, hb, r2, hd2, c1, c2, c3, c4⟩ := hy.out
    have ha1 := s1 _ _ ha
    refine ⟨V.ref b, rfl, rfl, _, rfl, ite2 (fun c => absurd c tnon) fun _ => ?_⟩
    refine ⟨V.ref a, rfl, a, C, dx, _, _, rfl, ha1, R.cl, R.n1, rf_n m e, V.ref b, rfl, b, C, dy, _, _, rfl, hb, R.cl, R.n1, rf_n m2 e2, m, m2, rfl, rfl, b3.cm c3 (by decide) (by decide) (by decide), V.ref a, rfl, a, C, dx, _, _, rfl, ha1, R.cl, R.n2, rf_o m e, V.ref b, rfl, b, C, dy, _, _, rfl, hb, R.cl, R.n2, rf_o m2 e2, e, e2, rfl, rfl, b4.cm c4 (by decide) (by decide) (by decide), ?_⟩
    exact mk_rat ((b3.mul c3).mono (by decide)) ((b4.mul c4).mono (by decide)) (Int.mul_ne_zero r.ne r2.ne) (red_mul r r2) (Int.mul_ne_zero hd hd2) ((b1.mul c1).mono (by decide)) ((b2.mul c2).mono (by decide)) fun H' y s hy => kk H' y (s1.trans s) hy
theorem ok_div (F : Fun K "divided" "Ratio.divided" (me 12) f fd) (R : RatC K C) (gA : mg "as_ratio" = some (.ref fA)) (kA : PySem.W.keepIn K (.ref fA) = true) (GA : FnOk P w K mg base (L2.CX P w) 3 fA fdA ["value"] (spAs C)) (bA : Binds K fdA ["value"] [])
    (gC : mg "Ratio" = some (.ref C)) (M : Mk K C fI) (GI : FnOk P w K mg base (L2.CX P w) 1 fI fdI IP (spInit C CB)) (bI : Binds K fdI IP []) :
    FnOk P w K mg base (L2.CX P w) 4 f fd ["self", "other"] (spDiv C CB) := by
  have S : FnScope NB ["self", "other"] (defScope (me 12)) := ⟨rfl, rfl, rfl, by decide +kernel, rfl, by decide +kernel, by decide +kernel⟩
  refine F.okX S (fun vs H Q E h => ?_) (fun cdv A outer s H vs Q E hr h => ?_)
  · obtain ⟨x, v, n, d, n2, d2, rfl, _⟩ := h
    rfl
  · obtain ⟨x, v, n, d, n2, d2, rfl, hx, hv, k0, kk⟩ := h
    obtain ⟨a, dx, m, e, rfl, ha, r, hd, b1, b2, b3, b4⟩ := hx.out
    refine ⟨_, pss_cons (ps_set (i := 2) S.nd rfl (Or.inl rfl) (pe_call GA hr (by rfl) gA kA bA .nil (passes_call (takes_of rfl rfl rfl rfl) (fun _ _ _ _ h => h)) (pa_cons (pv 1) pa_nil)))
      (pss_one (ps_ret (pe_make M GI (hr.mono (by decide)) (by rfl) gC bI .nil (passes_call (takes_of rfl rfl rfl rfl) (fun _ _ _ _ h => h))
        (pa_cons (pe_op op_mulW (pe_fld (pv 0) rfl) (pe_fld (pv 2) rfl)) (pa_cons (pe_op op_mulW (pe_fld (pv 0) rfl) (pe_fld (pv 2) rfl)) pa_nil))))), ?_⟩
    refine ⟨v, rfl, v, n2, d2, rfl, hv, fun H1 y s1 hy => ?_⟩
    obtain ⟨b, dy, m2, e2, rfl, hb, r2, hd2, c1, c2, c3, c4⟩ := hy.out
    have ha1 := s1 _ _ ha
    refine ⟨V.ref a, rfl, a, C, dx, _, _, rfl, ha1, R.cl, R.n1, rf_n m e, V.ref b, rfl, b, C, dy, _, _, rfl, hb, R.cl, R.n2, rf_o m2 e2, m, e2, rfl, rfl, b3.cm c4 (by decide) (by decide) (by decide), V.ref a, rfl, a, C, dx, _, _, rfl, ha1, R.cl, R.n2, rf_o m e, V.ref b, rfl, b, C, dy, _, _, rfl, hb, R.cl, R.n1, rf_n m2 e2, e, m2, rfl, rfl, b4.cm c3 (by decide) (by decide) (by decide), ?_⟩
    have z := red_zero r2 hd2
    by_cases c : n2 = 0
    · exact mk_zero ((b3.mul c4).mono (by decide)) (show e * m2 = 0 by rw [z.mpr c, Int.mul_zero]) fun H' s => k0 c H' (s1.trans s)
    · exact mk_rat ((b3.mul c4).mono (by decide)) ((b4.mul c3).mono (by decide)) (Int.mul_ne_zero r.ne fun q => c (z.mp q)) (red_div r r2) (Int.mul_ne_zero hd c) ((b1.mul c2).mono (by decide)) ((b2.mul c1).mono (by decide)) fun H' y s hy => kk c H' y (s1.trans s) hy
theorem ok_less (F : Fun K "is_less" "Ratio.is_less" (me 11) f fd) (R : RatC K C) (gA : mg "as_ratio" = some (.ref fA)) (kA : PySem.W.keepIn K (.ref fA) = true) (GA : FnOk P w K mg base (L2.CX P w) 3 fA fdA ["value"] (spAs C)) (bA : Binds K fdA ["value"] []) :
    FnOk P w K mg base (L2.CX P w) 4 f fd ["self", "other"] (spLess C) := by
  have S : FnScope NB ["self", "other"] (defScope (me 11)) := ⟨rfl, rfl, rfl, by decide +kernel, rfl, by decide +kernel, by decide +kernel⟩
  refine F.okX S (fun vs H Q E h => ?_) (fun cdv A outer s H vs Q E hr h => ?_)
  · obtain ⟨x, v, n, d, n2, d2, rfl, _⟩ := h
    rfl
  · obtain ⟨x, v, n, d, n2, d2, rfl, hx, hv, kk⟩ := h
    obtain ⟨a, dx, m, e, rfl, ha, r, hd, b1, b2, b3, b4⟩ := hx.out
    refine ⟨_, pss_cons (ps_set (i := 2) S.nd rfl (Or.inl rfl) (pe_call GA hr (by rfl) gA kA bA .nil (passes_call (takes_of rfl rfl rfl rfl) (fun _ _ _ _ h => h)) (pa_cons (pv 1) pa_nil)))
      (pss_one (ps_ret (pe_cmpR op_lt (pe_op op_mulW (pe_fld (pv 0) rfl) (pe_fld (pv 2) rfl)) (pe_op op_mulW (pe_fld (pv 2) rfl) (pe_fld (pv 0) rfl)) (nomark _)))), ?_⟩
    refine ⟨v, rfl, v, n2, d2, rfl, hv, fun H1 y s1 hy => ?_⟩
    obtain ⟨b, dy, m2, e2, rfl, hb, r2, hd2, c1, c2, c3, c4⟩ := hy.out
    have ha1 := s1 _ _ ha
    refine ⟨V.ref a, rfl, a, C, dx, _, _, rfl, ha1, R.cl, R.n1, rf_n m e, V.ref b, rfl, b, C, dy, _, _, rfl, hb, R.cl, R.n2, rf_o m2 e2, m, e2, rfl, rfl, b3.cm c4 (by decide) (by decide) (by decide), V.ref b, rfl, b, C, dy, _, _, rfl, hb, R.cl, R.n1, rf_n m2 e2, V.ref a, rfl, a, C, dx, _, _, rfl, ha1, R.cl, R.n2, rf_o m e, m2, e, rfl, rfl, c3.cm b4 (by decide) (by decide) (by decide), m * e2, m2 * e, rfl, rfl, ?_⟩
    have z := kk H1 s1
    rw [← red_less r r2 hd hd2] at z
    exact z
end
end SK
namespace SK
open PySem PySem.Spec PyProof.Rows L2 LamX NdefX
section
variable {P : Program} {w : World} {K : PySem.W.Frag} {mg : Str → Option Value} {base : Heap} {f fI fA fP fN fQ C CB : Addr} {fd fdI fdA fdP fdN : FuncData}
abbrev SO : List Str := ["self", "other"]
theorem ok_radd (F : Fun K "__radd__" "Ratio.__radd__" (me 6) f fd) (R : RatC K C) (M1 : Has K C (PySem.dunder Operator.Add.info.2) fP) (M2 : Has K C (dunderR Operator.Add.info.2) f) (GP : FnOk P w K mg base (L2.CX P w) 4 fP fdP SO (spOp C nAdd dMul)) (bP : Binds K fdP SO []) :
    FnOk P w K mg base (L2.CX P w) 5 f fd SO (spOpI C nAdd dMul) := by
  have S : FnScope SO SO (defScope (me 6)) := ⟨rfl, rfl, rfl, by decide +kernel, rfl, by decide +kernel, by decide +kernel⟩
  refine F.okX S (fun vs H Q E h => ?_) (fun cdv A outer s H vs Q E hr h => ?_)
  · obtain ⟨x, n, d, j, rfl, _⟩ := h
    rfl
  · obtain ⟨x, n, d, j, rfl, hx, hj, kk⟩ := h
    refine ⟨_, pss_one (ps_ret (pe_op (op_ownRI (op := .Add) R.own M1 M2 PySem.F.fills_int_add PySem.F.slot_int_radd.lookup GP hr bP (passes_call (takes_of rfl rfl rfl rfl) (fun _ _ _ _ h => h))) (pv 0) (pv 1))), ?_⟩
    exact ⟨x, rfl, V.int j, rfl, hx.ins, ⟨j, rfl⟩, x, .int j, n, d, j, 1, rfl, hx, .inr ⟨rfl, rfl, hj⟩, kk⟩
theorem ok_rmul (F : Fun K "__rmul__" "Ratio.__rmul__" (me 10) f fd) (R : RatC K C) (M1 : Has K C (PySem.dunder Operator.Mult.info.2) fP) (M2 : Has K C (dunderR Operator.Mult.info.2) f) (GP : FnOk P w K mg base (L2.CX P w) 4 fP fdP SO (spOp C nMul dMul)) (bP : Binds K fdP SO []) :
    FnOk P w K mg base (L2.CX P w) 5 f fd SO (spOpI C nMul dMul) := by
  have S : FnScope SO SO (defScope (me 10)) := ⟨rfl, rfl, rfl, by decide +kernel, rfl, by decide +kernel, by decide +kernel⟩
  refine F.okX S (fun vs H Q E h => ?_) (fun cdv A outer s H vs Q E hr h => ?_)
  · obtain ⟨x, n, d, j, rfl, _⟩ := h
    rfl
  · obtain ⟨x, n, d, j, rfl, hx, hj, kk⟩ := h
    refine ⟨_, pss_one (ps_ret (pe_op (op_ownRI (op := .Mult) R.own M1 M2 PySem.F.fills_int_mul PySem.F.slot_int_rmul.lookup GP hr bP (passes_call (takes_of rfl rfl rfl rfl) (fun _ _ _ _ h => h))) (pv 0) (pv 1))), ?_⟩
    exact ⟨x, rfl, V.int j, rfl, hx.ins, ⟨j, rfl⟩, x, .int j, n, d, j, 1, rfl, hx, .inr ⟨rfl, rfl, hj⟩, kk⟩
theorem ok_rsub (F : Fun K "__rsub__" "Ratio.__rsub__" (me 8) f fd) (R : RatC K C) (M0 : Has K C "__neg__" fN) (GN : FnOk P w K mg base (L2.CX P w) 3 fN fdN ["self"] (spNeg C)) (bN : Binds K fdN ["self"] [])
    (M1 : Has K C (PySem.dunder Operator.Add.info.2) fP) (M2 : Has K C (dunderR Operator.Add.info.2) fQ) (GP : FnOk P w K mg base (L2.CX P w) 4 fP fdP SO (spOp C nAdd dMul)) (bP : Binds K fdP SO []) :
    FnOk P w K mg base (L2.CX P w) 5 f fd SO (spOpI C nRsb dMul) := by
  have S : FnScope SO SO (defScope (me 8)) := ⟨rfl, rfl, rfl, by decide +kernel, rfl, by decide +kernel, by decide +kernel⟩
  refine F.okX S (fun vs H Q E h => ?_) (fun cdv A outer s H vs Q E hr h => ?_)
  · obtain ⟨x, n, d, j, rfl, _⟩ := h
    rfl
  · obtain ⟨x, n, d, j, rfl, hx, hj, kk⟩ := h
    refine ⟨_, pss_one (ps_ret (pe_op (op_ownRI (op := .Add) R.own M1 M2 PySem.F.fills_int_add PySem.F.slot_int_radd.lookup GP hr bP (passes_call (takes_of rfl rfl rfl rfl) (fun _ _ _ _ h => h))) (pe_un (un_own M0 GN (hr.mono (by decide)) bN (passes_call (takes_of rfl rfl rfl rfl) (fun _ _ _ _ h => h))) (pv 0)) (pv 1))), ?_⟩
    refine ⟨x, rfl, hx.ins, x, n, d, 140, rfl, by decide, hx, fun H1 y s1 hy => ?_⟩
    exact ⟨V.int j, rfl, hy.ins, ⟨j, rfl⟩, y, .int j, -n, d, j, 1, rfl, hy, .inr ⟨rfl, rfl, hj⟩, fun H' z s hz => kk H' z (s1.trans s) hz⟩
theorem ok_eq (F : Fun K "__eq__" "Ratio.__eq__" (me 1) f fd) (R : RatC K C) (gI : mg "isinstance" = none) (gC : mg "Ratio" = some (.ref C)) : FnOk P w K mg base (L2.CX P w) 1 f fd SO (spEq K C) := by
  have S : FnScope SO SO (defScope (me 1)) := ⟨rfl, rfl, rfl, by decide +kernel, rfl, by decide +kernel, by decide +kernel⟩
  refine F.okX S (fun vs H Q E h => ?_) (fun cdv A outer s H vs Q E hr h => ?_)
  · obtain ⟨x, v, n, d, rfl, _⟩ := h
    rfl
  · obtain ⟨x, v, n, d, rfl, hx, hv⟩ := h
    obtain ⟨a, dx, m, e, rfl, ha, r, hd, b1, b2, b3, b4⟩ := hx.out
    refine ⟨_, pss_one (ps_ret (pe_and (pe_callB call_isi (by rfl) gI PyProof.Rows.boot_isinstance (pa_cons (pv 1) (pa_cons (pe_glob (v := V.ref C) (by rfl) gC rfl) pa_nil)))
      (pe_and (pe_cmpR op_eq (pe_fld (pv 0) rfl) (pe_fld (pv 1) rfl) (nomark _)) (pe_one (pe_cmpR op_eq (pe_fld (pv 0) rfl) (pe_fld (pv 1) rfl) (nomark _)))))), ?_⟩
    rcases hv with ⟨n2, d2, hy, q⟩ | ⟨hv, q⟩
    · obtain ⟨b, dy, m2, e2, rfl, hb, r2, hd2, c1, c2, c3, c4⟩ := hy.out
      refine ⟨V.ref b, rfl, V.ref b, .ref C, .ref C, .ref C, true, rfl, .own C, R.ty hb, R.k1, true, rfl, iteT ?_⟩
      refine ⟨V.ref a, rfl, a, C, dx, _, _, rfl, ha, R.cl, R.n1, rf_n m e, V.ref b, rfl, b, C, dy, _, _, rfl, hb, R.cl, R.n1, rf_n m2 e2, rfl, _, rfl, ?_⟩
      refine ite2 (fun c => ?_) (fun c => ?_)
      · refine ⟨V.ref a, rfl, a, C, dx, _, _, rfl, ha, R.cl, R.n2, rf_o m e, V.ref b, rfl, b, C, dy, _, _, rfl, hb, R.cl, R.n2, rf_o m2 e2, rfl, ?_⟩
        have cm : m = m2 := V.int.inj (of_decide_eq_true c)
        have z : decide (V.int e = V.int e2) = decide (n * d2 = n2 * d) := by
          rw [decide_eq_decide]
          constructor
          · intro h
            have ce := V.int.inj h
            subst cm ce
            exact r.same r2 hd hd2
          · intro h
            rw [(r.uniq r2 hd hd2 h).2]
        rw [← z] at q
        exact q
      · have z : decide (n * d2 = n2 * d) = false := decide_eq_false fun h => c (decide_eq_true (by rw [(r.uniq r2 hd hd2 h).1]))
        rw [z] at q
        exact q
    · rcases hv with ⟨j, rfl⟩ | ⟨t, xs, rfl, ht⟩
      · exact ⟨V.int j, rfl, V.int j, .ref C, .type "int", .ref C, false, rfl, .own C, .base (.int j), R.kI, false, rfl, iteF q⟩
      · exact ⟨V.ref t, rfl, V.ref t, .ref C, .type "tuple", .ref C, false, rfl, .own C, .base (.tup ht), R.kT, false, rfl, iteF q⟩
theorem len_add (x y : Str) : (x ++ y).length = x.length + y.length := by
  obtain ⟨a⟩ := x
  obtain ⟨b⟩ := y
  exact Array.size_append
theorem dec1 (e : Int) : (decide (V.int e = V.int 1) = true) = (e = 1) := by
  rw [decide_eq_true_eq]
  exact propext ⟨V.int.inj, fun h => by rw [h]⟩
theorem ok_str (F : Fun K "__str__" "Ratio.__str__" (me 2) f fd) (R : RatC K C) (gS : mg "str" = none) : FnOk P w K mg base (L2.CX P w) 1 f fd ["self"] (spStr C) := by
  have S : FnScope ["self"] ["self"] (defScope (me 2)) := ⟨rfl, rfl, rfl, by decide +kernel, rfl, by decide +kernel, by decide +kernel⟩
  refine F.okX S (fun vs H Q E h => ?_) (fun cdv A outer s H vs Q E hr h => ?_)
  · obtain ⟨a, dx, m, e, rfl, _⟩ := h
    rfl
  · obtain ⟨a, dx, m, e, rfl, ha, b1, b2, q⟩ := h
    have g1 : m.natAbs.log2 < 1920 := bd300 b1 (by decide) (by decide)
    have g2 : e.natAbs.log2 < 1920 := bd300 b2 (by decide) (by decide)
    have l1 := int_text_len_1921 g1
    have l2 := int_text_len_1921 g2
    have l3 : (Str.ofString "/").length = 1 := by decide +kernel
    refine ⟨_, pss_cons (ps_if (pt_cmpR op_eq (pe_fld (pv 0) rfl) pe_int (nomark _)) (pss_one (ps_ret (pe_callTy call_str_int (by rfl) gS PyProof.Rows.boot_str (pa_cons (pe_fld (pv 0) rfl) pa_nil)))) pss_nil)
      (pss_one (ps_ret (pe_joined (.cons (pe_fmt (pe_fld (pv 0) rfl)) (.cons pe_str (.cons (pe_fmt (pe_fld (pv 0) rfl)) .nil)))))), ?_⟩
    refine ⟨V.ref a, rfl, a, C, dx, _, _, rfl, ha, R.cl, R.n2, rf_o m e, rfl, _, rfl, ?_⟩
    unfold toldS at q
    refine ite2 (fun c => ?_) (fun c => ?_)
    · rw [dec1] at c
      rw [if_pos c] at q
      exact ⟨V.ref a, rfl, a, C, dx, _, _, rfl, ha, R.cl, R.n1, rf_n m e, m, rfl, g1, q⟩
    · rw [dec1] at c
      rw [if_neg c] at q
      refine ⟨V.ref a, rfl, a, C, dx, _, _, rfl, ha, R.cl, R.n1, rf_n m e, .inr ⟨m, rfl, g1, _, rfl, ?_, _, rfl, ?_, V.ref a, rfl, a, C, dx, _, _, rfl, ha, R.cl, R.n2, rf_o m e, .inr ⟨e, rfl, g2, _, rfl, ?_, ?_⟩⟩⟩
      · rw [str_nil, sizeLine_eq]
        omega
      · rw [str_nil, len_add, sizeLine_eq, l3]
        omega
      · rw [str_nil, len_add, len_add, sizeLine_eq, l3]
        omega
      · show Q (.str (((Str.empty ++ Str.ofString (toString m)) ++ Str.ofString "/") ++ Str.ofString (toString e))) H
        rw [str_nil]
        exact q
end
end SK
namespace SK
open PySem PySem.Spec PyProof.Rows L2 LamX NdefX
open K0 (De DeAll XCl spX withX)
theorem upd_new {p : Addr} {o : HO} {H : Hp} (n : H p = none) : Same H (upd H p o) := fun c u h => by
  rw [upd_ne (ne_of_none h n)]
  exact h
theorem SameBut.of {p : Addr} {H H' : Hp} (a : Same H H') : SameBut p H H' := fun c o _ h => a c o h
/-! ### the law's own defs -/
def spWhole : Sp := fun vs H Q _ => ∃ (p l : Addr) (ns : List Int) (k lf : Int), vs = [.ref p] ∧ PenAt H p l ns k lf ∧ ns.length ≤ 63 ∧ 0 ≤ k ∧ k ≤ 90000 ∧ 0 ≤ lf ∧
  ∀ (H' : Hp) (k' lf' i : Int), k' ≤ k + 4 → 0 ≤ k' → 0 ≤ lf' → Bd 130 i → SameBut p H H' → PenAt H' p l ns k' lf' → Q (.int i) H'
theorem p30 : (10 : Int) ^ Int.toNat 30 = 1000000000000000000000000000000 := by decide +kernel
theorem p39 : (10 : Int) ^ Int.toNat 39 = 1000000000000000000000000000000000000000 := by decide +kernel
theorem p9 : (10 : Int) ^ Int.toNat 9 = 1000000000 := by decide +kernel
theorem neV {x y : V} {A B : Prop} [inst : Decidable (x = y)] (h : x = y) (k : B) : if (!decide (x = y)) = true then A else B := by
  rw [decide_eq_true h]
  exact iteF k
theorem bd_of {i : Int} {n : Nat} (h : i.natAbs < n) (hn : n ≤ 2 ^ 130) : Bd 130 i := Nat.lt_of_lt_of_le h hn
section
variable {P : Program} {w : World} {K : PySem.W.Frag} {mg : Str → Option Value} {base : Heap} {f fI fA fD fP fN fV C CB tE : Addr} {fd fdI fdA fdD fdP fdN fdV : FuncData}
theorem ok_whole (F : Fun K "_law_whole" "_law_whole" (top 12) f fd) (gD : mg "_law_draw" = some (.ref fD)) (kD : PySem.W.keepIn K (.ref fD) = true) (GD : FnOk P w K mg base CX0 1 fD fdD ["pen", "many"] spDraw) (bD : Binds K fdD ["pen", "many"] [])
    (gP : mg "_law_pick" = some (.ref fP)) (kP : PySem.W.keepIn K (.ref fP) = true) (GP : FnOk P w K mg base CX0 2 fP fdP ["pen", "items"] spPick) (bP : Binds K fdP ["pen", "items"] []) : FnOk P w K mg base CX0 3 f fd ["pen"] spWhole := by
  have S : FnScope ["pen", "small", "great"] ["pen"] (defScope (top 12)) := ⟨rfl, rfl, rfl, by decide +kernel, rfl, by decide +kernel, by decide +kernel⟩
  refine F.ok S (fun vs H Q E h => ?_) (fun cdv A outer s H vs Q E hr h => ?_)
  · obtain ⟨p, l, ns, k, lf, rfl, _⟩ := h
    rfl
  · obtain ⟨p, l, ns, k, lf, rfl, hp, hn, hk0, hk1, hf, kk⟩ := h
    have hr1 : Room 1 _ := hr.mono (by decide)
    refine ⟨_, pss_cons (ps_set (i := 1) S.nd rfl (Or.inl rfl) (pe_op op_sub (pe_call GD hr1 (by rfl) gD kD bD .nil pass0 (pa_cons (pv 0) (pa_cons pe_int pa_nil))) pe_int))
      (pss_cons (ps_set (i := 2) S.nd rfl (Or.inl rfl) (pe_op op_add (pe_op op_mul (pe_call GD hr1 (by rfl) gD kD bD .nil pass0 (pa_cons (pv 0) (pa_cons (pe_op op_pow pe_int pe_int) pa_nil))) (pe_op op_pow pe_int pe_int)) (pe_call GD hr1 (by rfl) gD kD bD .nil pass0 (pa_cons (pv 0) (pa_cons (pe_op op_pow pe_int pe_int) pa_nil)))))
      (pss_one (ps_ret (pe_call GP hr (by rfl) gP kP bP .nil pass0 (pa_cons (pv 0) (pa_cons (pe_lst (pa_cons (pv 1) (pa_cons (pv 1) (pa_cons (pe_op op_mul pe_int (pv 1)) (pa_cons (pv 2) (pa_cons (pe_un un_neg (pv 2)) (pa_cons (pe_op op_pow pe_int pe_int) pa_nil))))))) pa_nil)))))), ?_⟩
    refine ⟨V.ref p, rfl, p, l, ns, k, lf, 13, rfl, hp, hn, hk0, by omega, hf, by decide, by decide, fun H1 k1 lf1 d1 e1 e2 e3 e4 e5 s1 P1 => ⟨d1, 6, rfl, rfl, ?_⟩⟩
    refine ⟨V.ref p, rfl, 10, 9, rfl, rfl, ⟨by decide, by decide, by decide⟩, ?_⟩
    dsimp only
    rw [p9]
    refine ⟨p, l, ns, k1, lf1, 1000000000, rfl, P1, hn, e2, by omega, e3, by decide, by decide, fun H2 k2 lf2 d2 f1 f2 f3 f4 f5 s2 P2 => ?_⟩
    refine ⟨10, 30, rfl, rfl, ⟨by decide, by decide, by decide⟩, ?_⟩
    dsimp only
    rw [p30]
    refine ⟨d2, 1000000000000000000000000000000, rfl, rfl, .inl ⟨by omega, by omega⟩, ?_⟩
    refine ⟨V.ref p, rfl, 10, 9, rfl, rfl, ⟨by decide, by decide, by decide⟩, ?_⟩
    dsimp only
    rw [p9]
    refine ⟨p, l, ns, k2, lf2, 1000000000, rfl, P2, hn, f2, by omega, f3, by decide, by decide, fun H3 k3 lf3 d3 g1 g2 g3 g4 g5 s3 P3 => ?_⟩
    refine ⟨_, d3, rfl, rfl, ?_⟩
    dsimp only
    generalize hg : d2 * 1000000000000000000000000000000 + d3 = gr
    refine ⟨V.ref p, rfl, V.int (d1 - 6), rfl, V.int (d1 - 6), rfl, V.int (d1 - 6), rfl, 12, d1 - 6, rfl, rfl, .inl ⟨by decide, by decide⟩, V.int gr, rfl, V.int gr, rfl, gr, rfl, 10, 39, rfl, rfl, ⟨by decide, by decide, by decide⟩, ?_⟩
    dsimp only
    rw [p39]
    refine ⟨(by show 6 ≤ sizeLine; decide), fun q nq => ?_⟩
    have s4 := upd_new (o := .lst [V.int (d1 - 6), V.int (d1 - 6), V.int (12 * (d1 - 6)), V.int gr, V.int (-gr), V.int 1000000000000000000000000000000000000000]) nq
    have P4 : PenAt (upd H3 q (.lst [V.int (d1 - 6), V.int (d1 - 6), V.int (12 * (d1 - 6)), V.int gr, V.int (-gr), V.int 1000000000000000000000000000000000000000])) p l ns k3 lf3 := ⟨s4 _ _ P3.dc, s4 _ _ P3.ls⟩
    refine ⟨p, l, V.ref q, ns, k3, lf3, _, rfl, P4, hn, g2, by omega, g3, .inl ⟨q, rfl, upd_same⟩, (by show 0 < 6; decide), (by show 6 ≤ 1000; decide), fun H5 k5 lf5 y h1 h2 h3 hy s5 P5 => ?_⟩
    have tot : SameBut p H H5 := ((s1.trans s2).trans s3).trans (SameBut.trans (SameBut.of s4) s5)
    have small : ∀ {i : Int}, i.natAbs < 1000 → Bd 130 i := fun h => bd_of h (by decide)
    have great : gr.natAbs < 2000000000000000000000000000000000000000 := by omega
    simp only [List.mem_cons, List.mem_nil_iff, or_false] at hy
    have hb : ∃ i, y = V.int i ∧ Bd 130 i := by
      rcases hy with rfl | rfl | rfl | rfl | rfl | rfl
      · exact ⟨_, rfl, small (by omega)⟩
      · exact ⟨_, rfl, small (by omega)⟩
      · exact ⟨_, rfl, small (by omega)⟩
      · exact ⟨_, rfl, bd_of (n := 1300000000000000000000000000000000000000) (by omega) (by decide)⟩
      · exact ⟨_, rfl, bd_of (n := 1300000000000000000000000000000000000000) (by omega) (by decide)⟩
      · exact ⟨_, rfl, bd_of (n := 1300000000000000000000000000000000000000) (by decide) (by decide)⟩
    obtain ⟨i, rfl, hi⟩ := hb
    exact kk H5 k5 lf5 i (by omega) h2 h3 hi tot P5
/-! ### the greatest common divisor -/
def spDvs : Sp := fun vs H Q _ => ∃ x y : Nat, vs = [.int (x : Int), .int (y : Int)] ∧ Q (.int ((Nat.gcd x y : Nat) : Int)) H
def second : St → Nat
  | [_, some (.int b)] => b.toNat
  | _ => 0
theorem ok_dvs (F : Fun K "_law_divisor" "_law_divisor" (top 13) f fd) (gI : mg "int" = none) : FnOk P w K mg base CX0 1 f fd ["one", "other"] spDvs := by
  have S : FnScope ["one", "other"] ["one", "other"] (defScope (top 13)) := ⟨rfl, rfl, rfl, by decide +kernel, rfl, by decide +kernel, by decide +kernel⟩
  refine F.ok S (fun vs H Q E h => ?_) (fun cdv A outer s H vs Q E hr h => ?_)
  · obtain ⟨x, y, rfl, _⟩ := h
    rfl
  · obtain ⟨x, y, rfl, q⟩ := h
    refine ⟨_, pss_cons (ps_while PassesOwn.never (pt_cmpR op_ne (pv 1) pe_int (nomark _)) (pss_one (ps_par (i := 0) (j := 1) rfl S.nd rfl rfl (by decide) rfl rfl (pa_cons (pv 1) (pa_cons (pe_op op_mod (pe_callTy call_int1 (by rfl) gI PyProof.Rows.boot_int (pa_cons (pv 0) pa_nil)) (pv 1)) pa_nil)) rfl)))
      (pss_one (ps_ret (pv 0))), ?_⟩
    refine while_by (fun σ G => G = H ∧ ∃ a b : Nat, σ = [some (.int (a : Int)), some (.int (b : Int))] ∧ Nat.gcd a b = Nat.gcd x y) (fun σ _ => second σ) ⟨rfl, x, y, rfl, rfl⟩ ?_ ?_
    · rintro σ G ⟨rfl, a, b, rfl, hg⟩
      refine ⟨V.int b, rfl, rfl, _, rfl, ?_⟩
      refine ite2 (fun c => ?_) (fun c => ?_)
      · have hb : 0 < b := by
          rcases Nat.eq_zero_or_pos b with z | z
          · rw [z] at c
            exact absurd c (by decide)
          · exact z
        refine ⟨V.int b, rfl, V.int a, rfl, .inl ⟨a, rfl, V.int b, rfl, a, b, rfl, rfl, by omega, _, _, rfl, ⟨rfl, b, a % b, ?_, ?_⟩, ?_⟩⟩
        · show [some (V.int b), some (V.int ((a : Int) % (b : Int)))] = [some (V.int b), some (V.int ((a % b : Nat) : Int))]
          rw [Int.natCast_emod]
        · rw [Nat.gcd_comm, ← Nat.gcd_rec, Nat.gcd_comm]
          exact hg
        · show ((a : Int) % (b : Int)).toNat < (b : Int).toNat
          have := Nat.mod_lt a hb
          rw [← Int.natCast_emod, Int.toNat_natCast, Int.toNat_natCast]
          exact this
      · have hb : b = 0 := by
          rcases Nat.eq_zero_or_pos b with z | z
          · exact z
          · refine absurd ?_ c
            have n : V.int (b : Int) ≠ V.int 0 := fun e => by
              have := V.int.inj e
              omega
            rw [decide_eq_false n]
            rfl
        rw [hb, Nat.gcd_zero_right] at hg
        rw [← hg] at q
        exact ⟨V.int a, rfl, q⟩
    · rintro σ G R R' hk ⟨v, e1, e2, k, e3, h⟩
      exact ⟨v, e1, e2, k, e3, hk _ _ h⟩
/-! ### whether a Ratio is a fraction -/
def spIs (C : Addr) : Sp := fun vs H Q _ => ∃ (x : V) (N D n d : Int), vs = [x, .int N, .int D] ∧ Rat C 300 H x n d ∧ Bd 300 N ∧ Bd 300 D ∧ n * D = N * d ∧ Q (.bl true) H
theorem ok_is (F : Fun K "_law_is" "_law_is" (top 14) f fd) (R : RatC K C) (gI : mg "isinstance" = none) (gA : mg "abs" = none) (gC : mg "Ratio" = some (.ref C)) (gV : mg "_law_divisor" = some (.ref fV)) (kV : PySem.W.keepIn K (.ref fV) = true)
    (GV : FnOk P w K mg base CX0 1 fV fdV ["one", "other"] spDvs) (bV : Binds K fdV ["one", "other"] []) : FnOk P w K mg base CX0 2 f fd ["ratio", "number", "over"] (spIs C) := by
  have S : FnScope ["ratio", "number", "over"] ["ratio", "number", "over"] (defScope (top 14)) := ⟨rfl, rfl, rfl, by decide +kernel, rfl, by decide +kernel, by decide +kernel⟩
  refine F.ok S (fun vs H Q E h => ?_) (fun cdv A outer s H vs Q E hr h => ?_)
  · obtain ⟨x, N, D, n, d, rfl, _⟩ := h
    rfl
  · obtain ⟨x, N, D, n, d, rfl, hx, hN, hD, he, q⟩ := h
    obtain ⟨a, dx, m, e, rfl, ha, r, hd, b1, b2, b3, b4⟩ := hx.out
    refine ⟨_, pss_cons (ps_if (pw_or (pt_not (pt_val (pe_callB call_isi (by rfl) gI PyProof.Rows.boot_isinstance (pa_cons (pv 0) (pa_cons (pe_glob (v := V.ref C) (by rfl) gC rfl) pa_nil)))))
        (pw_or (pt_cmpR op_lt (pe_fld (pv 0) rfl) pe_int (nomark _)) (pw_or1 (pt_cmpR op_ne (pe_op op_mulW (pe_fld (pv 0) rfl) (pv 2)) (pe_op op_mulW (pv 1) (pe_fld (pv 0) rfl)) (nomark _))))).pt (pss_one (ps_ret pe_bl)) pss_nil)
      (pss_one (ps_ret (pe_cmpR op_eq (pe_call GV hr (by rfl) gV kV bV .nil pass0 (pa_cons (pe_callB call_abs (by rfl) gA PyProof.Rows.boot_abs (pa_cons (pe_fld (pv 0) rfl) pa_nil)) (pa_cons (pe_fld (pv 0) rfl) pa_nil))) pe_int (nomark _)))), ?_⟩
    refine ⟨V.ref a, rfl, V.ref a, .ref C, .ref C, .ref C, true, rfl, .own C, R.ty ha, R.k1, true, rfl, iteF ?_⟩
    refine ⟨V.ref a, rfl, a, C, dx, _, _, rfl, ha, R.cl, R.n2, rf_o m e, e, 1, rfl, rfl, _, rfl, ite2 (fun c => ?_) fun _ => ?_⟩
    · have := of_decide_eq_true c
      have := r.pos
      omega
    have hq : m * D = N * e := by
      refine cancelR hd ?_
      have a1 := r.eq
      grind
    refine ⟨V.ref a, rfl, a, C, dx, _, _, rfl, ha, R.cl, R.n1, rf_n m e, V.int D, rfl, m, D, rfl, rfl, b3.cm hD (by decide) (by decide) (by decide), V.int N, rfl, V.ref a, rfl, a, C, dx, _, _, rfl, ha, R.cl, R.n2, rf_o m e, N, e, rfl, rfl, hN.cm b4 (by decide) (by decide) (by decide), rfl, _, rfl, ?_⟩
    refine neV (by show V.int (m * D) = V.int (N * e); rw [hq]) ?_
    refine ⟨V.ref a, rfl, a, C, dx, _, _, rfl, ha, R.cl, R.n1, rf_n m e, m, rfl, V.ref a, rfl, a, C, dx, _, _, rfl, ha, R.cl, R.n2, rf_o m e, ?_⟩
    have eo : ((e.natAbs : Nat) : Int) = e := Int.natAbs_of_nonneg (Int.le_of_lt r.pos)
    refine ⟨m.natAbs, e.natAbs, (by rw [absI, eo]; all_goals rfl), rfl, ?_⟩
    rw [r.cop]
    exact q
end
end SK
namespace SK
open PySem PySem.Spec PyProof.Rows L2 LamX NdefX
open K0 (De DeAll XCl spX withX)
section
variable {K : PySem.W.Frag} {a : Addr} {xs : List V} {g : TG} {tt : TT} {te : TE} {vs : List Nat} {σ : St} {H1 : Hp} {D : Addr} {Qd : Hp → Prop}
/-- what is asked of one turn -/
def TurnF (g : TG) (tt : TT) (te : TE) (vs : List Nat) (σ : St) (x y : V) (b : Bool) (H : Hp) : Prop :=
  ∀ (A : V → Hp → Prop) (B : Hp → Prop), (b = true → A y H) → (b = false → B H) → g x (wipe σ vs) H fun σ2 H2 => wipe σ2 vs = wipe σ vs ∧ tt σ2 H2 fun b H3 => if b = true then te σ2 H3 A else B H3
theorem same_new (nD : H1 D = none) {o : HO} : Same H1 (upd H1 D o) := fun c u h => by
  rw [upd_ne (ne_of_none h nD)]
  exact h
theorem same_upd {H : Hp} (nD : H1 D = none) {o : HO} (s : Same H1 H) : Same H1 (upd H D o) := fun c u h => by
  rw [upd_ne (ne_of_none h nD)]
  exact s _ _ h
theorem take_snoc {α : Type} {l : List α} {i : Nat} {x : α} (h : l[i]? = some x) : l.take (i + 1) = l.take i ++ [x] := by
  rw [List.take_add_one, h]
  rfl
theorem filt_snoc {α : Type} {ws : List α} {f : α → V} {c : α → Bool} {i : Nat} {x : α} (h : ws[i]? = some x) : ((ws.take (i + 1)).filter c).map f = ((ws.take i).filter c).map f ++ (if c x = true then [f x] else []) := by
  rw [take_snoc h, List.filter_append, List.map_append]
  by_cases hc : c x = true
  · rw [if_pos hc, List.filter_cons_of_pos hc]
    rfl
  · rw [if_neg hc, List.filter_cons_of_neg hc]
    rfl
theorem filt_len {α : Type} {ws : List α} {f : α → V} {c : α → Bool} {i : Nat} : (((ws.take i).filter c).map f).length ≤ ws.length := by
  rw [List.length_map]
  exact Nat.le_trans (List.length_filter_le _ _) (by rw [List.length_take]; omega)
theorem map_at {α : Type} {enc : α → V} {ws : List α} {i : Nat} {x : V} (h : (ws.map enc)[i]? = some x) : ∃ y, ws[i]? = some y ∧ x = enc y := by
  rw [List.getElem?_map] at h
  cases e : ws[i]? with
  | none =>
    rw [e] at h
    cases h
  | some y =>
    rw [e] at h
    exact ⟨y, rfl, (Option.some.inj h).symm⟩
theorem lcF_list {α : Type} {ws : List α} (enc : α → V) (nD : H1 D = none) (f : α → V) (c : α → Bool) (hS : SqL K H1 a (ws.map enc)) (hz : ws.length < sizeLine) (step : ∀ (i : Nat) (x : α) (H : Hp), ws[i]? = some x → Same H1 H → TurnF g tt te vs σ (enc x) (f x) (c x) H)
    (fin : ∀ H, Same H1 H → H D = some (.lst ((ws.filter c).map f)) → Qd H) :
    ∃ W : Nat → Nat → Hp → Prop, (∃ m, W 0 m (upd H1 D (.lst []))) ∧ ∀ i m H, W i m H →
      ((Itl K a).stop i H ∧ Qd H) ∨ ((Itl K a).go i H ∧ ∃ Nx : Hp → Prop, (∀ H', Nx H' → ∃ m', m' < m ∧ W (i + 1) m' H') ∧ ∀ x H', (Itl K a).yld i H x H' → g x (wipe σ vs) H' fun σ2 H2 => wipe σ2 vs = wipe σ vs ∧ tt σ2 H2 fun b H3 =>
        if b = true then te σ2 H3 fun y H4 => ∃ acc, H4 D = some (.lst acc) ∧ acc.length < sizeLine ∧ Nx (upd H4 D (.lst (acc ++ [y]))) else Nx H3) := by
  refine lc_list (K := K) (a := a) (xs := ws.map enc) (fun i H => Same H1 H ∧ H D = some (.lst (((ws.take i).filter c).map f))) ⟨same_new nD, upd_same⟩ (fun i H _ p => Same.seq p.1 hS) (fun i x H hx p => ?_) fun H p => fin H p.1 (by rw [List.length_map, List.take_length] at p; exact p.2)
  obtain ⟨s, hD⟩ := p
  obtain ⟨y, hy, rfl⟩ := map_at hx
  refine step i y H hy s _ _ (fun hc => ⟨_, hD, Nat.lt_of_le_of_lt filt_len hz, same_upd nD s, ?_⟩) fun hc => ⟨s, ?_⟩
  · rw [filt_snoc hy, if_pos hc]
    exact upd_same
  · rw [filt_snoc hy, if_neg (by rw [hc]; simp), List.append_nil]
    exact hD
end
/-! ### defs whose code object is known -/
theorem FunT.okG {P : Program} {w : World} {K : PySem.W.Frag} {mg : Str → Option Value} {base : Heap} {x qual : Str} {st : Stmt} {f c : Addr} {fd : FuncData} {N ps : List Str} {k : Nat} {sp : Sp} (F : FunT K x qual st f fd c) (S : FnScope N ps (defScope st)) (len : ∀ vs H Q E, sp vs H Q E → vs.length = ps.length)
    (hbody : ∀ (A : Around) (outer : List Env) (s : Shared) (H : Hp) (vs : List V) (Q : VK) (E : XK), (A.deeper (envOfC qual (defScope st) s.heap.objs.size f (.ref c))).guards = some [] → Room k (A.deeper (envOfC qual (defScope st) s.heap.objs.size f (.ref c))) → sp vs H Q E →
      ∃ t, PSs (cxOf CX0 P w K mg base N qual (defScope st) f (.ref c) A outer s H E).nox (defBody st) t ∧ t { nx := fun _ H' => Q .non H', rt := Q } (start N vs) H) : FnG P w K mg base CX0 (k + 1) f fd ps sp := by
  obtain ⟨oc, od, kV, doc, pm, an, ct, osl, rfl, lk, hcd⟩ := F.ex
  refine ⟨len, fun A outer s H args us vs Q E hg hr e0 hb r hsp => run_ofS lk hcd S hr e0 hb r (len _ _ _ _ hsp) fun hr' => ?_⟩
  obtain ⟨t, h, q⟩ := hbody A outer s H vs Q E hg hr' hsp
  exact ⟨t, h.nox, q⟩
theorem FunT.bindsT {K : PySem.W.Frag} {x qual : Str} {st : Stmt} {f c : Addr} {fd : FuncData} {ps : List Str} (F : FunT K x qual st f fd c)
    (h : ∀ (kV doc pm : Value) (an : Option Addr) (cdv ct : Value) (us : List Value), us.length = ps.length → bindArgs (PySem.W.fnOf x qual (defArgs st) (defBody st) (defScope st) .none kV doc pm an cdv ct) ⟨us, []⟩ = pure (ps.zip us)) : Binds K fd ps [] := by
  obtain ⟨oc, od, kV, doc, pm, an, ct, osl, e, lk, hcd⟩ := F.ex
  exact Fun.binds (f := f) ⟨⟨oc, od, kV, doc, pm, an, .ref c, ct, osl, e, lk, hcd⟩, F.kp⟩ h
theorem Tabs.pen {T : List (Addr × Str)} {H H' : Hp} {p : Addr} {kvs : List (Key × V)} (t : Tabs T H) (hp : H p = some (.dK kvs)) (e : SameBut p H H') : Tabs T H' := fun q hq => by
  obtain ⟨ps, h1, h2, h3⟩ := t q hq
  refine ⟨ps, e _ _ (fun z => by rw [z, hp] at h1; cases h1) h1, h2, fun pos cv hc => ?_⟩
  obtain ⟨c, e1, e2⟩ := h3 pos cv hc
  refine ⟨c, e1, e _ _ (fun z => ?_) e2⟩
  rw [z, hp] at e2
  unfold CodeO at e2
  cases e2
/-- what is raised comes with as many slots as there are names -/
theorem takes_len {X : Cx} {W : WX} (tk : Takes X W) : Takes X (fun cls d σ H => σ.length = X.N.length → W cls d σ H) := fun e s x => by
  obtain ⟨a, B, sI, pins, σ', H', cls, d, e1, I, nb, up, sky, na, os, ag, w⟩ := x
  exact tk e s ⟨a, B, sI, pins, σ', H', cls, d, e1, I, nb, up, sky, na, os, ag, w I.len⟩
/-! ### how a call is met -/
def TTmet (C : Addr) : (XK → Hp → VK → Prop) → Hp → VK → Prop := fun tl H Q => tl (fun cls d H' => cls = .ref C ∧ d = none ∧ Q (.bl true) H') H (fun _ H' => Q .non H')
/-- isinstance(e, c), e the exception that the suite holds, without fields -/
def rIsN0 (K : PySem.W.Frag) (a : Addr) (cls : Value) (d : Option Addr) : List V → Hp → VK → Prop := fun xs H Q => ∃ D : Addr, cls = .ref D ∧ d = none ∧ ExcC K D ∧ rIsE K D a xs H Q
theorem call_isN0 {X : Cx} {a : Addr} {cls : Value} {d : Option Addr} {oe : Obj} {pn : List (Addr × Obj)} (hz : Zc cls d oe) (hf : ∃ vs, oe.data = .fields vs) : CallR (X.suite a ((a, oe) :: pn)) (.builtin "isinstance") (rIsN0 X.K a cls d) := by
  intro pins s σ H xs us Q I r h
  obtain ⟨D, rfl, rfl, C, h⟩ := h
  exact call_isE C hz hf pins s σ H xs us Q I r h
theorem scMet : FnScope ["call", "e"] ["call"] (defScope (top 11)) := ⟨rfl, rfl, rfl, by decide +kernel, rfl, by decide +kernel, by decide +kernel⟩
theorem met_gives {X : Cx} {g C tE : Addr} {cdg : Value} {q : Str} (gC : X.mg "BadOver" = some (.ref C)) (EC : ExcC X.K C) (gTE : X.mg "TreesError" = some (.ref tE)) (kit : PySem.W.kitOne X.K (.ref C) (.ref tE) = some true)
    (exm : PySem.W.exmOne X.K (.ref C) (.ref C) = some true) (gI : X.mg "isinstance" = none) : GivesTo X ["call", "e"] "_law_met" (defScope (top 11)) g cdg (defBody (top 11)) "call" q (TTmet C) := by
  intro f c' s H Q tl act hc h
  refine ⟨_, pss_cons (ps_try_asM (X := (cxOf C8.CX0 X.prog X.w X.K X.mg X.base ["call", "e"] "_law_met" (defScope (top 11)) g cdg X.A X.stack s H C8.E0).nox) (i := 1) (n := "e")
      (tb := fun W D σ H => ∃ Ech : XK, (∀ cls d σ' H', Ech cls d H' → σ'.length = 2 → W cls d σ' H') ∧ σ[0]? = some (some (.ref f)) ∧ H c' = some (CodeO c' q) ∧ tl Ech H fun _ H' => D.nx σ H')
      rfl rfl scMet.nd rfl rfl LamX.takes0 (fun W pn xe tk _ => ?_)
      (HdsAs.cons (c := .ref C) ⟨rfl, by decide, .inl gC⟩ (fun a oe cls d pn hz hf => pss_one (ps_ret
        (pe_callB (r := rIsN0 X.K a cls d) (call_isN0 hz hf) (by rfl) gI PyProof.Rows.boot_isinstance (pa_cons (pv 1) (pa_cons (pe_glob (v := V.ref tE) (by rfl) gTE rfl) pa_nil))))) HdsAs.nil))
    (pss_one (ps_ret pe_non)), ?_⟩
  · refine ⟨fun pins s' σ H' D I h' => ?_⟩
    obtain ⟨Ech, hW, h1, h2, h3⟩ := h'
    exact (pss_one (ps_expr (act _ pn xe Ech _ _ (takes_len tk) hW))).run pins s' σ H' D I ⟨h1, h2, h3⟩
  · refine ⟨_, ?_, rfl, hc, h⟩
    rintro cls d σ' H' ⟨rfl, rfl, kk⟩ hl
    have at1 : ∀ z : Addr, (List.set σ' 1 (some (V.ref z)))[1]? = some (some (V.ref z)) := fun z => by
      rw [List.getElem?_set_self]
      omega
    refine ⟨true, exm, fun _ q nq => ?_, fun z => nomatch z⟩
    exact ⟨V.ref q, at1 q, C, rfl, rfl, EC, .ref tE, .ref tE, true, rfl, fun u z => z, kit, kk⟩
end SK
namespace SK
open PySem PySem.Spec PyProof.Rows L2 LamX NdefX
open K0 (De DeAll XCl spX withX)
/-! ### sums -/
def spSums (C : Addr) : Sp := fun vs H Q _ => ∃ (x y : V) (a b c d : Int), vs = [x, y, .int a, .int b, .int c, .int d] ∧ Rat C 130 H x a b ∧ Rat C 130 H y c d ∧ Bd 130 a ∧ Bd 130 b ∧ Bd 130 c ∧ Bd 130 d ∧ ∀ H', Same H H' → Q (.bl true) H'
abbrev N6 : List Str := ["one", "other", "a", "b", "c", "d"]
section
variable {P : Program} {w : World} {K : PySem.W.Frag} {mg : Str → Option Value} {base : Heap} {f fS fAd fSu fMu fNe fAb fRa fRs fRm C : Addr} {fd fdS fdAd fdSu fdMu fdNe fdAb fdRa fdRs fdRm : FuncData}
theorem ok_sums (F : Fun K "_law_sums" "_law_sums" (top 15) f fd) (R : RatC K C) (gA : mg "abs" = none) (gS : mg "_law_is" = some (.ref fS)) (kS : PySem.W.keepIn K (.ref fS) = true) (GS : FnOk P w K mg base CX0 2 fS fdS ["ratio", "number", "over"] (spIs C)) (bS : Binds K fdS ["ratio", "number", "over"] [])
    (Mad : Has K C (PySem.dunder Operator.Add.info.2) fAd) (GAd : FnOk P w K mg base (L2.CX P w) 4 fAd fdAd SO (spOp C nAdd dMul)) (bAd : Binds K fdAd SO [])
    (Msu : Has K C (PySem.dunder Operator.Sub.info.2) fSu) (GSu : FnOk P w K mg base (L2.CX P w) 4 fSu fdSu SO (spOp C nSub dMul)) (bSu : Binds K fdSu SO [])
    (Mmu : Has K C (PySem.dunder Operator.Mult.info.2) fMu) (GMu : FnOk P w K mg base (L2.CX P w) 4 fMu fdMu SO (spOp C nMul dMul)) (bMu : Binds K fdMu SO [])
    (Mne : Has K C "__neg__" fNe) (GNe : FnOk P w K mg base (L2.CX P w) 3 fNe fdNe ["self"] (spNeg C)) (bNe : Binds K fdNe ["self"] [])
    (Mab : Has K C "__abs__" fAb) (GAb : FnOk P w K mg base (L2.CX P w) 3 fAb fdAb ["self"] (spAbs C)) (bAb : Binds K fdAb ["self"] [])
    (Mra : Has K C (dunderR Operator.Add.info.2) fRa) (GRa : FnOk P w K mg base (L2.CX P w) 5 fRa fdRa SO (spOpI C nAdd dMul)) (bRa : Binds K fdRa SO [])
    (Mrs : Has K C (dunderR Operator.Sub.info.2) fRs) (GRs : FnOk P w K mg base (L2.CX P w) 5 fRs fdRs SO (spOpI C nRsb dMul)) (bRs : Binds K fdRs SO [])
    (Mrm : Has K C (dunderR Operator.Mult.info.2) fRm) (GRm : FnOk P w K mg base (L2.CX P w) 5 fRm fdRm SO (spOpI C nMul dMul)) (bRm : Binds K fdRm SO []) :
    FnOk P w K mg base CX0 6 f fd N6 (spSums C) := by
  have S : FnScope N6 N6 (defScope (top 15)) := ⟨rfl, rfl, rfl, by decide +kernel, rfl, by decide +kernel, by decide +kernel⟩
  refine F.ok S (fun vs H Q E h => ?_) (fun cdv A outer s H vs Q E hr h => ?_)
  · obtain ⟨x, y, a, b, c, d, rfl, _⟩ := h
    rfl
  · obtain ⟨x, y, a, b, c, d, rfl, hx, hy, ha, hb, hc, hd, kk⟩ := h
    have hr4 : Room 4 _ := hr.mono (by decide)
    have hr3 : Room 3 _ := hr.mono (by decide)
    have hr2 : Room 2 _ := hr.mono (by decide)
    have ps0 : Passes (L2.CX P w) (cxOf CX0 P w K mg base N6 "_law_sums" (defScope (top 15)) f cdv A outer s H E).nox (fun _ _ _ => False) := passes_call LamX.takes0 (fun _ _ _ _ h => h)
    refine ⟨_, pss_cons (ps_if (pt_not (pt_val (pe_call GS hr2 (by rfl) gS kS bS .nil pass0 (pa_cons (pe_op (op_ownRR (op := .Add) R.own Mad GAd hr4 bAd ps0) (pv 0) (pv 1)) (pa_cons (pe_op op_add (pe_op op_mulW (pv 2) (pv 5)) (pe_op op_mulW (pv 4) (pv 3))) (pa_cons (pe_op op_mulW (pv 3) (pv 5)) pa_nil)))))) (pss_one (ps_ret pe_bl)) pss_nil)
      (pss_cons (ps_if (pt_not (pt_val (pe_call GS hr2 (by rfl) gS kS bS .nil pass0 (pa_cons (pe_op (op_ownRR (op := .Sub) R.own Msu GSu hr4 bSu ps0) (pv 0) (pv 1)) (pa_cons (pe_op op_sub (pe_op op_mulW (pv 2) (pv 5)) (pe_op op_mulW (pv 4) (pv 3))) (pa_cons (pe_op op_mulW (pv 3) (pv 5)) pa_nil)))))) (pss_one (ps_ret pe_bl)) pss_nil)
      (pss_cons (ps_if (pw_or (pt_not (pt_val (pe_call GS hr2 (by rfl) gS kS bS .nil pass0 (pa_cons (pe_op (op_ownRR (op := .Mult) R.own Mmu GMu hr4 bMu ps0) (pv 0) (pv 1)) (pa_cons (pe_op op_mulW (pv 2) (pv 4)) (pa_cons (pe_op op_mulW (pv 3) (pv 5)) pa_nil)))))) (pw_or1 (pt_not (pt_val (pe_call GS hr2 (by rfl) gS kS bS .nil pass0 (pa_cons (pe_un (un_own Mne GNe hr3 bNe ps0) (pv 0)) (pa_cons (pe_un un_neg (pv 2)) (pa_cons (pv 3) pa_nil)))))))).pt (pss_one (ps_ret pe_bl)) pss_nil)
      (pss_cons (ps_if (pw_or (pt_not (pt_val (pe_call GS hr2 (by rfl) gS kS bS .nil pass0 (pa_cons (pe_op (op_ownRI (op := .Add) R.own Mad Mra PySem.F.fills_int_add PySem.F.slot_int_radd.lookup GAd hr4 bAd ps0) (pv 0) (pv 4)) (pa_cons (pe_op op_add (pv 2) (pe_op op_mulW (pv 4) (pv 3))) (pa_cons (pv 3) pa_nil)))))) (pw_or1 (pt_not (pt_val (pe_call GS hr2 (by rfl) gS kS bS .nil pass0 (pa_cons (pe_op (op_ownIR (op := .Add) R.own Mad Mra PySem.F.fills_int_add PySem.F.slot_int_add dec_add GRa hr bRa ps0) (pv 4) (pv 0)) (pa_cons (pe_op op_add (pv 2) (pe_op op_mulW (pv 4) (pv 3))) (pa_cons (pv 3) pa_nil)))))))).pt (pss_one (ps_ret pe_bl)) pss_nil)
      (pss_cons (ps_if (pw_or (pt_not (pt_val (pe_call GS hr2 (by rfl) gS kS bS .nil pass0 (pa_cons (pe_op (op_ownRI (op := .Sub) R.own Msu Mrs PySem.F.fills_int_sub PySem.F.slot_int_rsub.lookup GSu hr4 bSu ps0) (pv 0) (pv 4)) (pa_cons (pe_op op_sub (pv 2) (pe_op op_mulW (pv 4) (pv 3))) (pa_cons (pv 3) pa_nil)))))) (pw_or1 (pt_not (pt_val (pe_call GS hr2 (by rfl) gS kS bS .nil pass0 (pa_cons (pe_op (op_ownIR (op := .Sub) R.own Msu Mrs PySem.F.fills_int_sub PySem.F.slot_int_sub dec_sub GRs hr bRs ps0) (pv 4) (pv 0)) (pa_cons (pe_op op_sub (pe_op op_mulW (pv 4) (pv 3)) (pv 2)) (pa_cons (pv 3) pa_nil)))))))).pt (pss_one (ps_ret pe_bl)) pss_nil)
      (pss_cons (ps_if (pw_or (pt_not (pt_val (pe_call GS hr2 (by rfl) gS kS bS .nil pass0 (pa_cons (pe_op (op_ownRI (op := .Mult) R.own Mmu Mrm PySem.F.fills_int_mul PySem.F.slot_int_rmul.lookup GMu hr4 bMu ps0) (pv 0) (pv 4)) (pa_cons (pe_op op_mulW (pv 2) (pv 4)) (pa_cons (pv 3) pa_nil)))))) (pw_or1 (pt_not (pt_val (pe_call GS hr2 (by rfl) gS kS bS .nil pass0 (pa_cons (pe_op (op_ownIR (op := .Mult) R.own Mmu Mrm PySem.F.fills_int_mul PySem.F.slot_int_mul dec_mul GRm hr bRm ps0) (pv 4) (pv 0)) (pa_cons (pe_op op_mulW (pv 2) (pv 4)) (pa_cons (pv 3) pa_nil)))))))).pt (pss_one (ps_ret pe_bl)) pss_nil)
      (pss_one (ps_ret (pe_call GS hr2 (by rfl) gS kS bS .nil pass0 (pa_cons (pe_callB (call_absO Mab GAb hr4 bAb ps0) (by rfl) gA PyProof.Rows.boot_abs (pa_cons (pv 0) pa_nil)) (pa_cons (pe_callB call_abs (by rfl) gA PyProof.Rows.boot_abs (pa_cons (pv 2) pa_nil)) (pa_cons (pe_callB call_abs (by rfl) gA PyProof.Rows.boot_abs (pa_cons (pv 3) pa_nil)) pa_nil))))))))))), ?_⟩
    have hab : b ≠ 0 := by
      obtain ⟨_, _, _, _, _, _, _, z, _⟩ := hx
      exact z
    have kp : ∀ {H'}, Same H H' → Rat C 130 H' x a b ∧ Rat C 130 H' y c d := fun s => ⟨hx.same s, hy.same s⟩
    have u4 : ∀ {H' x n d}, Rat C 130 H' x n d → Rat C 140 H' x n d := fun h => h.mono (by decide)
    have m300 : ∀ {j i}, Bd j i → j ≤ 300 → Bd 300 i := fun h k => h.mono k
    -- 0
    have hX := hx
    have hY := hy
    have s0 := Same.refl H
    refine ⟨x, rfl, y, rfl, hX.ins, hY.ins, x, y, a, b, c, d, rfl, u4 hX, .inl (u4 hY), fun H1 z s hz => ⟨V.int a, rfl, V.int d, rfl, a, d, rfl, rfl, ha.cm hd (by decide) (by decide) (by decide), V.int c, rfl, V.int b, rfl, c, b, rfl, rfl, hc.cm hb (by decide) (by decide) (by decide), a * d, c * b, rfl, rfl, V.int b, rfl, V.int d, rfl, b, d, rfl, rfl, hb.cm hd (by decide) (by decide) (by decide), z, _, _, _, _, rfl, hz, ((ha.mul hd).add (hc.mul hb)).mono (by decide), (hb.mul hd).mono (by decide), rfl, true, rfl, iteF ?_⟩⟩
    have s0 := s0.trans s
    obtain ⟨hX, hY⟩ := kp s0
    clear s hz
    -- 1
    refine ⟨x, rfl, y, rfl, hX.ins, hY.ins, x, y, a, b, c, d, rfl, u4 hX, .inl (u4 hY), fun H2 z s hz => ⟨V.int a, rfl, V.int d, rfl, a, d, rfl, rfl, ha.cm hd (by decide) (by decide) (by decide), V.int c, rfl, V.int b, rfl, c, b, rfl, rfl, hc.cm hb (by decide) (by decide) (by decide), a * d, c * b, rfl, rfl, V.int b, rfl, V.int d, rfl, b, d, rfl, rfl, hb.cm hd (by decide) (by decide) (by decide), z, _, _, _, _, rfl, hz, ((ha.mul hd).sub (hc.mul hb)).mono (by decide), (hb.mul hd).mono (by decide), rfl, true, rfl, iteF ?_⟩⟩
    have s0 := s0.trans s
    obtain ⟨hX, hY⟩ := kp s0
    clear s hz
    -- 2
    refine ⟨x, rfl, y, rfl, hX.ins, hY.ins, x, y, a, b, c, d, rfl, u4 hX, .inl (u4 hY), fun H3 z s hz => ⟨V.int a, rfl, V.int c, rfl, a, c, rfl, rfl, ha.cm hc (by decide) (by decide) (by decide), V.int b, rfl, V.int d, rfl, b, d, rfl, rfl, hb.cm hd (by decide) (by decide) (by decide), z, _, _, _, _, rfl, hz, (ha.mul hc).mono (by decide), (hb.mul hd).mono (by decide), rfl, true, rfl, iteF ?_⟩⟩
    have s0 := s0.trans s
    obtain ⟨hX, hY⟩ := kp s0
    clear s hz
    -- 3
    refine ⟨x, rfl, hX.ins, x, a, b, 130, rfl, by decide, hX, fun H4 z s hz => ⟨V.int a, rfl, a, rfl, V.int b, rfl, z, _, _, _, _, rfl, hz.mono (by decide), ha.neg.mono (by decide), hb.mono (by decide), rfl, true, rfl, iteF ?_⟩⟩
    have s0 := s0.trans s
    obtain ⟨hX, hY⟩ := kp s0
    clear s hz
    -- 4
    refine ⟨x, rfl, V.int c, rfl, hX.ins, ⟨c, rfl⟩, x, .int c, a, b, c, 1, rfl, u4 hX, .inr ⟨rfl, rfl, hc.mono (by decide)⟩, fun H5 z s hz => ⟨V.int a, rfl, V.int c, rfl, V.int b, rfl, c, b, rfl, rfl, hc.cm hb (by decide) (by decide) (by decide), a, c * b, rfl, rfl, V.int b, rfl, z, _, _, _, _, rfl, hz, ((ha.mono (by decide)).add (hc.mul hb)).mono (by decide), hb.mono (by decide), (show (a * 1 + c * b) * b = (a + c * b) * (b * 1) by grind), true, rfl, iteF ?_⟩⟩
    have s0 := s0.trans s
    obtain ⟨hX, hY⟩ := kp s0
    clear s hz
    -- 5
    refine ⟨V.int c, rfl, x, rfl, ⟨c, rfl⟩, hX.ins, x, a, b, c, rfl, u4 hX, hc.mono (by decide), fun H6 z s hz => ⟨V.int a, rfl, V.int c, rfl, V.int b, rfl, c, b, rfl, rfl, hc.cm hb (by decide) (by decide) (by decide), a, c * b, rfl, rfl, V.int b, rfl, z, _, _, _, _, rfl, hz, ((ha.mono (by decide)).add (hc.mul hb)).mono (by decide), hb.mono (by decide), (show (a * 1 + c * b) * b = (a + c * b) * (b * 1) by grind), true, rfl, iteF ?_⟩⟩
    have s0 := s0.trans s
    obtain ⟨hX, hY⟩ := kp s0
    clear s hz
    -- 6
    refine ⟨x, rfl, V.int c, rfl, hX.ins, ⟨c, rfl⟩, x, .int c, a, b, c, 1, rfl, u4 hX, .inr ⟨rfl, rfl, hc.mono (by decide)⟩, fun H7 z s hz => ⟨V.int a, rfl, V.int c, rfl, V.int b, rfl, c, b, rfl, rfl, hc.cm hb (by decide) (by decide) (by decide), a, c * b, rfl, rfl, V.int b, rfl, z, _, _, _, _, rfl, hz, ((ha.mono (by decide)).sub (hc.mul hb)).mono (by decide), hb.mono (by decide), (show (a * 1 - c * b) * b = (a - c * b) * (b * 1) by grind), true, rfl, iteF ?_⟩⟩
    have s0 := s0.trans s
    obtain ⟨hX, hY⟩ := kp s0
    clear s hz
    -- 7
    refine ⟨V.int c, rfl, x, rfl, ⟨c, rfl⟩, hX.ins, x, a, b, c, rfl, u4 hX, hc.mono (by decide), fun H8 z s hz => ⟨V.int c, rfl, V.int b, rfl, c, b, rfl, rfl, hc.cm hb (by decide) (by decide) (by decide), V.int a, rfl, c * b, a, rfl, rfl, V.int b, rfl, z, _, _, _, _, rfl, hz, ((hc.mul hb).sub (ha.mono (by decide))).mono (by decide), hb.mono (by decide), (show (-a * 1 + c * b) * b = (c * b - a) * (b * 1) by grind), true, rfl, iteF ?_⟩⟩
    have s0 := s0.trans s
    obtain ⟨hX, hY⟩ := kp s0
    clear s hz
    -- 8
    refine ⟨x, rfl, V.int c, rfl, hX.ins, ⟨c, rfl⟩, x, .int c, a, b, c, 1, rfl, u4 hX, .inr ⟨rfl, rfl, hc.mono (by decide)⟩, fun H9 z s hz => ⟨V.int a, rfl, V.int c, rfl, a, c, rfl, rfl, ha.cm hc (by decide) (by decide) (by decide), V.int b, rfl, z, _, _, _, _, rfl, hz, (ha.mul hc).mono (by decide), hb.mono (by decide), (show (a * c) * b = (a * c) * (b * 1) by grind), true, rfl, iteF ?_⟩⟩
    have s0 := s0.trans s
    obtain ⟨hX, hY⟩ := kp s0
    clear s hz
    -- 9
    refine ⟨V.int c, rfl, x, rfl, ⟨c, rfl⟩, hX.ins, x, a, b, c, rfl, u4 hX, hc.mono (by decide), fun H10 z s hz => ⟨V.int a, rfl, V.int c, rfl, a, c, rfl, rfl, ha.cm hc (by decide) (by decide) (by decide), V.int b, rfl, z, _, _, _, _, rfl, hz, (ha.mul hc).mono (by decide), hb.mono (by decide), (show (a * c) * b = (a * c) * (b * 1) by grind), true, rfl, iteF ?_⟩⟩
    have s0 := s0.trans s
    obtain ⟨hX, hY⟩ := kp s0
    clear s hz
    -- 10
    refine ⟨x, rfl, x, rfl, hX.ins, x, a, b, 130, rfl, by decide, hX, fun H11 z s hz => ⟨V.int a, rfl, a, rfl, V.int b, rfl, b, rfl, z, _, _, _, _, rfl, hz.mono (by decide), ha.abs.mono (by decide), hb.abs.mono (by decide), ?_, kk H11 (s0.trans s)⟩⟩
    rw [absI, absI]
end
end SK
namespace SK
open PySem PySem.Spec PyProof.Rows L2 LamX NdefX
open K0 (De DeAll XCl spX withX)
/-! ### comparisons and quotients -/
theorem neT {p : Prop} {A B : Prop} [inst : Decidable p] (h : p) (k : B) : if (!decide p) = true then A else B := by
  rw [decide_eq_true h]
  exact iteF k
theorem if_sign {c : Bool} {σ : L2.St} {H : Hp} {Q : VK} {sg : Int} (h1 : c = true → sg = 1) (h2 : c = false → sg = -1) (q : Q (.int sg) H) : if c = true then tC (.int 1) σ H Q else tUn (rU fun i => .int (-i)) (tC (.int 1)) σ H Q := by
  cases c with
  | true =>
    rw [if_pos rfl]
    rw [h1 rfl] at q
    exact q
  | false =>
    rw [if_neg Bool.false_ne_true]
    rw [h2 rfl] at q
    exact ⟨1, rfl, q⟩
/-- as mk_rat, the end told by its place -/
theorem mk_ratR {C CB : Addr} {k : Nat} {H1 : Hp} {R : Addr → VK} {E : XK} {N D n d : Int} (hn : Bd 600 N) (hd : Bd 600 D) (hD : D ≠ 0) (q : N * d = n * D) (hd0 : d ≠ 0) (b1 : Bd k n) (b2 : Bd k d) (kk : ∀ (H' : Hp) (x : Addr), Same H1 H' → Rat C k H' (.ref x) n d → R x .non H') :
    ∀ x dx, H1 x = none → H1 dx = none → dx ≠ x → spInit C CB [.ref x, .int N, .int D] (upd (upd H1 dx (.own x)) x (.ins C dx [])) (R x) E := by
  intro x dx nx nd ne
  refine ⟨x, dx, N, D, rfl, upd_same, hn, hd, fun z => absurd z hD, fun _ H' m e r s hx => kk H' x (fun b o hb => ?_) ⟨x, dx, m, e, rfl, hx, r.congr hD q, hd0, b1, b2⟩⟩
  have n1 : b ≠ x := ne_of_none hb nx
  have n2 : b ≠ dx := ne_of_none hb nd
  exact s b o n1 (by rw [upd_ne n1, upd_ne n2]; exact hb)
theorem rf_l (m e : Int) : (rf m e).lookup ("is_less" : Str) = none := by kernel_rfl
theorem rf_d (m e : Int) : (rf m e).lookup ("divided" : Str) = none := by kernel_rfl
theorem bshow (t : Bool) : (PyData.bool t).showable = true ∧ (PyData.bool t).depth ≤ 8 ∧ (PyData.bool t).shown.length ≤ sizeLine := by
  cases t <;> exact ⟨by decide +kernel, by decide +kernel, by decide +kernel⟩
theorem Rat.extN {C : Addr} {k : Nat} {H H' : Hp} {x : V} {n d : Int} (h : Rat C k H x n d) (s : ExtN H H') : Rat C k H' x n d := by
  obtain ⟨a, dx, m, e, h1, h2, h3, h4, h5, h6⟩ := h
  exact ⟨a, dx, m, e, h1, s _ _ h2 (fun ps z => nomatch z), h3, h4, h5, h6⟩
theorem less1 (a b c : Int) {sg : Int} (h : (if 0 < b then (1 : Int) else -1) = sg) : lessB a b c 1 = decide (a * sg < c * b * sg) := by
  unfold lessB
  rw [Int.mul_one, Int.mul_one, h]
theorem less0 (a b : Int) : lessB a b a b = false := by
  unfold lessB
  exact decide_eq_false (Int.lt_irrefl _)
theorem decI (i j : Int) : decide (i = j) = decide (V.int i = V.int j) := by
  rw [decide_eq_decide]
  exact ⟨fun h => by rw [h], V.int.inj⟩
theorem bd_sign {p : Prop} [Decidable p] {sg : Int} (h : (if p then (1 : Int) else -1) = sg) : Bd 1 sg := by
  rw [← h]
  split
  · show (1 : Int).natAbs < 2 ^ 1
    decide
  · show (-1 : Int).natAbs < 2 ^ 1
    decide
abbrev N7 : List Str := ["one", "other", "a", "b", "c", "d", "sign"]
def spOrders (C : Addr) (T : List (Addr × Str)) : Sp := fun vs H Q _ => ∃ (x y : V) (a b c d : Int), vs = [x, y, .int a, .int b, .int c, .int d] ∧ Rat C 130 H x a b ∧ Rat C 130 H y c d ∧ Bd 130 a ∧ Bd 130 b ∧ Bd 130 c ∧ Bd 130 d ∧ Tabs T H ∧ ∀ H', ExtN H H' → Tabs T H' → Q (.bl true) H'
section
variable {P : Program} {w : World} {K : PySem.W.Frag} {mg : Str → Option Value} {base : Heap} {f c0 Pt fS fI fL fE fM fDi C CB tE : Addr} {fd fdS fdI fdL fdE fdM fdDi : FuncData} {T : List (Addr × Str)} {ds : List Value}
theorem ok_orders (F : FunT K "_law_orders" "_law_orders" (top 16) f fd c0) (TB : TabB base mg c0 Pt) (hmT : (Pt, ("_law_orders" : Str) ++ ".<locals>." ++ "<lambda>") ∈ T) (hu : ∀ p ∈ T, p.1 = Pt → p.2 = ("_law_orders" : Str) ++ ".<locals>." ++ "<lambda>")
    (R : RatC K C) (gRp : mg "repr" = none) (gIs : mg "isinstance" = none) (hsys : ∃ o, K.lookup sysModules = some o)
    (gB : mg "BadOver" = some (.ref CB)) (EC : ExcC K CB) (gTE : mg "TreesError" = some (.ref tE)) (kit : PySem.W.kitOne K (.ref CB) (.ref tE) = some true) (exm : PySem.W.exmOne K (.ref CB) (.ref CB) = some true)
    (gM : mg "_law_met" = some (.ref fM)) (FM : Fun K "_law_met" "_law_met" (top 11) fM fdM) (bM : Binds K fdM ["call"] [])
    (gS : mg "_law_is" = some (.ref fS)) (kS : PySem.W.keepIn K (.ref fS) = true) (GS : FnOk P w K mg base CX0 2 fS fdS ["ratio", "number", "over"] (spIs C)) (bS : Binds K fdS ["ratio", "number", "over"] [])
    (gC : mg "Ratio" = some (.ref C)) (M : Mk K C fI) (GI : FnOk P w K mg base (L2.CX P w) 1 fI fdI IP (spInit C CB)) (bD : Binds K fdI IP ds) (vD : Vals [V.int 1] ds)
    (Mle : Meth K C "is_less" fL) (GL : FnOk P w K mg base (L2.CX P w) 4 fL fdL SO (spLess C)) (bL : Binds K fdL SO [])
    (Mdi : Meth K C "divided" fDi) (GDi : FnOk P w K mg base (L2.CX P w) 4 fDi fdDi SO (spDiv C CB)) (bDi : Binds K fdDi SO [])
    (Meq : Has K C "__eq__" fE) (GE : FnOk P w K mg base (L2.CX P w) 1 fE fdE SO (spEq K C)) (bE : Binds K fdE SO []) :
    FnG P w K mg base CX0 7 f fd N6 (spOrders C T) := by
  have S : FnScope N7 N6 (defScope (top 16)) := ⟨rfl, rfl, rfl, by decide +kernel, rfl, by decide +kernel, by decide +kernel⟩
  obtain ⟨ocM, odM, kVM, docM, pmM, anM, cdvM, ctM, oslM, rfl, lkM, hcdM⟩ := FM.ex
  refine FunT.okG F S (fun vs H Q E h => ?_) (fun A outer s H vs Q E hg hr h => ?_)
  · obtain ⟨x, y, a, b, c, d, rfl, _⟩ := h
    rfl
  · obtain ⟨x, y, a, b, c, d, rfl, hX, hY, ha, hb, hc, hd, hT, kk⟩ := h
    have hu64 := hr.units
    have hr4 : Room 4 _ := hr.mono (by decide)
    have hr2 : Room 2 _ := hr.mono (by decide)
    have hr1 : Room 1 _ := hr.mono (by decide)
    have ps0 : Passes (L2.CX P w) (cxOf CX0 P w K mg base N7 "_law_orders" (defScope (top 16)) f (.ref c0) A outer s H E).nox (fun _ _ _ => False) := passes_call LamX.takes0 (fun _ _ _ _ h => h)
    refine ⟨_, pss_cons (ps_set (i := 6) S.nd rfl (Or.inl rfl) (pe_ifExp (pt_cmpR op_gt (pe_op op_mulW (pv 3) (pv 5)) pe_int (nomark _)) pe_int (pe_un un_neg pe_int)))
      (pss_cons (ps_if (pt_cmpR op_ne (pe_callB (r := rRepD K) (call_repD hg hu64 hsys) (by rfl) gRp PyProof.Rows.boot_repr (pa_cons (pe_meth (pv 0) R.cl Mle GL hr4 bL .nil ps0 (pa_cons (pv 1) pa_nil)) pa_nil)) (pe_callB (r := rRepD K) (call_repD hg hu64 hsys) (by rfl) gRp PyProof.Rows.boot_repr (pa_cons (pe_cmpR op_lt (pe_op op_mulW (pe_op op_mulW (pv 2) (pv 5)) (pv 6)) (pe_op op_mulW (pe_op op_mulW (pv 4) (pv 3)) (pv 6)) (nomark _)) pa_nil)) (nomark _)) (pss_one (ps_ret pe_bl)) pss_nil)
      (pss_cons (ps_if (pt_cmpR op_ne (pe_callB (r := rRepD K) (call_repD hg hu64 hsys) (by rfl) gRp PyProof.Rows.boot_repr (pa_cons (pe_cmpR (op_ownEq R.own Meq GE hr1 bE ps0) (pv 0) (pv 1) (nomark _)) pa_nil)) (pe_callB (r := rRepD K) (call_repD hg hu64 hsys) (by rfl) gRp PyProof.Rows.boot_repr (pa_cons (pe_cmpR op_eq (pe_op op_mulW (pv 2) (pv 5)) (pe_op op_mulW (pv 4) (pv 3)) (nomark _)) pa_nil)) (nomark _)) (pss_one (ps_ret pe_bl)) pss_nil)
      (pss_cons (ps_set (i := 6) S.nd rfl (Or.inl rfl) (pe_ifExp (pt_cmpR op_gt (pv 3) pe_int (nomark _)) pe_int (pe_un un_neg pe_int)))
      (pss_cons (ps_if (pw_or (pt_cmpR op_ne (pe_callB (r := rRepD K) (call_repD hg hu64 hsys) (by rfl) gRp PyProof.Rows.boot_repr (pa_cons (pe_meth (pv 0) R.cl Mle GL hr4 bL .nil ps0 (pa_cons (pv 4) pa_nil)) pa_nil)) (pe_callB (r := rRepD K) (call_repD hg hu64 hsys) (by rfl) gRp PyProof.Rows.boot_repr (pa_cons (pe_cmpR op_lt (pe_op op_mulW (pv 2) (pv 6)) (pe_op op_mulW (pe_op op_mulW (pv 4) (pv 3)) (pv 6)) (nomark _)) pa_nil)) (nomark _)) (pw_or1 (pt_cmpR (op_ownEq R.own Meq GE hr1 bE ps0) (pv 0) (pv 4) (nomark _)))).pt (pss_one (ps_ret pe_bl)) pss_nil)
      (pss_cons (ps_if (pw_or (pt_cmpR op_notBl (pe_meth (pv 0) R.cl Mle GL hr4 bL .nil ps0 (pa_cons (pv 0) pa_nil)) pe_bl (nomark _)) (pw_or (pt_cmpR (op_ownEq R.own Meq GE hr1 bE ps0) (pe_make M GI hr2 (by rfl) gC bD vD ps0 (pa_cons (pv 4) pa_nil)) (pv 4) (nomark _)) (pw_or1 (pt_cmpR op_notBl (pe_lamcall (T := T) (a := "call") (Ng := ["call", "e"]) (k := 4) (t := fun E => tMeth C "divided" (spDiv C CB) [] E (tVar 0) (tCons (tC (.int 0)) tNil)) (by rfl) gM FM.kp lkM hcdM bM scMet rfl (.inl rfl) (met_gives gB EC gTE kit exm gIs) TB rfl hmT hu hr (lamS_by (show lamSB (defScope (top 16)) _ = true by decide +kernel)) rfl (fun _ _ _ _ _ => rfl)
              (fun A outer s H E f c' hrk => pe_meth (pv 0) R.cl Mdi GDi hrk bDi .nil (passes_call (takes_of rfl rfl rfl rfl) (fun _ _ _ _ h => h)) (pa_cons pe_int pa_nil))) pe_bl (nomark _))))).pt (pss_one (ps_ret pe_bl)) pss_nil)
      (pss_cons (ps_if (pt_cmpR op_eq (pv 4) pe_int (nomark _)) (pss_one (ps_ret (pe_cmpR op_isBl (pe_lamcall (T := T) (a := "call") (Ng := ["call", "e"]) (k := 4) (t := fun E => tMeth C "divided" (spDiv C CB) [] E (tVar 0) (tCons (tVar 1) tNil)) (by rfl) gM FM.kp lkM hcdM bM scMet rfl (.inl rfl) (met_gives gB EC gTE kit exm gIs) TB rfl hmT hu hr (lamS_by (show lamSB (defScope (top 16)) _ = true by decide +kernel)) rfl (fun _ _ _ _ _ => rfl)
              (fun A outer s H E f c' hrk => pe_meth (pv 0) R.cl Mdi GDi hrk bDi .nil (passes_call (takes_of rfl rfl rfl rfl) (fun _ _ _ _ h => h)) (pa_cons (pv 1) pa_nil))) pe_bl (nomark _)))) pss_nil)
      (pss_cons (ps_if (pt_not (pt_val (pe_call GS hr2 (by rfl) gS kS bS .nil pass0 (pa_cons (pe_meth (pv 0) R.cl Mdi GDi hr4 bDi .nil ps0 (pa_cons (pv 1) pa_nil)) (pa_cons (pe_op op_mulW (pv 2) (pv 5)) (pa_cons (pe_op op_mulW (pv 3) (pv 4)) pa_nil)))))) (pss_one (ps_ret pe_bl)) pss_nil)
      (pss_one (ps_ret (pe_call GS hr2 (by rfl) gS kS bS .nil pass0 (pa_cons (pe_meth (pv 0) R.cl Mdi GDi hr4 bDi .nil ps0 (pa_cons (pv 4) pa_nil)) (pa_cons (pv 2) (pa_cons (pe_op op_mulW (pv 3) (pv 4)) pa_nil))))))))))))), ?_⟩
    have u4 : ∀ {H' x n d}, Rat C 130 H' x n d → Rat C 140 H' x n d := fun h => h.mono (by decide)
    have u3 : ∀ {H' x n d}, Rat C 130 H' x n d → Rat C 300 H' x n d := fun h => h.mono (by decide)
    have b1 : Bd 1 (1 : Int) := bd_one (by decide)
    have hX0 := hX
    obtain ⟨ax, dx, m, e, rfl, hax, _, hab, _⟩ := hX0
    refine ⟨V.int b, rfl, V.int d, rfl, b, d, rfl, rfl, hb.cm hd (by decide) (by decide) (by decide), b * d, 0, rfl, rfl, _, rfl, if_sign (sg := if 0 < b * d then 1 else -1) (fun h => if_pos (of_decide_eq_true h)) (fun h => if_neg (of_decide_eq_false h)) ?_⟩
    have e1 : ∀ sg : Int, (if 0 < b * d then (1 : Int) else -1) = sg → lessB a b c d = decide (a * d * sg < c * b * sg) := fun sg h => by
      unfold lessB
      rw [h]
    generalize hsg0 : (if 0 < b * d then (1 : Int) else -1) = sg
    have hsg := bd_sign hsg0
    have e1 := e1 sg hsg0
    refine ⟨V.ref ax, rfl, ax, dx, _, rfl, hax, rf_l m e, y, rfl, _, y, a, b, c, d, rfl, u4 hX, .inl (u4 hY), fun H1 s1 => ⟨V.bl _, .bool _, rfl, .bl _, (bshow _).1, (bshow _).2.1, (bshow _).2.2, V.int a, rfl, V.int d, rfl, a, d, rfl, rfl, ha.cm hd (by decide) (by decide) (by decide), V.int sg, rfl, a * d, sg, rfl, rfl, (ha.mul hd).cm hsg (by decide) (by decide) (by decide), V.int c, rfl, V.int b, rfl, c, b, rfl, rfl, hc.cm hb (by decide) (by decide) (by decide), V.int sg, rfl, c * b, sg, rfl, rfl, (hc.mul hb).cm hsg (by decide) (by decide) (by decide), a * d * sg, c * b * sg, rfl, rfl, V.bl _, .bool _, rfl, .bl _, (bshow _).1, (bshow _).2.1, (bshow _).2.2, rfl, _, rfl, neT (congrArg (fun t => V.str (PyData.bool t).shown) e1) ?_⟩⟩
    have hX1 := hX.same s1
    have hY1 := hY.same s1
    have hax1 := s1 _ _ hax
    have e2 := decI (a * d) (c * b)
    refine ⟨_, rfl, y, rfl, hX1.ins, .inl hY1.ins, _, y, a, b, rfl, u3 hX1, .inl ⟨c, d, u3 hY1, V.bl _, .bool _, rfl, .bl _, (bshow _).1, (bshow _).2.1, (bshow _).2.2, V.int a, rfl, V.int d, rfl, a, d, rfl, rfl, ha.cm hd (by decide) (by decide) (by decide), V.int c, rfl, V.int b, rfl, c, b, rfl, rfl, hc.cm hb (by decide) (by decide) (by decide), rfl, V.bl _, .bool _, rfl, .bl _, (bshow _).1, (bshow _).2.1, (bshow _).2.2, rfl, _, rfl, neT (congrArg (fun t => V.str (PyData.bool t).shown) e2) ?_⟩⟩
    refine ⟨V.int b, rfl, b, 0, rfl, rfl, _, rfl, if_sign (sg := if 0 < b then 1 else -1) (fun h => if_pos (of_decide_eq_true h)) (fun h => if_neg (of_decide_eq_false h)) ?_⟩
    generalize hsg1 : (if 0 < b then (1 : Int) else -1) = sg2
    have hsg2 := bd_sign hsg1
    have e3 := less1 a b c hsg1
    refine ⟨V.ref ax, rfl, ax, dx, _, rfl, hax1, rf_l m e, V.int c, rfl, _, .int c, a, b, c, 1, rfl, u4 hX1, .inr ⟨rfl, rfl, hc.mono (by decide)⟩, fun H2 s2 => ⟨V.bl _, .bool _, rfl, .bl _, (bshow _).1, (bshow _).2.1, (bshow _).2.2, V.int a, rfl, V.int sg2, rfl, a, sg2, rfl, rfl, ha.cm hsg2 (by decide) (by decide) (by decide), V.int c, rfl, V.int b, rfl, c, b, rfl, rfl, hc.cm hb (by decide) (by decide) (by decide), V.int sg2, rfl, c * b, sg2, rfl, rfl, (hc.mul hb).cm hsg2 (by decide) (by decide) (by decide), a * sg2, c * b * sg2, rfl, rfl, V.bl _, .bool _, rfl, .bl _, (bshow _).1, (bshow _).2.1, (bshow _).2.2, rfl, _, rfl, neT (congrArg (fun t => V.str (PyData.bool t).shown) e3) ?_⟩⟩
    have hX2 := hX1.same s2
    have hY2 := hY1.same s2
    have hax2 := s2 _ _ hax1
    refine ⟨_, rfl, V.int c, rfl, hX2.ins, .inr (.inl ⟨c, rfl⟩), _, .int c, a, b, rfl, u3 hX2, .inr ⟨.inl ⟨c, rfl⟩, _, rfl, iteF ?_⟩⟩
    refine ⟨V.ref ax, rfl, ax, dx, _, rfl, hax2, rf_l m e, _, rfl, _, _, a, b, a, b, rfl, u4 hX2, .inl (u4 hX2), fun H3 s3 => ⟨_, false, rfl, rfl, _, rfl, neT (less0 a b) ?_⟩⟩
    have hX3 := hX2.same s3
    have hY3 := hY2.same s3
    refine ⟨V.int c, rfl, mk_ratR (k := 300) (n := c) (d := 1) (hc.mono (by decide)) (bd_one (by decide)) (by decide) rfl (by decide) (hc.mono (by decide)) (bd_one (by decide)) fun H4 z s4 hz => ⟨rfl, ?_⟩⟩
    refine ⟨V.int c, rfl, hz.ins, .inr (.inl ⟨c, rfl⟩), .ref z, .int c, c, 1, rfl, hz, .inr ⟨.inl ⟨c, rfl⟩, _, rfl, iteF ?_⟩⟩
    have s04 := s1.trans (s2.trans (s3.trans s4))
    have hX4 := hX3.same s4
    have hY4 := hY3.same s4
    have T4 := hT.ext s04
    refine ⟨T4, fun H5 n5 T5 => ?_⟩
    have hX5 := hX4.extN n5
    have hY5 := hY4.extN n5
    have hax5 := n5 _ _ (s04 _ _ hax) fun ps z => nomatch z
    refine ⟨V.ref ax, rfl, ax, dx, _, rfl, hax5, rf_d m e, _, .int 0, a, b, 0, 1, rfl, u4 hX5, .inr ⟨rfl, rfl, (by show (0 : Int).natAbs < 2 ^ 140; exact Nat.pow_pos (by decide))⟩, fun _ H6 s6 => ⟨rfl, rfl, true, true, rfl, rfl, _, rfl, neT rfl ?_⟩, fun h => absurd rfl h⟩
    have n06 := (ExtN.of s04).trans (n5.trans (ExtN.of s6))
    have hX6 := hX5.same s6
    have hY6 := hY5.same s6
    have hax6 := s6 _ _ hax5
    have T6 := T5.ext s6
    refine ⟨V.int c, rfl, rfl, _, rfl, ite2 (fun h => ?_) (fun h => ?_)⟩
    · have hc0 : c = 0 := V.int.inj (of_decide_eq_true h)
      refine ⟨T6, fun H7 n7 T7 => ?_⟩
      have hX7 := hX6.extN n7
      have hY7 := hY6.extN n7
      have hax7 := n7 _ _ hax6 fun ps z => nomatch z
      refine ⟨V.ref ax, rfl, ax, dx, _, rfl, hax7, rf_d m e, y, rfl, _, y, a, b, c, d, rfl, u4 hX7, .inl (u4 hY7), fun _ H8 s8 => ⟨rfl, rfl, true, true, rfl, rfl, ?_⟩, fun h => absurd hc0 h⟩
      exact kk H8 (n06.trans (n7.trans (ExtN.of s8))) (T7.ext s8)
    · have hc0 : c ≠ 0 := fun z => h (decide_eq_true (by rw [z]))
      refine ⟨V.ref ax, rfl, ax, dx, _, rfl, hax6, rf_d m e, y, rfl, _, y, a, b, c, d, rfl, u4 hX6, .inl (u4 hY6), fun h => absurd h hc0, fun _ H7 z s7 hz => ⟨V.int a, rfl, V.int d, rfl, a, d, rfl, rfl, ha.cm hd (by decide) (by decide) (by decide), V.int b, rfl, V.int c, rfl, b, c, rfl, rfl, hb.cm hc (by decide) (by decide) (by decide), z, _, _, _, _, rfl, hz, (ha.mul hd).mono (by decide), (hb.mul hc).mono (by decide), rfl, true, rfl, iteF ?_⟩⟩
      have hX7 := hX6.same s7
      have hax7 := s7 _ _ hax6
      refine ⟨V.ref ax, rfl, ax, dx, _, rfl, hax7, rf_d m e, V.int c, rfl, _, .int c, a, b, c, 1, rfl, u4 hX7, .inr ⟨rfl, rfl, hc.mono (by decide)⟩, fun h => absurd h hc0, fun _ H8 z s8 hz => ⟨V.int a, rfl, V.int b, rfl, V.int c, rfl, b, c, rfl, rfl, hb.cm hc (by decide) (by decide) (by decide), z, _, _, _, _, rfl, hz, ha.mono (by decide), (hb.mul hc).mono (by decide), (show (a * 1) * (b * c) = a * (b * c) by rw [Int.mul_one]), ?_⟩⟩
      exact kk H8 (n06.trans (ExtN.of (s7.trans s8))) ((T6.ext s7).ext s8)
end
end SK
namespace SK
open PySem PySem.Spec PyProof.Rows L2 LamX NdefX
open K0 (De DeAll XCl spX withX)
/-! ### the law -/
theorem if_val {c : Bool} {tA tB : TE} {σ : L2.St} {H : Hp} {Q : VK} {z : V} (h1 : c = true → ∀ Q : VK, Q z H → tA σ H Q) (h2 : c = false → ∀ Q : VK, Q z H → tB σ H Q) (q : Q z H) : if c = true then tA σ H Q else tB σ H Q := by
  cases c with
  | true =>
    rw [if_pos rfl]
    exact h1 rfl Q q
  | false =>
    rw [if_neg Bool.false_ne_true]
    exact h2 rfl Q q
theorem mk_zeroR {C CB : Addr} {H1 : Hp} {R : Addr → VK} {E : XK} {N D : Int} (hn : Bd 600 N) (hD : D = 0) (kk : ∀ H' : Hp, Same H1 H' → E (.ref CB) none H') :
    ∀ x dx, H1 x = none → H1 dx = none → dx ≠ x → spInit C CB [.ref x, .int N, .int D] (upd (upd H1 dx (.own x)) x (.ins C dx [])) (R x) E := by
  subst hD
  intro x dx nx nd ne
  refine ⟨x, dx, N, 0, rfl, upd_same, hn, (by show (0 : Int).natAbs < 2 ^ 600; exact Nat.pow_pos (by decide)), fun _ => kk _ fun b o hb => ?_, fun z => absurd rfl z⟩
  rw [upd_ne (ne_of_none hb nx), upd_ne (ne_of_none hb nd)]
  exact hb
theorem PenAt.extN {H H' : Hp} {p l : Addr} {ns : List Int} {k lf : Int} (h : PenAt H p l ns k lf) (s : ExtN H H') : PenAt H' p l ns k lf := ⟨s _ _ h.dc (fun ps z => nomatch z), s _ _ h.ls (fun ps z => nomatch z)⟩
abbrev NW : List Str := ["script", "pen", "turn", "c", "one", "b", "d", "other", "told", "a"]
def spLaw (K : PySem.W.Frag) (T : List (Addr × Str)) : Sp := fun vs H Q _ => ∃ (a : Addr) (ns : List Int), vs = [.ref a] ∧ SqL K H a (ns.map V.int) ∧ ns.length ≤ 63 ∧ Tabs T H ∧ ∀ H', Q (.bl true) H'
section
variable {P : Program} {w : World} {K : PySem.W.Frag} {mg : Str → Option Value} {base : Heap} {f c0 Pt fPen fW fS fSu fO fI fE fSt fM C CB tE : Addr} {fd fdPen fdW fdS fdSu fdO fdI fdE fdSt fdM : FuncData} {T : List (Addr × Str)} {ds : List Value}
theorem ok_law (F : FunT K "law" "law" (top 17) f fd c0) (TB : TabB base mg c0 Pt) (hmT : (Pt, ("law" : Str) ++ ".<locals>." ++ "<lambda>") ∈ T) (hu : ∀ p ∈ T, p.1 = Pt → p.2 = ("law" : Str) ++ ".<locals>." ++ "<lambda>")
    (R : RatC K C) (gRg : mg "range" = none) (gStr : mg "str" = none) (gIs : mg "isinstance" = none)
    (gB : mg "BadOver" = some (.ref CB)) (EC : ExcC K CB) (gTE : mg "TreesError" = some (.ref tE)) (kit : PySem.W.kitOne K (.ref CB) (.ref tE) = some true) (exm : PySem.W.exmOne K (.ref CB) (.ref CB) = some true)
    (gM : mg "_law_met" = some (.ref fM)) (FM : Fun K "_law_met" "_law_met" (top 11) fM fdM) (bM : Binds K fdM ["call"] [])
    (gPen : mg "_law_pen_of" = some (.ref fPen)) (kPen : PySem.W.keepIn K (.ref fPen) = true) (GPen : FnOk P w K mg base CX0 1 fPen fdPen ["script"] (spPen K)) (bPen : Binds K fdPen ["script"] [])
    (gW : mg "_law_whole" = some (.ref fW)) (kW : PySem.W.keepIn K (.ref fW) = true) (GW : FnOk P w K mg base CX0 3 fW fdW ["pen"] spWhole) (bW : Binds K fdW ["pen"] [])
    (gS : mg "_law_is" = some (.ref fS)) (kS : PySem.W.keepIn K (.ref fS) = true) (GS : FnOk P w K mg base CX0 2 fS fdS ["ratio", "number", "over"] (spIs C)) (bS : Binds K fdS ["ratio", "number", "over"] [])
    (gSu : mg "_law_sums" = some (.ref fSu)) (kSu : PySem.W.keepIn K (.ref fSu) = true) (GSu : FnOk P w K mg base CX0 6 fSu fdSu N6 (spSums C)) (bSu : Binds K fdSu N6 [])
    (gO : mg "_law_orders" = some (.ref fO)) (kO : PySem.W.keepIn K (.ref fO) = true) (GO : FnG P w K mg base CX0 7 fO fdO N6 (spOrders C T)) (bO : Binds K fdO N6 [])
    (gC : mg "Ratio" = some (.ref C)) (M : Mk K C fI) (GI : FnOk P w K mg base (L2.CX P w) 1 fI fdI IP (spInit C CB)) (bI : Binds K fdI IP []) (bD : Binds K fdI IP ds) (vD : Vals [V.int 1] ds)
    (Meq : Has K C "__eq__" fE) (GE : FnOk P w K mg base (L2.CX P w) 1 fE fdE SO (spEq K C)) (bE : Binds K fdE SO [])
    (Mst : Has K C "__str__" fSt) (GSt : FnOk P w K mg base (L2.CX P w) 1 fSt fdSt ["self"] (spStr C)) (bSt : Binds K fdSt ["self"] []) :
    FnG P w K mg base CX0 8 f fd ["script"] (spLaw K T) := by
  have S : FnScope NW ["script"] (defScope (top 17)) := ⟨rfl, rfl, rfl, by decide +kernel, rfl, by decide +kernel, by decide +kernel⟩
  obtain ⟨ocM, odM, kVM, docM, pmM, anM, cdvM, ctM, oslM, rfl, lkM, hcdM⟩ := FM.ex
  have nd := S.nd
  refine FunT.okG F S (fun vs H Q E h => ?_) (fun A outer s H vs Q E hg hr h => ?_)
  · obtain ⟨sc, ns, rfl, _⟩ := h
    rfl
  · obtain ⟨sc, ns, rfl, hS, hn, hT, kk⟩ := h
    have hr6 : Room 6 _ := hr.mono (by decide)
    have hr4 : Room 4 _ := hr.mono (by decide)
    have hr3 : Room 3 _ := hr.mono (by decide)
    have hr2 : Room 2 _ := hr.mono (by decide)
    have hr1 : Room 1 _ := hr.mono (by decide)
    have ps0 : Passes (L2.CX P w) (cxOf CX0 P w K mg base NW "law" (defScope (top 17)) f (.ref c0) A outer s H E).nox (fun _ _ _ => False) := passes_call LamX.takes0 (fun _ _ _ _ h => h)
    refine ⟨_, pss_cons (ps_set (i := 1) nd rfl (Or.inl rfl) (pe_call GPen hr1 (by rfl) gPen kPen bPen .nil pass0 (pa_cons (pv 0) pa_nil)))
      (pss_cons (ps_for PassesOwn.never rfl (pi_range1 (by rfl) gRg (pa_cons pe_int pa_nil)) (pg_name (i := 2) nd rfl (Or.inl rfl))
        (pss_cons (ps_asg (pe_tup (pa_cons (pe_call GW hr3 (by rfl) gW kW bW .nil pass0 (pa_cons (pv 1) pa_nil)) (pa_cons (pe_call GW hr3 (by rfl) gW kW bW .nil pass0 (pa_cons (pv 1) pa_nil)) pa_nil))) (pg_tup rfl (pgs_cons (pg_name (i := 9) nd rfl (Or.inr rfl)) (pgs_cons (pg_name (i := 3) nd rfl (Or.inl rfl)) pgs_nil))))
        (pss_cons (ps_asg (pe_lc (own := [("one", 4)]) (g := gName 4) (tt := tYes) rfl nd (pi_list (pe_lst (pa_cons (pe_call GW hr3 (by rfl) gW kW bW .nil pass0 (pa_cons (pv 1) pa_nil)) (pa_cons (pe_call GW hr3 (by rfl) gW kW bW .nil pass0 (pa_cons (pv 1) pa_nil)) pa_nil)))) (blkOk_by (N := NW) (sc := defScope (top 17)) (by decide +kernel)) (fun _ _ _ _ _ => pg_name (i := 4) nd rfl (Or.inl rfl)) (fun _ _ _ _ _ => pts_nil)
            (fun _ _ _ _ _ => pe_ifExp (pt_cmpR op_ne (pv 4) pe_int (nomark _)) (pv 4) pe_int)) (pg_unl rfl (pgs_cons (pg_name (i := 5) nd rfl (Or.inl rfl)) (pgs_cons (pg_name (i := 6) nd rfl (Or.inl rfl)) pgs_nil))))
        (pss_cons (ps_par (i := 4) (j := 7) rfl nd rfl rfl (by decide) rfl rfl (pa_cons (pe_make M GI hr2 (by rfl) gC bI .nil ps0 (pa_cons (pv 9) (pa_cons (pv 5) pa_nil))) (pa_cons (pe_make M GI hr2 (by rfl) gC bI .nil ps0 (pa_cons (pv 3) (pa_cons (pv 6) pa_nil))) pa_nil)) rfl)
        (pss_cons (ps_if (pw_or (pt_not (pt_val (pe_call GS hr2 (by rfl) gS kS bS .nil pass0 (pa_cons (pv 4) (pa_cons (pv 9) (pa_cons (pv 5) pa_nil)))))) (pw_or1 (pt_not (pt_val (pe_call GS hr2 (by rfl) gS kS bS .nil pass0 (pa_cons (pe_make M GI hr2 (by rfl) gC bD vD ps0 (pa_cons (pv 3) pa_nil)) (pa_cons (pv 3) (pa_cons pe_int pa_nil)))))))).pt (pss_one (ps_ret pe_bl)) pss_nil)
        (pss_cons (ps_if (pt_not (pt_val (pe_call GSu hr6 (by rfl) gSu kSu bSu .nil pass0 (pa_cons (pv 4) (pa_cons (pv 7) (pa_cons (pv 9) (pa_cons (pv 5) (pa_cons (pv 3) (pa_cons (pv 6) pa_nil))))))))) (pss_one (ps_ret pe_bl)) pss_nil)
        (pss_cons (ps_if (pt_not (pt_val (pe_callG GO hg hr (by rfl) gO kO bO pass0 (pa_cons (pv 4) (pa_cons (pv 7) (pa_cons (pv 9) (pa_cons (pv 5) (pa_cons (pv 3) (pa_cons (pv 6) pa_nil))))))))) (pss_one (ps_ret pe_bl)) pss_nil)
        (pss_cons (ps_set (i := 8) nd rfl (Or.inl rfl) (pe_ifExp (pt_cmpR op_eq (pe_fld (pv 4) rfl) pe_int (nomark _)) (pe_callTy call_str_int (by rfl) gStr PyProof.Rows.boot_str (pa_cons (pe_fld (pv 4) rfl) pa_nil))
          (pe_op op_add_str (pe_op op_add_str (pe_callTy call_str_int (by rfl) gStr PyProof.Rows.boot_str (pa_cons (pe_fld (pv 4) rfl) pa_nil)) pe_str) (pe_callTy call_str_int (by rfl) gStr PyProof.Rows.boot_str (pa_cons (pe_fld (pv 4) rfl) pa_nil)))))
        (pss_cons (ps_if (pw_or (pt_cmpR op_ne (pe_callTy (call_strO Mst GSt hr3 bSt ps0) (by rfl) gStr PyProof.Rows.boot_str (pa_cons (pv 4) pa_nil)) (pv 8) (nomark _))
            (pw_or (pt_cmpR (op_ownNe R.own R.ne R.oo Meq GE hr2 bE ps0) (pv 4) (pe_make M GI hr2 (by rfl) gC bI .nil ps0 (pa_cons (pe_op op_mulW (pv 9) pe_int) (pa_cons (pe_op op_mulW (pv 5) pe_int) pa_nil))) (nomark _))
              (pw_or1 (pt_cmpR (op_ownEq R.own Meq GE hr1 bE ps0) (pv 4) (pe_tup (pa_cons (pv 9) (pa_cons (pv 5) pa_nil))) (nomark _))))).pt (pss_one (ps_ret pe_bl)) pss_nil)
        (pss_one (ps_if (pt_cmpR op_notBl
            (pe_lamcall (T := T) (a := "call") (Ng := ["call", "e"]) (k := 2) (t := fun E => tMake C (spInit C CB) [] E (tCons (tVar 9) (tCons (tC (.int 0)) tNil))) (by rfl) gM FM.kp lkM hcdM bM scMet rfl (.inl rfl) (met_gives gB EC gTE kit exm gIs) TB rfl hmT hu hr4 (lamS_by (show lamSB (defScope (top 17)) _ = true by decide +kernel)) rfl (fun _ _ _ _ _ => rfl)
              (fun A outer s H E f c' hrk => pe_make M GI hrk (by rfl) gC bI .nil (passes_call (takes_of rfl rfl rfl rfl) (fun _ _ _ _ h => h)) (pa_cons (pv 9) (pa_cons pe_int pa_nil))))
            pe_bl (nomark _)) (pss_one (ps_ret pe_bl)) pss_nil)))))))))))
      (pss_one (ps_ret pe_bl))), ?_⟩
    refine ⟨V.ref sc, rfl, sc, ns, rfl, hS, hn, fun H1 p l s1 P1 => ?_⟩
    have T1 := hT.ext s1
    refine ⟨8, rfl, by decide, by decide, for_it walk_range (fun i σ G => ∃ (x2 x3 x4 x5 x6 x7 x8 x9 : Option V) (k1 lf1 : Int), σ = [some (.ref sc), some (.ref p), x2, x3, x4, x5, x6, x7, x8, x9] ∧ k1 ≤ 100 * i ∧ 0 ≤ k1 ∧ 0 ≤ lf1 ∧ PenAt G p l ns k1 lf1 ∧ Tabs T G)
      ⟨none, none, none, none, none, none, none, none, 0, 0, rfl, by omega, Int.le_refl _, Int.le_refl _, P1, T1⟩ (fun _ _ _ _ _ => trivial) ?_ ?_⟩
    case refine_2 => exact fun σ G _ => kk G
    rintro i x σ G G2 hi ⟨x2, x3, x4, x5, x6, x7, x8, x9, k1, lf1, rfl, f1, f2, f3, PG, TG⟩ ⟨rfl, rfl⟩
    have hi' : i < 8 := hi
    refine ⟨V.ref p, rfl, p, l, ns, k1, lf1, rfl, PG, hn, f2, by omega, f3, fun G3 k3 lf3 a g1 g2 g3 ha s3 P3 => ?_⟩
    have T3 := Tabs.pen TG PG.dc s3
    refine ⟨V.ref p, rfl, p, l, ns, k3, lf3, rfl, P3, hn, g2, by omega, g3, fun G4 k4 lf4 c h1 h2 h3 hc s4 P4 => ⟨(by show 2 ≤ sizeLine; decide), fun q nq => ⟨q, _, rfl, .inl (.inl upd_same), rfl, _, _, rfl, _, _, rfl, rfl, ?_⟩⟩⟩
    have T4 := Tabs.pen T3 P3.dc s4
    have s5 := upd_new (o := .tup [V.int a, V.int c]) nq
    have T5 := T4.ext s5
    have P5 : PenAt (upd G4 q (.tup [V.int a, V.int c])) p l ns k4 lf4 := ⟨s5 _ _ P4.dc, s5 _ _ P4.ls⟩
    generalize upd G4 q (.tup [V.int a, V.int c]) = G5 at s5 T5 P5
    refine ⟨V.ref p, rfl, p, l, ns, k4, lf4, rfl, P5, hn, h2, by omega, h3, fun G6 k6 lf6 b0 i1 i2 i3 hb0 s6 P6 => ?_⟩
    have T6 := Tabs.pen T5 P5.dc s6
    refine ⟨V.ref p, rfl, p, l, ns, k6, lf6, rfl, P6, hn, i2, by omega, i3, fun G7 k7 lf7 d0 j1 j2 j3 hd0 s7 P7 => ⟨(by show 2 ≤ sizeLine; decide), fun L nL => ?_⟩⟩
    have T7 := Tabs.pen T6 P6.dc s7
    have s8 := upd_new (o := .lst [V.int b0, V.int d0]) nL
    have hL : upd G7 L (.lst [V.int b0, V.int d0]) L = some (.lst ([b0, d0].map V.int)) := upd_same
    have T8 := T7.ext s8
    have P8 : PenAt (upd G7 L (.lst [V.int b0, V.int d0])) p l ns k7 lf7 := ⟨s8 _ _ P7.dc, s8 _ _ P7.ls⟩
    generalize upd G7 L (.lst [V.int b0, V.int d0]) = G8 at s8 hL T8 P8
    refine ⟨L, rfl, ⟨_, .inl (.inl hL)⟩, fun D nD => lcF_list (K := K) (ws := [b0, d0]) V.int nD (fun x => V.int (if x = 0 then 1 else x)) (fun _ => true) (.inl (.inl hL)) (by show 2 < sizeLine; decide) (fun j x G9 hx s9 A B kA kB => ?_) fun G9 s9 hD => ?_⟩
    · refine ⟨rfl, V.int x, rfl, rfl, _, rfl, if_val (z := V.int (if x = 0 then 1 else x)) (fun c Q q => ⟨V.int x, rfl, ?_⟩) (fun c Q q => ?_) (kA rfl)⟩
      · have hx : x ≠ 0 := fun z => by
          rw [z] at c
          exact absurd c (by decide)
        rw [if_neg hx] at q
        exact q
      · have hx : x = 0 := by
          have := of_decide_eq_true (by rw [Bool.not_eq_false'] at c; exact c)
          exact V.int.inj this
        rw [if_pos hx] at q
        exact q
    obtain ⟨b, hbe⟩ : ∃ b : Int, (if b0 = 0 then 1 else b0) = b := ⟨_, rfl⟩
    obtain ⟨d, hde⟩ : ∃ d : Int, (if d0 = 0 then 1 else d0) = d := ⟨_, rfl⟩
    have hD' : G9 D = some (.lst [V.int b, V.int d]) := by
      rw [← hbe, ← hde]
      exact hD
    have b1 : Bd 130 (1 : Int) := bd_one (by decide)
    have hb : Bd 130 b ∧ b ≠ 0 := by
      rw [← hbe]
      split
      · exact ⟨b1, by decide⟩
      · exact ⟨hb0, by assumption⟩
    have hd : Bd 130 d ∧ d ≠ 0 := by
      rw [← hde]
      split
      · exact ⟨b1, by decide⟩
      · exact ⟨hd0, by assumption⟩
    obtain ⟨hb, hbn⟩ := hb
    obtain ⟨hd, hdn⟩ := hd
    have T9 := T8.ext s9
    have P9 : PenAt G9 p l ns k7 lf7 := ⟨s9 _ _ P8.dc, s9 _ _ P8.ls⟩
    refine ⟨D, _, rfl, .inl (.inl hD'), rfl, _, _, rfl, _, _, rfl, rfl, ?_⟩
    refine ⟨V.int a, rfl, V.int b, rfl, mk_ratR (k := 130) (n := a) (d := b) (ha.mono (by decide)) (hb.mono (by decide)) hbn rfl hbn ha hb fun G10 one s10 h10 => ⟨rfl, V.int c, rfl, V.int d, rfl, mk_ratR (k := 130) (n := c) (d := d) (hc.mono (by decide)) (hd.mono (by decide)) hdn rfl hdn hc hd fun G11 other s11 hY => ⟨rfl, _, _, rfl, ?_⟩⟩⟩
    have hX := h10.same s11
    have T11 := (T9.ext s10).ext s11
    have P11 : PenAt G11 p l ns k7 lf7 := ⟨s11 _ _ (s10 _ _ P9.dc), s11 _ _ (s10 _ _ P9.ls)⟩
    refine ⟨V.ref one, rfl, V.int a, rfl, V.int b, rfl, .ref one, _, _, _, _, rfl, hX.mono (by decide), ha.mono (by decide), hb.mono (by decide), rfl, true, rfl, iteF ?_⟩
    refine ⟨V.int c, rfl, mk_ratR (k := 300) (n := c) (d := 1) (hc.mono (by decide)) (bd_one (by decide)) (by decide) rfl (by decide) (hc.mono (by decide)) (bd_one (by decide)) fun G12 z s12 hz => ⟨rfl, V.int c, rfl, .ref z, _, _, _, _, rfl, hz, hc.mono (by decide), bd_one (by decide), rfl, true, rfl, iteF ?_⟩⟩
    refine ⟨V.ref one, rfl, V.ref other, rfl, V.int a, rfl, V.int b, rfl, V.int c, rfl, V.int d, rfl, .ref one, .ref other, a, b, c, d, rfl, hX.same s12, hY.same s12, ha, hb, hc, hd, fun G13 s13 => ⟨true, rfl, iteF ?_⟩⟩
    have s03 := s12.trans s13
    have hX := hX.same s03
    have hY := hY.same s03
    have T13 := T11.ext s03
    have P13 : PenAt G13 p l ns k7 lf7 := ⟨s03 _ _ P11.dc, s03 _ _ P11.ls⟩
    refine ⟨V.ref one, rfl, V.ref other, rfl, V.int a, rfl, V.int b, rfl, V.int c, rfl, V.int d, rfl, .ref one, .ref other, a, b, c, d, rfl, hX, hY, ha, hb, hc, hd, T13, fun G14 n14 T14 => ⟨true, rfl, iteF ?_⟩⟩
    have hX := hX.extN n14
    have P14 := P13.extN n14
    obtain ⟨o1, dx, m, e, eo, hone, hred, _, _, _, bm, be⟩ := hX.out
    have eo : one = o1 := V.ref.inj eo
    subst eo
    have q1 : m.natAbs.log2 < 1920 := bd300 bm (by decide) (by decide)
    have q2 : e.natAbs.log2 < 1920 := bd300 be (by decide) (by decide)
    have l1 := int_text_len_1921 q1
    have l2 := int_text_len_1921 q2
    have l3 : (Str.ofString "/").length = 1 := by decide +kernel
    refine ⟨V.ref one, rfl, one, C, dx, _, _, rfl, hone, R.cl, R.n2, rf_o m e, rfl, _, rfl, if_val (z := V.str (toldS m e)) (fun c Q q => ?_) (fun c Q q => ?_) ?_⟩
    · rw [dec1] at c
      unfold toldS at q
      rw [if_pos c] at q
      exact ⟨V.ref one, rfl, one, C, dx, _, _, rfl, hone, R.cl, R.n1, rf_n m e, m, rfl, q1, q⟩
    · have c : ¬ e = 1 := fun z => by
        rw [z] at c
        exact absurd c (by decide)
      unfold toldS at q
      rw [if_neg c] at q
      refine ⟨V.ref one, rfl, one, C, dx, _, _, rfl, hone, R.cl, R.n1, rf_n m e, m, rfl, q1, _, _, rfl, rfl, ?_, V.ref one, rfl, one, C, dx, _, _, rfl, hone, R.cl, R.n2, rf_o m e, e, rfl, q2, _, _, rfl, rfl, ?_, q⟩
      · show (Str.ofString (toString m)).length + (Str.ofString "/").length ≤ sizeLine
        rw [sizeLine_eq, l3]
        omega
      · show (Str.ofString (toString m) ++ Str.ofString "/").length + (Str.ofString (toString e)).length ≤ sizeLine
        rw [len_add, sizeLine_eq, l3]
        omega
    have b3 : Bd 2 (3 : Int) := by
      show (3 : Int).natAbs < 2 ^ 2
      decide
    have hX3 : Rat C 300 G14 (.ref one) a b := hX.mono (by decide)
    refine ⟨V.ref one, rfl, _, rfl, hX.ins, one, dx, m, e, rfl, hone, bm.mono (by decide), be.mono (by decide), _, rfl, V.str (toldS m e), rfl, rfl, _, rfl, neT rfl ?_⟩
    refine ⟨V.ref one, rfl, V.int a, rfl, a, 3, rfl, rfl, ha.cm b3 (by decide) (by decide) (by decide), V.int b, rfl, b, 3, rfl, rfl, hb.cm b3 (by decide) (by decide) (by decide), mk_ratR (k := 300) (n := a * 3) (d := b * 3) ((ha.mul b3).mono (by decide)) ((hb.mul b3).mono (by decide)) (Int.mul_ne_zero hbn (by decide)) rfl (Int.mul_ne_zero hbn (by decide)) ((ha.mul b3).mono (by decide)) ((hb.mul b3).mono (by decide)) fun G15 z s15 hz => ⟨rfl, ?_⟩⟩
    have hX15 := hX3.same s15
    refine ⟨hX15.ins, hz.ins, .ref one, .ref z, a, b, rfl, hX15, .inl ⟨a * 3, b * 3, hz, _, rfl, _, rfl, neT (by grind) ?_⟩⟩
    refine ⟨V.ref one, rfl, V.int a, rfl, V.int b, rfl, (by show 2 ≤ sizeLine; decide), fun q nq => ?_⟩
    have s16 := upd_new (o := .tup [V.int a, V.int b]) nq
    have hq : upd G15 q (.tup [V.int a, V.int b]) q = some (.tup [V.int a, V.int b]) := upd_same
    generalize upd G15 q (.tup [V.int a, V.int b]) = G16 at s16 hq
    have hX16 := hX15.same s16
    refine ⟨hX16.ins, .inr (.inr ⟨q, _, rfl, .inl (.inl hq)⟩), .ref one, .ref q, a, b, rfl, hX16, .inr ⟨.inr ⟨q, _, rfl, hq⟩, _, rfl, iteF ?_⟩⟩
    have s06 := s15.trans s16
    have T16 := T14.ext s06
    refine ⟨T16, fun G17 n17 T17 => ⟨V.int a, rfl, mk_zeroR (ha.mono (by decide)) rfl fun G18 s18 => ⟨rfl, rfl, true, true, rfl, rfl, _, rfl, neT rfl ?_⟩⟩⟩
    have P18 : PenAt G18 p l ns k7 lf7 := ((P14.extN (ExtN.of s06)).extN n17).extN (ExtN.of s18)
    exact ⟨_, _, _, _, _, _, _, _, k7, lf7, rfl, by omega, j2, j3, P18, T17.ext s18⟩
end
end SK
namespace SK
open PySem PySem.Spec PyProof.Rows L2 LamX NdefX
/-! ### the law's call, some tables of code objects beside the script -/
abbrev EndOk (h : Heap) (os : OsState) (r : Result) (s' : Shared) : Prop := r = .ok (.ret (.bool true)) ∧ PySem.OldK h s'.heap ∧ s'.os = os ∧ AllBare s'.gens
def tabObj : Obj := { cls := .none, data := .fields #[] }
section
variable {P : Program} {w : World} {K : PySem.W.Frag} {mg mb : Str → Option Value} {fa a : Addr} {s : Shared} {H : Hp} {vs : List Value} {ns : List Int} {lv : Nat} {sp : Sp} {ps : List (Addr × Addr)} {T : List (Addr × Str)}
theorem run_lawA (D : ∀ base : Heap, K.In base → base.Ns mainGlobals mg → (∀ p ∈ ps, TabB base mg p.1 p.2) → ∃ fd, Binds K fd ["script"] [] ∧ FnG P w K mg base CX0 lv fa fd ["script"] sp) (room : Room lv PySem.callerA)
    (hsp : ∀ (H : Hp) (a : Addr) (ns : List Int), SqL K H a (ns.map V.int) → ns.length ≤ 63 → Tabs T H → sp [.ref a] H (fun v _ => v = .bl true) E0)
    (hT : ∀ p ∈ T, p.1 ∈ ps.map (·.2)) (KX : K.In s.heap) (hm : s.heap.Ns mainGlobals mg) (hb : s.heap.Ns builtinsNs mb) (hbb : ∀ x : Str, x ≠ "__name__" → mb x = bootBuiltins x)
    (hlim : s.heap.NoLimit) (hgens : s.gens = #[]) (hPt : ∀ P ∈ ps.map (·.2), s.heap.get? P = some tabObj) (nPt : ∀ P ∈ ps.map (·.2), K.lookup P = none) (hC : ∀ p ∈ ps, PySem.W.CodeHd s.heap p.1 p.2)
    (hbm : ∃ (bm : Addr) (ob : Obj), mg "__builtins__" = some (.ref bm) ∧ bm ≠ builtinsNs ∧ s.heap.get? bm = some ob ∧ ob.cls = .type "module" ∧ ob.dict = some builtinsNs ∧ ob.data = .plain)
    (ha : s.heap.get? a = some { cls := .type "list", data := .seq vs.toArray }) (hn : ns.length ≤ 63) (hS : SqL K H a (ns.map V.int)) (ok : HOk P w H s.heap) (hHP : ∀ P ∈ ps.map (·.2), H P = some (.tbl #[]))
    (hO : ∀ b, H b = none ∨ b ∈ ps.map (·.2) ∨ (b = a ∧ ∃ o xs, H b = some (.frz o (.lst xs)))) (hK : H a ≠ none → K.lookup a = none) :
    codeAny (model P w) PySem.callerA (.call (.ref fa) ⟨[.ref a], []⟩) (EndOk s.heap s.os) s := by
  have free : ∀ {b : Addr} {o : Obj}, s.heap.get? b = some o → (∀ vs n, o.data ≠ .seq vs n) → o.data ≠ .fields #[] → H b = none := fun {b o} e h1 h2 => by
    rcases hO b with z | z | ⟨rfl, _⟩
    · exact z
    · rw [hPt b z] at e
      have e' := Option.some.inj e
      subst e'
      exact absurd rfl h2
    · rw [ha] at e
      have e' := Option.some.inj e
      subst e'
      exact absurd rfl (h1 _ _)
  have dicts : ∀ {b : Addr} {m : Str → Option Value}, s.heap.Ns b m → (hidT s.heap H).Ns b m := fun {b m} ⟨o, es, ep, e, d, r⟩ =>
    ⟨o, es, ep, hidT_get e (free e (fun vs n z => by rw [d] at z; cases z) fun z => by rw [d] at z; cases z), d, r⟩
  have Kb : K.In (hidT s.heap H) := fun b o e => by
    refine hidT_get (KX b o e) ?_
    rcases hO b with z | z | ⟨rfl, o', xs, z⟩
    · exact z
    · rw [nPt b z] at e
      cases e
    · rw [hK (by rw [z]; exact fun z => nomatch z)] at e
      cases e
  have M : Mod K mg (hidT s.heap H) := ⟨Kb, dicts hm, ⟨mb, dicts hb, hbb⟩, by
    obtain ⟨mc, h1, h2⟩ := hlim
    exact ⟨mc, dicts h1, h2⟩⟩
  have noG : ∀ P ∈ ps.map (·.2), mainGlobals ≠ P := fun P hP z => by
    obtain ⟨o, es, ep, e, d, _⟩ := hm
    rw [z, hPt P hP] at e
    have e' := Option.some.inj e
    subst e'
    cases d
  have TB : ∀ p ∈ ps, TabB (hidT s.heap H) mg p.1 p.2 := fun p hp => by
    have hp2 : p.2 ∈ ps.map (·.2) := List.mem_map.mpr ⟨p, hp, rfl⟩
    refine ⟨?_, ?_, noG _ hp2⟩
    · obtain ⟨o, us, file, tf, flags, tg, inF, text, tt, e1, r1, r2, r3, rest⟩ := hC p hp
      refine ⟨o, us, file, tf, flags, tg, inF, text, tt, hidT_get e1 (free e1 (fun vs n z => ?_) fun z => ?_), r1, r2, r3, rest⟩
      · rw [r2] at z
        cases z
      · rw [r2] at z
        injection z with z
        subst z
        simp at r3
    · obtain ⟨bm, ob, b1, b2, b3, b4, b5, b6⟩ := hbm
      refine ⟨bm, ob, b1, b2, fun z => ?_, fun z => ?_, hidT_get b3 (free b3 (fun vs n z => by rw [b6] at z; cases z) fun z => by rw [b6] at z; cases z), b4, b5, b6⟩
      · obtain ⟨o, es, ep, e, d, _⟩ := hm
        rw [z, e] at b3
        have e' := Option.some.inj b3
        subst e'
        rw [d] at b6
        cases b6
      · rw [z, hPt _ hp2] at b3
        have e' := Option.some.inj b3
        subst e'
        cases b6
  have e0 : Env0 P w K mg (hidT s.heap H) PySem.callerA [] s H := ⟨rfl, M, fun b o e => of_hidT e, Nat.le_of_eq (hidT_size _ _), trivial, fun b z => (by cases z), ok, AllBare.of_eq hgens⟩
  have tabs : Tabs T H := fun p hp => TabS.nil (hHP _ (hT p hp))
  obtain ⟨fd, b, G⟩ := D _ Kb (dicts hm) TB
  have back : ∀ b o, (hidT s.heap H).get? b = some o → s.heap.get? b = some o := fun b o e => (e0.bs b o e).1
  have bb := b s [Value.ref a] (e0.mod.kin.keeps back) (by rfl)
  refine codeAny_mono (G.run PySem.callerA [] s H ⟨[.ref a], []⟩ [.ref a] [V.ref a] _ E0 rfl room e0 bb (.cons rfl .nil) (hsp H a ns hS hn tabs)) fun r s' h => ?_
  cases r with
  | error e => exact h.elim
  | ok fl =>
    cases fl with
    | next => exact False.elim h
    | brk => exact False.elim h
    | cont => exact False.elim h
    | ret u =>
      obtain ⟨v, H', os, bare, un, ok', rv, qv⟩ := h
      have qv : v = .bl true := qv
      subst qv
      obtain rfl : u = Value.bool true := rv
      have grown : ∀ P ∈ ps.map (·.2), ∃ more : Array Value, s'.heap.get? P = some { cls := .none, data := .fields more } := fun P hP => by
        obtain ⟨more, z⟩ := un.tbls P #[] (hHP P hP)
        exact ⟨_, ok' P _ z⟩
      have same : ∀ b o, b ∉ ps.map (·.2) → s.heap.get? b = some o → s'.heap.get? b = some o := fun b o nb e => by
        rcases hO b with z | z | ⟨_, ob, xs, z⟩
        · exact un.keep b o e z (fun z => (by cases z)) (fun z => (by cases z))
        · exact absurd z nb
        · obtain ⟨f1, _⟩ := ok b _ z
          obtain ⟨f2, _⟩ := ok' b _ (un.frzs b ob _ z)
          rw [e] at f1
          cases f1
          exact f2
      refine ⟨rfl, ⟨fun b o e => ?_, fun b o e => ?_⟩, os, bare⟩
      · by_cases hbP : b ∈ ps.map (·.2)
        · obtain ⟨p, hp, rfl⟩ := List.mem_map.mp hbP
          rw [hPt _ hbP] at e
          have e' := Option.some.inj e
          subst e'
          obtain ⟨more, hmore⟩ := grown _ hbP
          exact .inr (.inl ⟨((hC p hp).tab (hPt _ hbP)).isCodeTable, rfl, #[], more, rfl, by rw [Array.empty_append]; exact hmore⟩)
        · exact .inl (same b o hbP e)
      · by_cases hbP : b ∈ ps.map (·.2)
        · obtain ⟨more, hmore⟩ := grown _ hbP
          exact ⟨_, hmore⟩
        · exact ⟨o, same b o hbP e⟩
theorem run_lawG (D : ∀ base : Heap, K.In base → base.Ns mainGlobals mg → (∀ p ∈ ps, TabB base mg p.1 p.2) → ∃ fd, Binds K fd ["script"] [] ∧ FnG P w K mg base CX0 lv fa fd ["script"] sp) (room : Room lv PySem.callerA)
    (hsp : ∀ (H : Hp) (a : Addr) (ns : List Int), SqL K H a (ns.map V.int) → ns.length ≤ 63 → Tabs T H → sp [.ref a] H (fun v _ => v = .bl true) E0)
    (hT : ∀ p ∈ T, p.1 ∈ ps.map (·.2)) (KX : K.In s.heap) (hm : s.heap.Ns mainGlobals mg) (hb : s.heap.Ns builtinsNs mb) (hbb : ∀ x : Str, x ≠ "__name__" → mb x = bootBuiltins x)
    (hlim : s.heap.NoLimit) (hgens : s.gens = #[]) (hPt : ∀ P ∈ ps.map (·.2), s.heap.get? P = some tabObj) (nPt : ∀ P ∈ ps.map (·.2), K.lookup P = none) (hC : ∀ p ∈ ps, PySem.W.CodeHd s.heap p.1 p.2)
    (hbm : ∃ (bm : Addr) (ob : Obj), mg "__builtins__" = some (.ref bm) ∧ bm ≠ builtinsNs ∧ s.heap.get? bm = some ob ∧ ob.cls = .type "module" ∧ ob.dict = some builtinsNs ∧ ob.data = .plain)
    (ha : s.heap.get? a = some { cls := .type "list", data := .seq vs.toArray }) (hi : IntsAre vs ns) (hn : ns.length ≤ 63) :
    codeAny (model P w) PySem.callerA (.call (.ref fa) ⟨[.ref a], []⟩) (EndOk s.heap s.os) s := by
  have rv := vals_ints hi
  have lv := hi.length
  have z63 : (63 : Nat) ≤ sizeLine := by decide
  have hz : ns.length ≤ sizeLine := Nat.le_trans hn z63
  have nap : a ∉ ps.map (·.2) := fun z => by
    have e := hPt a z
    rw [ha] at e
    have e := congrArg Obj.data (Option.some.inj e)
    cases e
  let lo : HO := .frz { cls := .type "list", data := .seq vs.toArray } (.lst (ns.map V.int))
  by_cases hk : K.lookup a = none
  · let H0 : Hp := fun b => if b = a then some lo else if b ∈ ps.map (·.2) then some (.tbl #[]) else none
    have ea : H0 a = some lo := if_pos rfl
    have eP : ∀ P ∈ ps.map (·.2), H0 P = some (.tbl #[]) := fun P hP => (if_neg (show ¬ P = a from fun z => nap (by rw [← z]; exact hP))).trans (if_pos hP)
    have en : ∀ b, b ≠ a → b ∉ ps.map (·.2) → H0 b = none := fun b n m => (if_neg n).trans (if_neg m)
    refine run_lawA (H := H0) D room hsp hT KX hm hb hbb hlim hgens hPt nPt hC hbm ha hn (.inl (.inr ⟨_, ea⟩)) (fun b u z => ?_) eP (fun b => ?_) fun _ => hk
    · by_cases h : b = a
      · subst h
        rw [ea] at z
        cases z
        exact ⟨ha, by rw [List.length_map]; exact hz, vs, _, rv, ha⟩
      · by_cases m : b ∈ ps.map (·.2)
        · rw [eP b m] at z
          cases z
          exact hPt b m
        · rw [en b h m] at z
          cases z
    · by_cases h : b = a
      · subst h
        exact .inr (.inr ⟨rfl, _, _, ea⟩)
      · by_cases m : b ∈ ps.map (·.2)
        · exact .inr (.inl m)
        · exact .inl (en b h m)
  · obtain ⟨o, ho⟩ := Option.ne_none_iff_exists'.mp hk
    have e := KX a o ho
    rw [ha] at e
    cases e
    let H1 : Hp := fun b => if b ∈ ps.map (·.2) then some (.tbl #[]) else none
    have eP : ∀ P ∈ ps.map (·.2), H1 P = some (.tbl #[]) := fun P hP => if_pos hP
    have en : ∀ b, b ∉ ps.map (·.2) → H1 b = none := fun b m => if_neg m
    refine run_lawA (H := H1) D room hsp hT KX hm hb hbb hlim hgens hPt nPt hC hbm ha hn (.inr ⟨_, vs.toArray, _, ho, rfl, rfl, rfl, by rw [List.size_toArray, lv]; exact hz, by simpa using rv⟩) (fun b u z => ?_) eP (fun b => ?_) fun z => absurd (en a nap) z
    · by_cases m : b ∈ ps.map (·.2)
      · rw [eP b m] at z
        cases z
        exact hPt b m
      · rw [en b m] at z
        cases z
    · by_cases m : b ∈ ps.map (·.2)
      · exact .inr (.inl m)
      · exact .inl (en b m)
end
end SK
namespace SK
open PySem PySem.Spec PyProof.Rows L2 LamX NdefX
open K0 (De DeAll XCl spX withX)
/-! ### what the top leaves, as one test -/
def clsB (K : PySem.W.Frag) (C : Addr) : Bool := match K.lookup C with
  | some ⟨.type "type", _, .cls cd, sl⟩ => (match cd.mro, sl.toList with
    | .ref D :: bm, [_, _, _, _, some (.builtin n), _] => decide (D = C) && (decide (n = "ValueError.__new__") && (!cd.hasDel && (cd.hasDict && PySem.HandSPX.refsVE bm)))
    | _, _ => false)
  | _ => false
theorem clsB_ok {K : PySem.W.Frag} {C : Addr} (h : clsB K C = true) : ∃ nm q N bs bm sn sub ab col dd k0 k1 k2 k3 k5, K.lookup C = some (excClassObj nm q C N bs bm true sn sub ab col dd k0 k1 k2 k3 k5 "ValueError.__new__") ∧ PySem.HandSPX.refsVE bm = true := by
  unfold clsB at h
  split at h
  · rename_i dd cd sl ho
    split at h
    · rename_i D bm k0 k1 k2 k3 n k5 hm hs
      simp only [Bool.and_eq_true, decide_eq_true_eq, Bool.not_eq_true'] at h
      obtain ⟨rfl, rfl, hdel, hd, hv⟩ := h
      obtain ⟨nm, bs, mro, ns, qn, hdc, sn, sub, ab, col, del⟩ := cd
      dsimp only at hm hdel hd
      subst hm hdel hd
      have e : sl = #[k0, k1, k2, k3, some (.builtin "ValueError.__new__"), k5] := by
        obtain ⟨l⟩ := sl
        simp only at hs
        rw [hs]
      subst e
      exact ⟨nm, qn, ns, bs, bm, sn, sub, ab, col, dd, k0, k1, k2, k3, k5, ho, hv⟩
    · cases h
  · cases h
def xB (K : PySem.W.Frag) (C : Addr) : Bool :=
  clsB K C && (decide (PySem.W.findIn K (.ref C) "__setattr__" = some (some (.builtin "object.__setattr__"))) && (decide (PySem.W.subIn K (.ref C) (.type "BaseException") = some true) && (decide (PySem.W.typeIn K (.ref C) = some (.type "type")) && (PySem.W.keepIn K (.ref C) &&
    (decide (PySem.W.findIn K (.ref C) "__getattribute__" = some (some (.builtin "BaseException.__getattribute__"))) && (decide (PySem.W.findIn K (.ref C) "__getattr__" = some none) && (PySem.W.hasDictIn K C && (decide (PySem.W.findIn K (.ref C) "__class__" = some (some (.builtin "object.__class__"))) &&
      (decide (PySem.W.specialIn K (.builtin "object.__class__") "__get__" = some (some (.builtin "getset_descriptor.__get__"))) && (decide (PySem.W.takesIn K (.builtin "object.__class__") = some true) && decide (PySem.W.mroIn K C (.type "object") = some true)))))))))))
theorem xB_ok {K : PySem.W.Frag} {C : Addr} (h : xB K C = true) : XCl K C := by
  simp only [xB, Bool.and_eq_true, decide_eq_true_eq] at h
  obtain ⟨h1, h2, h3, h4, h5, h6, h7, h8, h9, h10, h11, h12⟩ := h
  exact ⟨⟨clsB_ok h1, h2, h3, h4, h5⟩, h6, h7, h8, h9, h10, h11, h12⟩
def ratB (K : PySem.W.Frag) (C : Addr) : Bool :=
  (match PySem.W.clsIn K C with
    | some cd => (match cd.mro with
      | .ref D :: _ => decide (D = C)
      | _ => false)
    | none => false) && (decide (PySem.W.subIn K (.type "int") (.ref C) = some false) && (decide (PySem.W.subIn K (.ref C) (.type "int") = some false) && (decide (PySem.W.subIn K (.type "tuple") (.ref C) = some false) && (PySem.W.selfFirst K C &&
    (decide (PySem.W.findIn K (.ref C) "__class__" = some (some (.builtin "object.__class__"))) && (decide (PySem.W.specialIn K (.builtin "object.__class__") "__get__" = some (some (.builtin "getset_descriptor.__get__"))) && (decide (PySem.W.takesIn K (.builtin "object.__class__") = some true) && (decide (PySem.W.mroIn K C (.type "object") = some true) &&
    (decide (PySem.W.kitOne K (.ref C) (.ref C) = some true) && (decide (PySem.W.kitOne K (.type "int") (.ref C) = some false) && (decide (PySem.W.kitOne K (.type "tuple") (.ref C) = some false) &&
    (decide (PySem.W.findIn K (.ref C) "__ne__" = some (some (.builtin "object.__ne__"))) && decide (PySem.W.subIn K (.ref C) (.type "object") = some true)))))))))))))
theorem ratB_ok {K : PySem.W.Frag} {C : Addr} (h : ratB K C = true) (cl : Cls K C) (n1 : NoAttr K C "number") (n2 : NoAttr K C "over") : RatC K C := by
  unfold ratB at h
  obtain ⟨h0, h⟩ := He.ba h
  simp only [Bool.and_eq_true, decide_eq_true_eq] at h
  obtain ⟨h1, h2, h3, h4, h5, h6, h7, h8, h9, h10, h11, h12, h13⟩ := h
  refine ⟨⟨?_, h1, h2, h3, h4⟩, cl, n1, n2, h5, h6, h7, h8, h9, h10, h11, h12, h13⟩
  cases e : PySem.W.clsIn K C with
  | none =>
    rw [e] at h0
    cases h0
  | some cd =>
    rw [e] at h0
    cases e2 : cd.mro with
    | nil =>
      simp only [e2] at h0
      cases h0
    | cons v rest =>
      simp only [e2] at h0
      cases v with
      | ref D =>
        have q : D = C := of_decide_eq_true h0
        subst q
        exact ⟨cd, rest, rfl, e2⟩
      | _ => cases h0
def hasB (K : PySem.W.Frag) (C : Addr) (m : Str) : Bool := He.eqO (PySem.W.findIn K (.ref C) m) (some (some (.ref (He.ma K C m)))) && PySem.W.isFn K (.ref (He.ma K C m))
theorem hasB_ok {K : PySem.W.Frag} {C : Addr} {m : Str} (h : hasB K C m = true) : Has K C m (He.ma K C m) := by
  obtain ⟨h1, h2⟩ := He.ba h
  exact ⟨He.eqO_ok h1, h2⟩
def exs24 (K : PySem.W.Frag) : List Bool := [(K.lookup sysModules).isSome,
  decide (PySem.W.kitOne K (.ref (He.ga K "BadOver")) (.ref (He.ga K "TreesError")) = some true),
  xB K (He.ga K "BadOver"),
  (He.Fa.exc "BadOver").ok K,
  He.eqO (PySem.W.nsIn K mainGlobals "gcd") (some (some (.builtin "math.gcd"))),
  ratB K (He.ga K "Ratio"),
  decide ((He.cT K ("_law_orders", none)).2 ≠ (He.cT K ("law", none)).2),
  hasB K (He.ga K "Ratio") "__add__",
  hasB K (He.ga K "Ratio") "__sub__",
  hasB K (He.ga K "Ratio") "__mul__",
  hasB K (He.ga K "Ratio") "__radd__",
  hasB K (He.ga K "Ratio") "__rsub__",
  hasB K (He.ga K "Ratio") "__rmul__",
  hasB K (He.ga K "Ratio") "__neg__",
  hasB K (He.ga K "Ratio") "__abs__",
  hasB K (He.ga K "Ratio") "__eq__",
  hasB K (He.ga K "Ratio") "__str__"]
def ex24 (K : PySem.W.Frag) : Bool := (exs24 K).all id
def fa24 : List He.Fa := [.glo "as_ratio", .glo "_law_pen_of", .glo "_law_draw", .glo "_law_pick", .glo "_law_met", .glo "_law_whole", .glo "_law_divisor", .glo "_law_is", .glo "_law_sums", .glo "_law_orders", .glo "law", .glo "TreesError", .glo "BadOver", .glo "Ratio", .free "isinstance", .free "repr", .free "list", .free "len", .free "range", .free "int", .free "bool", .free "str", .free "abs", .cls "Ratio", .noat "Ratio" "number", .noat "Ratio" "over", .meth "Ratio" "is_less", .meth "Ratio" "divided", .mkr "Ratio", .exm "BadOver" "BadOver" true]
def dDef (x : Str) (st : Stmt) : He.DefD := ⟨(x, none), x, x, defArgs st, defBody st, defScope st, [], []⟩
def dMet (x m q : Str) (st : Stmt) : He.DefD := ⟨(x, some m), m, q, defArgs st, defBody st, defScope st, [], []⟩
def dInit : He.DefD := ⟨("Ratio", some "__init__"), "__init__", "Ratio.__init__", defArgs initSt, defBody initSt, defScope initSt, [.int 1], []⟩
def fn24 : List He.DefD := [dDef "as_ratio" (top 6), dDef "_law_pen_of" (top 8), dDef "_law_draw" (top 9), dDef "_law_pick" (top 10), dDef "_law_met" (top 11), dDef "_law_whole" (top 12), dDef "_law_divisor" (top 13), dDef "_law_is" (top 14), dDef "_law_sums" (top 15), dDef "_law_orders" (top 16), dDef "law" (top 17), dMet "Ratio" "__eq__" "Ratio.__eq__" (inClass (top 5) 1), dMet "Ratio" "__str__" "Ratio.__str__" (inClass (top 5) 2), dMet "Ratio" "__neg__" "Ratio.__neg__" (inClass (top 5) 3), dMet "Ratio" "__abs__" "Ratio.__abs__" (inClass (top 5) 4), dMet "Ratio" "__add__" "Ratio.__add__" (inClass (top 5) 5), dMet "Ratio" "__radd__" "Ratio.__radd__" (inClass (top 5) 6), dMet "Ratio" "__sub__" "Ratio.__sub__" (inClass (top 5) 7), dMet "Ratio" "__rsub__" "Ratio.__rsub__" (inClass (top 5) 8), dMet "Ratio" "__mul__" "Ratio.__mul__" (inClass (top 5) 9), dMet "Ratio" "__rmul__" "Ratio.__rmul__" (inClass (top 5) 10), dMet "Ratio" "is_less" "Ratio.is_less" (inClass (top 5) 11), dMet "Ratio" "divided" "Ratio.divided" (inClass (top 5) 12), dInit]
def tf24 : List He.Defn := [("_law_orders", none), ("law", none)]
/-! ### the Hook -/
def KF (g : Addr → Option Obj) : PySem.W.Frag := He.frT g (sysModules :: He.asD g 5)
def obsK (g : Addr → Option Obj) : He.AlX := (He.obsT fa24 fn24 [] (KF g), ex24 (KF g) && He.tabsB g tf24 (KF g))
abbrev SaysK (w : World) (h : Heap) (K : PySem.W.Frag) : Prop := He.SaysX fa24 fn24 [] tf24 ex24 w h K
theorem saysK {w : World} {h : Heap} (e : obsK h.get? = He.valX fn24 [] w) : SaysK w h (KF h.get?) := by
  obtain ⟨m1, m2⟩ := He.ba (show (ex24 (KF h.get?) && He.tabsB h.get? tf24 (KF h.get?)) = true from congrArg Prod.snd e)
  have at_ : ∀ p ∈ tf24, PySem.W.codeHdIn (KF h.get?) (He.cT (KF h.get?) p).1 (He.cT (KF h.get?) p).2 = true ∧ ∃ o, h.get? (He.cT (KF h.get?) p).2 = some o ∧ He.emptyTab o = true := fun p hp => by
    obtain ⟨a1, a2⟩ := He.ba (List.all_eq_true.mp m2 p hp)
    refine ⟨a1, ?_⟩
    cases z : h.get? (He.cT (KF h.get?) p).2 with
    | none => rw [z] at a2; cases a2
    | some o => rw [z] at a2; exact ⟨o, rfl, a2⟩
  refine ⟨congrArg Prod.fst e, m1, fun p hp => (at_ p hp).1, fun p hp => ?_, fun p hp => ?_⟩
  · obtain ⟨_, o, z, y⟩ := at_ p hp
    exact He.frT_none z y
  · obtain ⟨_, o, z, y⟩ := at_ p hp
    rw [z, He.emptyTab_eq y]
def hkK : PySem.W.Hook where
  α := He.AlX
  obs := fun s => obsK s.heap.get?
  val := fun w => He.valX fn24 [] w
  says := fun w h => ∃ K : PySem.W.Frag, K.In h ∧ SaysK w h K
  of := fun _ _ e => ⟨_, He.frT_in, saysK e⟩
  keeps := fun _ _ _ ⟨K, hK, c⟩ k => ⟨K, PySem.W.Frag.In.keeps hK k, ⟨c.t, c.more, c.hd, c.out, fun p hp => k _ _ (c.empty p hp)⟩⟩
def obK (s : PySem.W.SharedT) : He.AlX := obsK (HandSHeadRun.getT s)
theorem obK_eq (s : PySem.W.SharedT) : obK s = hkK.obs s.abs := by
  have e : HandSHeadRun.getT s = s.abs.heap.get? := funext (HandSHeadRun.getT_eq s)
  show obsK _ = obsK _
  rw [e]
section
variable {P : Program} {w : World} {K : PySem.W.Frag} {mg : Str → Option Value} {base h : Heap}
theorem SaysK.fun_ (c : SaysK w h K) {d : He.DefD} {st : Stmt} (hm : d ∈ fn24) (hp : d.params = defArgs st) (hb : d.body = defBody st) (hs : d.scope = defScope st) (hd : d.dfl = []) : ∃ fd, Fun K d.name d.qual st (He.fAd K d.at_) fd := by
  obtain ⟨fd, F⟩ := c.t.d.defs hm
  obtain ⟨oc, od, dV, kV, doc, pm, an, cdv, ct, osl, e, lk, hcd, hD, _⟩ := F.ex
  have hdv : d.dvs K = [] := by
    unfold He.DefD.dvs
    rw [hd]
    rfl
  have e3 : dV = .none := by
    rcases hD with ⟨_, z⟩ | ⟨z, _⟩
    · exact z
    · exact absurd hdv z
  subst e3
  refine ⟨fd, ⟨oc, od, kV, doc, pm, an, cdv, ct, osl, ?_, lk, hcd⟩, F.kp⟩
  rw [e, hp, hb, hs]
theorem SaysK.funT (c : SaysK w h K) {d : He.DefD} {st : Stmt} (hm : d ∈ fn24) (hp : d.params = defArgs st) (hb : d.body = defBody st) (hs : d.scope = defScope st) (hd : d.dfl = []) : ∃ fd, FunT K d.name d.qual st (He.fAd K d.at_) fd (He.cT K d.at_).1 := by
  obtain ⟨fd, F⟩ := c.fun_ hm hp hb hs hd
  obtain ⟨oc, od, kV, doc, pm, an, cdv, ct, osl, e, lk, hcd⟩ := F.ex
  obtain ⟨cc, rfl⟩ := He.codeIn_ref hcd
  have z : He.codeOf K d.at_ = cc := He.codeOf_eq lk (by rw [e])
  refine ⟨fd, ⟨oc, od, kV, doc, pm, an, ct, osl, ?_, lk, ?_⟩, F.kp⟩
  · show fd = _
    rw [e]
    show _ = PySem.W.fnOf _ _ _ _ _ _ _ _ _ _ (Value.ref (He.codeOf K d.at_)) _
    rw [z]
  · show PySem.W.codeIn K (.ref (He.codeOf K d.at_)) _ = true
    rw [z]
    exact hcd
theorem SaysK.is (c : SaysK w h K) {b : Bool} (i : Nat) (e : (exs24 K)[i]? = some b) : b = true := by
  have m : (exs24 K).all id = true := c.more
  exact List.all_eq_true.mp m b (List.mem_of_getElem? e)
theorem SaysK.fact (c : SaysK w h K) (i : Nat) {f : He.Fa} (e : fa24[i]? = some f) : f.ok K = true := c.t.d.facts (List.mem_of_getElem? e)
theorem SaysK.glo (c : SaysK w h K) (Kb : K.In base) (hm : base.Ns mainGlobals mg) (i : Nat) {x : Str} (e : fa24[i]? = some (.glo x)) : mg x = some (.ref (He.ga K x)) := He.glo_ok Kb hm (c.fact i e)
theorem SaysK.free (c : SaysK w h K) (Kb : K.In base) (hm : base.Ns mainGlobals mg) (i : Nat) {x : Str} (e : fa24[i]? = some (.free x)) : mg x = none := He.free_ok Kb hm (c.fact i e)
def tabsK (K : PySem.W.Frag) : List (Addr × Addr) := tf24.map fun p => He.cT K p
def TK (K : PySem.W.Frag) : List (Addr × Str) := [((He.cT K ("_law_orders", none)).2, ("_law_orders" : Str) ++ ".<locals>." ++ "<lambda>"), ((He.cT K ("law", none)).2, ("law" : Str) ++ ".<locals>." ++ "<lambda>")]
theorem law_all (c : SaysK w h K) (Kb : K.In base) (hm : base.Ns mainGlobals mg) (TB : ∀ p ∈ tabsK K, TabB base mg p.1 p.2) : ∃ fd, Binds K fd ["script"] [] ∧ FnG P w K mg base CX0 8 (He.ga K "law") fd ["script"] (spLaw K (TK K)) := by
  obtain ⟨v_as_ratio_d, v_as_ratio_F⟩ := c.fun_ (d := dDef "as_ratio" (top 6)) (st := top 6) (List.mem_of_getElem? (i := 0) rfl) rfl rfl rfl rfl
  have v_as_ratio_b : Binds K v_as_ratio_d ["value"] [] := Fun.binds v_as_ratio_F fun _ _ _ _ _ _ us hl => match us, hl with | [_], _ => rfl
  have v_as_ratio_g := c.glo Kb hm 0 (x := "as_ratio") rfl
  obtain ⟨v_law_pen_of_d, v_law_pen_of_F⟩ := c.fun_ (d := dDef "_law_pen_of" (top 8)) (st := top 8) (List.mem_of_getElem? (i := 1) rfl) rfl rfl rfl rfl
  have v_law_pen_of_b : Binds K v_law_pen_of_d ["script"] [] := Fun.binds v_law_pen_of_F fun _ _ _ _ _ _ us hl => match us, hl with | [_], _ => rfl
  have v_law_pen_of_g := c.glo Kb hm 1 (x := "_law_pen_of") rfl
  obtain ⟨v_law_draw_d, v_law_draw_F⟩ := c.fun_ (d := dDef "_law_draw" (top 9)) (st := top 9) (List.mem_of_getElem? (i := 2) rfl) rfl rfl rfl rfl
  have v_law_draw_b : Binds K v_law_draw_d ["pen", "many"] [] := Fun.binds v_law_draw_F fun _ _ _ _ _ _ us hl => match us, hl with | [_, _], _ => rfl
  have v_law_draw_g := c.glo Kb hm 2 (x := "_law_draw") rfl
  obtain ⟨v_law_pick_d, v_law_pick_F⟩ := c.fun_ (d := dDef "_law_pick" (top 10)) (st := top 10) (List.mem_of_getElem? (i := 3) rfl) rfl rfl rfl rfl
  have v_law_pick_b : Binds K v_law_pick_d ["pen", "items"] [] := Fun.binds v_law_pick_F fun _ _ _ _ _ _ us hl => match us, hl with | [_, _], _ => rfl
  have v_law_pick_g := c.glo Kb hm 3 (x := "_law_pick") rfl
  obtain ⟨v_law_met_d, v_law_met_F⟩ := c.fun_ (d := dDef "_law_met" (top 11)) (st := top 11) (List.mem_of_getElem? (i := 4) rfl) rfl rfl rfl rfl
  have v_law_met_b : Binds K v_law_met_d ["call"] [] := Fun.binds v_law_met_F fun _ _ _ _ _ _ us hl => match us, hl with | [_], _ => rfl
  have v_law_met_g := c.glo Kb hm 4 (x := "_law_met") rfl
  obtain ⟨v_law_whole_d, v_law_whole_F⟩ := c.fun_ (d := dDef "_law_whole" (top 12)) (st := top 12) (List.mem_of_getElem? (i := 5) rfl) rfl rfl rfl rfl
  have v_law_whole_b : Binds K v_law_whole_d ["pen"] [] := Fun.binds v_law_whole_F fun _ _ _ _ _ _ us hl => match us, hl with | [_], _ => rfl
  have v_law_whole_g := c.glo Kb hm 5 (x := "_law_whole") rfl
  obtain ⟨v_law_divisor_d, v_law_divisor_F⟩ := c.fun_ (d := dDef "_law_divisor" (top 13)) (st := top 13) (List.mem_of_getElem? (i := 6) rfl) rfl rfl rfl rfl
  have v_law_divisor_b : Binds K v_law_divisor_d ["one", "other"] [] := Fun.binds v_law_divisor_F fun _ _ _ _ _ _ us hl => match us, hl with | [_, _], _ => rfl
  have v_law_divisor_g := c.glo Kb hm 6 (x := "_law_divisor") rfl
  obtain ⟨v_law_is_d, v_law_is_F⟩ := c.fun_ (d := dDef "_law_is" (top 14)) (st := top 14) (List.mem_of_getElem? (i := 7) rfl) rfl rfl rfl rfl
  have v_law_is_b : Binds K v_law_is_d ["ratio", "number", "over"] [] := Fun.binds v_law_is_F fun _ _ _ _ _ _ us hl => match us, hl with | [_, _, _], _ => rfl
  have v_law_is_g := c.glo Kb hm 7 (x := "_law_is") rfl
  obtain ⟨v_law_sums_d, v_law_sums_F⟩ := c.fun_ (d := dDef "_law_sums" (top 15)) (st := top 15) (List.mem_of_getElem? (i := 8) rfl) rfl rfl rfl rfl
  have v_law_sums_b : Binds K v_law_sums_d ["one", "other", "a", "b", "c", "d"] [] := Fun.binds v_law_sums_F fun _ _ _ _ _ _ us hl => match us, hl with | [_, _, _, _, _, _], _ => rfl
  have v_law_sums_g := c.glo Kb hm 8 (x := "_law_sums") rfl
  obtain ⟨v_law_orders_d, v_law_orders_F⟩ := c.funT (d := dDef "_law_orders" (top 16)) (st := top 16) (List.mem_of_getElem? (i := 9) rfl) rfl rfl rfl rfl
  have v_law_orders_b : Binds K v_law_orders_d ["one", "other", "a", "b", "c", "d"] [] := FunT.bindsT v_law_orders_F fun _ _ _ _ _ _ us hl => match us, hl with | [_, _, _, _, _, _], _ => rfl
  have v_law_orders_g := c.glo Kb hm 9 (x := "_law_orders") rfl
  obtain ⟨v_law_d, v_law_F⟩ := c.funT (d := dDef "law" (top 17)) (st := top 17) (List.mem_of_getElem? (i := 10) rfl) rfl rfl rfl rfl
  have v_law_b : Binds K v_law_d ["script"] [] := FunT.bindsT v_law_F fun _ _ _ _ _ _ us hl => match us, hl with | [_], _ => rfl
  have v_law_g := c.glo Kb hm 10 (x := "law") rfl
  obtain ⟨m_Ratio_eq_d, m_Ratio_eq_F⟩ := c.fun_ (d := dMet "Ratio" "__eq__" "Ratio.__eq__" (inClass (top 5) 1)) (st := inClass (top 5) 1) (List.mem_of_getElem? (i := 11) rfl) rfl rfl rfl rfl
  have m_Ratio_eq_b : Binds K m_Ratio_eq_d ["self", "other"] [] := Fun.binds m_Ratio_eq_F fun _ _ _ _ _ _ us hl => match us, hl with | [_, _], _ => rfl
  obtain ⟨m_Ratio_str_d, m_Ratio_str_F⟩ := c.fun_ (d := dMet "Ratio" "__str__" "Ratio.__str__" (inClass (top 5) 2)) (st := inClass (top 5) 2) (List.mem_of_getElem? (i := 12) rfl) rfl rfl rfl rfl
  have m_Ratio_str_b : Binds K m_Ratio_str_d ["self"] [] := Fun.binds m_Ratio_str_F fun _ _ _ _ _ _ us hl => match us, hl with | [_], _ => rfl
  obtain ⟨m_Ratio_neg_d, m_Ratio_neg_F⟩ := c.fun_ (d := dMet "Ratio" "__neg__" "Ratio.__neg__" (inClass (top 5) 3)) (st := inClass (top 5) 3) (List.mem_of_getElem? (i := 13) rfl) rfl rfl rfl rfl
  have m_Ratio_neg_b : Binds K m_Ratio_neg_d ["self"] [] := Fun.binds m_Ratio_neg_F fun _ _ _ _ _ _ us hl => match us, hl with | [_], _ => rfl
  obtain ⟨m_Ratio_abs_d, m_Ratio_abs_F⟩ := c.fun_ (d := dMet "Ratio" "__abs__" "Ratio.__abs__" (inClass (top 5) 4)) (st := inClass (top 5) 4) (List.mem_of_getElem? (i := 14) rfl) rfl rfl rfl rfl
  have m_Ratio_abs_b : Binds K m_Ratio_abs_d ["self"] [] := Fun.binds m_Ratio_abs_F fun _ _ _ _ _ _ us hl => match us, hl with | [_], _ => rfl
  obtain ⟨m_Ratio_add_d, m_Ratio_add_F⟩ := c.fun_ (d := dMet "Ratio" "__add__" "Ratio.__add__" (inClass (top 5) 5)) (st := inClass (top 5) 5) (List.mem_of_getElem? (i := 15) rfl) rfl rfl rfl rfl
  have m_Ratio_add_b : Binds K m_Ratio_add_d ["self", "other"] [] := Fun.binds m_Ratio_add_F fun _ _ _ _ _ _ us hl => match us, hl with | [_, _], _ => rfl
  obtain ⟨m_Ratio_radd_d, m_Ratio_radd_F⟩ := c.fun_ (d := dMet "Ratio" "__radd__" "Ratio.__radd__" (inClass (top 5) 6)) (st := inClass (top 5) 6) (List.mem_of_getElem? (i := 16) rfl) rfl rfl rfl rfl
  have m_Ratio_radd_b : Binds K m_Ratio_radd_d ["self", "other"] [] := Fun.binds m_Ratio_radd_F fun _ _ _ _ _ _ us hl => match us, hl with | [_, _], _ => rfl
  obtain ⟨m_Ratio_sub_d, m_Ratio_sub_F⟩ := c.fun_ (d := dMet "Ratio" "__sub__" "Ratio.__sub__" (inClass (top 5) 7)) (st := inClass (top 5) 7) (List.mem_of_getElem? (i := 17) rfl) rfl rfl rfl rfl
  have m_Ratio_sub_b : Binds K m_Ratio_sub_d ["self", "other"] [] := Fun.binds m_Ratio_sub_F fun _ _ _ _ _ _ us hl => match us, hl with | [_, _], _ => rfl
  obtain ⟨m_Ratio_rsub_d, m_Ratio_rsub_F⟩ := c.fun_ (d := dMet "Ratio" "__rsub__" "Ratio.__rsub__" (inClass (top 5) 8)) (st := inClass (top 5) 8) (List.mem_of_getElem? (i := 18) rfl) rfl rfl rfl rfl
  have m_Ratio_rsub_b : Binds K m_Ratio_rsub_d ["self", "other"] [] := Fun.binds m_Ratio_rsub_F fun _ _ _ _ _ _ us hl => match us, hl with | [_, _], _ => rfl
  obtain ⟨m_Ratio_mul_d, m_Ratio_mul_F⟩ := c.fun_ (d := dMet "Ratio" "__mul__" "Ratio.__mul__" (inClass (top 5) 9)) (st := inClass (top 5) 9) (List.mem_of_getElem? (i := 19) rfl) rfl rfl rfl rfl
  have m_Ratio_mul_b : Binds K m_Ratio_mul_d ["self", "other"] [] := Fun.binds m_Ratio_mul_F fun _ _ _ _ _ _ us hl => match us, hl with | [_, _], _ => rfl
  obtain ⟨m_Ratio_rmul_d, m_Ratio_rmul_F⟩ := c.fun_ (d := dMet "Ratio" "__rmul__" "Ratio.__rmul__" (inClass (top 5) 10)) (st := inClass (top 5) 10) (List.mem_of_getElem? (i := 20) rfl) rfl rfl rfl rfl
  have m_Ratio_rmul_b : Binds K m_Ratio_rmul_d ["self", "other"] [] := Fun.binds m_Ratio_rmul_F fun _ _ _ _ _ _ us hl => match us, hl with | [_, _], _ => rfl
  obtain ⟨m_Ratio_is_less_d, m_Ratio_is_less_F⟩ := c.fun_ (d := dMet "Ratio" "is_less" "Ratio.is_less" (inClass (top 5) 11)) (st := inClass (top 5) 11) (List.mem_of_getElem? (i := 21) rfl) rfl rfl rfl rfl
  have m_Ratio_is_less_b : Binds K m_Ratio_is_less_d ["self", "other"] [] := Fun.binds m_Ratio_is_less_F fun _ _ _ _ _ _ us hl => match us, hl with | [_, _], _ => rfl
  obtain ⟨m_Ratio_divided_d, m_Ratio_divided_F⟩ := c.fun_ (d := dMet "Ratio" "divided" "Ratio.divided" (inClass (top 5) 12)) (st := inClass (top 5) 12) (List.mem_of_getElem? (i := 22) rfl) rfl rfl rfl rfl
  have m_Ratio_divided_b : Binds K m_Ratio_divided_d ["self", "other"] [] := Fun.binds m_Ratio_divided_F fun _ _ _ _ _ _ us hl => match us, hl with | [_, _], _ => rfl
  have f_isinstance := c.free Kb hm 14 (x := "isinstance") rfl
  have f_repr := c.free Kb hm 15 (x := "repr") rfl
  have f_list := c.free Kb hm 16 (x := "list") rfl
  have f_len := c.free Kb hm 17 (x := "len") rfl
  have f_range := c.free Kb hm 18 (x := "range") rfl
  have f_int := c.free Kb hm 19 (x := "int") rfl
  have f_bool := c.free Kb hm 20 (x := "bool") rfl
  have f_str := c.free Kb hm 21 (x := "str") rfl
  have f_abs := c.free Kb hm 22 (x := "abs") rfl
  have g_TreesError := c.glo Kb hm 11 (x := "TreesError") rfl
  have g_BadOver := c.glo Kb hm 12 (x := "BadOver") rfl
  have g_Ratio := c.glo Kb hm 13 (x := "Ratio") rfl
  have c_Ratio := He.cls_ok (c.fact 23 (f := .cls "Ratio") rfl)
  have n_Ratio_number := He.noat_ok (c.fact 24 (f := .noat "Ratio" "number") rfl)
  have n_Ratio_over := He.noat_ok (c.fact 25 (f := .noat "Ratio" "over") rfl)
  have t_Ratio_is_less := He.meth_ok (c.fact 26 (f := .meth "Ratio" "is_less") rfl)
  have t_Ratio_divided := He.meth_ok (c.fact 27 (f := .meth "Ratio" "divided") rfl)
  have k_Ratio := He.mkr_ok (c.fact 28 (f := .mkr "Ratio") rfl)
  have e_BadOver_BadOver := He.exm_ok (c.fact 29 (f := .exm "BadOver" "BadOver" true) rfl)
  have k_BadOver_TreesError := of_decide_eq_true (c.is 1 rfl)
  have ex_0 := c.is 2 (b := xB K (He.ga K "BadOver")) rfl
  have ex_1 := c.is 3 (b := (He.Fa.exc "BadOver").ok K) rfl
  have ex_2 := c.is 4 (b := He.eqO (PySem.W.nsIn K mainGlobals "gcd") (some (some (.builtin "math.gcd")))) rfl
  have ex_3 := c.is 5 (b := ratB K (He.ga K "Ratio")) rfl
  have ex_4 := c.is 6 (b := decide ((He.cT K ("_law_orders", none)).2 ≠ (He.cT K ("law", none)).2)) rfl
  have ex_5 := c.is 7 (b := hasB K (He.ga K "Ratio") "__add__") rfl
  have ex_6 := c.is 8 (b := hasB K (He.ga K "Ratio") "__sub__") rfl
  have ex_7 := c.is 9 (b := hasB K (He.ga K "Ratio") "__mul__") rfl
  have ex_8 := c.is 10 (b := hasB K (He.ga K "Ratio") "__radd__") rfl
  have ex_9 := c.is 11 (b := hasB K (He.ga K "Ratio") "__rsub__") rfl
  have ex_10 := c.is 12 (b := hasB K (He.ga K "Ratio") "__rmul__") rfl
  have ex_11 := c.is 13 (b := hasB K (He.ga K "Ratio") "__neg__") rfl
  have ex_12 := c.is 14 (b := hasB K (He.ga K "Ratio") "__abs__") rfl
  have ex_13 := c.is 15 (b := hasB K (He.ga K "Ratio") "__eq__") rfl
  have ex_14 := c.is 16 (b := hasB K (He.ga K "Ratio") "__str__") rfl
  have sys : ∃ o, K.lookup sysModules = some o := Option.isSome_iff_exists.mp (c.is 0 rfl)
  have M_ad : Has K (He.ga K "Ratio") (PySem.dunder Operator.Add.info.2) (He.ma K (He.ga K "Ratio") "__add__") := hasB_ok ex_5
  have M_su : Has K (He.ga K "Ratio") (PySem.dunder Operator.Sub.info.2) (He.ma K (He.ga K "Ratio") "__sub__") := hasB_ok ex_6
  have M_mu : Has K (He.ga K "Ratio") (PySem.dunder Operator.Mult.info.2) (He.ma K (He.ga K "Ratio") "__mul__") := hasB_ok ex_7
  have M_ra : Has K (He.ga K "Ratio") (dunderR Operator.Add.info.2) (He.ma K (He.ga K "Ratio") "__radd__") := hasB_ok ex_8
  have M_rs : Has K (He.ga K "Ratio") (dunderR Operator.Sub.info.2) (He.ma K (He.ga K "Ratio") "__rsub__") := hasB_ok ex_9
  have M_rm : Has K (He.ga K "Ratio") (dunderR Operator.Mult.info.2) (He.ma K (He.ga K "Ratio") "__rmul__") := hasB_ok ex_10
  have M_ne : Has K (He.ga K "Ratio") "__neg__" (He.ma K (He.ga K "Ratio") "__neg__") := hasB_ok ex_11
  have M_ab : Has K (He.ga K "Ratio") "__abs__" (He.ma K (He.ga K "Ratio") "__abs__") := hasB_ok ex_12
  have M_eq : Has K (He.ga K "Ratio") "__eq__" (He.ma K (He.ga K "Ratio") "__eq__") := hasB_ok ex_13
  have M_st : Has K (He.ga K "Ratio") "__str__" (He.ma K (He.ga K "Ratio") "__str__") := hasB_ok ex_14
  have R : RatC K (He.ga K "Ratio") := ratB_ok ex_3 c_Ratio n_Ratio_number n_Ratio_over
  have gG : mg "gcd" = some (.builtin "math.gcd") := PySem.W.mg_of Kb hm (He.eqO_ok ex_2)
  obtain ⟨y1, y2, y3, y4⟩ := He.exc_ok ex_1
  have EC : ExcC K (He.ga K "BadOver") := ec_of (xB_ok ex_0)
  have ne2 := of_decide_eq_true ex_4
  obtain ⟨v_init_d, v_init_F⟩ := c.t.d.defs (List.mem_of_getElem? (i := 23) rfl : dInit ∈ fn24)
  have v_init_F : FunD K "__init__" "Ratio.__init__" (defArgs initSt) (defBody initSt) (defScope initSt) [V.int 1] [] (He.ma K (He.ga K "Ratio") "__init__") v_init_d := v_init_F
  have bI : Binds K v_init_d IP [] := by
    obtain ⟨ds, vd, b⟩ := FunD.binds1 (ps := IP) v_init_F 3 1 (by simp) (by rfl) (fun T kV doc pm an cdv ct us its hl hi => match us, hl, its, hi with | [_, _, _], _, [_], _ => ⟨_, rfl, rfl⟩)
    cases vd
    exact b
  obtain ⟨ds, vD, bD⟩ := FunD.binds1 (ps := IP) v_init_F 2 0 (by simp) (by rfl) (fun T kV doc pm an cdv ct us its hl hi => match us, hl, its, hi with | [_, _], _, [_], _ => ⟨_, rfl, rfl⟩)
  have G_init := ok_init (P := P) (w := w) (base := base) v_init_F R gG y1 g_BadOver y2 y3 y4
  have G_as := ok_as v_as_ratio_F R f_isinstance f_int f_bool g_Ratio k_Ratio G_init bD vD
  have G_neg := ok_neg m_Ratio_neg_F R g_Ratio k_Ratio G_init bI
  have G_abs := ok_abs m_Ratio_abs_F R f_abs g_Ratio k_Ratio G_init bI
  have G_add := ok_add m_Ratio_add_F R v_as_ratio_g v_as_ratio_F.kp G_as v_as_ratio_b g_Ratio k_Ratio G_init bI
  have G_sub := ok_sub m_Ratio_sub_F R v_as_ratio_g v_as_ratio_F.kp G_as v_as_ratio_b g_Ratio k_Ratio G_init bI
  have G_mul := ok_mul m_Ratio_mul_F R v_as_ratio_g v_as_ratio_F.kp G_as v_as_ratio_b g_Ratio k_Ratio G_init bI
  have G_div := ok_div m_Ratio_divided_F R v_as_ratio_g v_as_ratio_F.kp G_as v_as_ratio_b g_Ratio k_Ratio G_init bI
  have G_less := ok_less m_Ratio_is_less_F R v_as_ratio_g v_as_ratio_F.kp G_as v_as_ratio_b
  have G_radd := ok_radd m_Ratio_radd_F R M_ad M_ra G_add m_Ratio_add_b
  have G_rmul := ok_rmul m_Ratio_rmul_F R M_mu M_rm G_mul m_Ratio_mul_b
  have G_rsub := ok_rsub m_Ratio_rsub_F R M_ne G_neg m_Ratio_neg_b M_ad M_ra G_add m_Ratio_add_b
  have G_eq := ok_eq (P := P) (w := w) (base := base) m_Ratio_eq_F R f_isinstance g_Ratio
  have G_str := ok_str (P := P) (w := w) (base := base) m_Ratio_str_F R f_str
  have G_pen := ok_pen (P := P) (w := w) (base := base) v_law_pen_of_F f_list
  have G_draw := ok_draw (P := P) (w := w) (base := base) v_law_draw_F f_int f_len f_abs
  have G_pick := ok_pick v_law_pick_F f_len v_law_draw_g v_law_draw_F.kp G_draw v_law_draw_b
  have G_whole := ok_whole v_law_whole_F v_law_draw_g v_law_draw_F.kp G_draw v_law_draw_b v_law_pick_g v_law_pick_F.kp G_pick v_law_pick_b
  have G_dvs := ok_dvs (P := P) (w := w) (base := base) v_law_divisor_F f_int
  have G_is := ok_is v_law_is_F R f_isinstance f_abs g_Ratio v_law_divisor_g v_law_divisor_F.kp G_dvs v_law_divisor_b
  have G_sums := ok_sums v_law_sums_F R f_abs v_law_is_g v_law_is_F.kp G_is v_law_is_b M_ad G_add m_Ratio_add_b M_su G_sub m_Ratio_sub_b M_mu G_mul m_Ratio_mul_b M_ne G_neg m_Ratio_neg_b M_ab G_abs m_Ratio_abs_b M_ra G_radd m_Ratio_radd_b M_rs G_rsub m_Ratio_rsub_b M_rm G_rmul m_Ratio_rmul_b
  have tb1 := TB (He.cT K ("_law_orders", none)) (List.mem_map.mpr ⟨("_law_orders", none), .head _, rfl⟩)
  have tb2 := TB (He.cT K ("law", none)) (List.mem_map.mpr ⟨("law", none), .tail _ (.head _), rfl⟩)
  have G_ord := ok_orders (T := TK K) v_law_orders_F tb1 (.head _) (fun p hp e => by
      rcases List.mem_cons.mp hp with rfl | hp
      · rfl
      · rcases List.mem_cons.mp hp with rfl | hp
        · exact absurd e.symm ne2
        · cases hp) R f_repr f_isinstance sys g_BadOver EC g_TreesError k_BadOver_TreesError e_BadOver_BadOver v_law_met_g v_law_met_F v_law_met_b v_law_is_g v_law_is_F.kp G_is v_law_is_b g_Ratio k_Ratio G_init bD vD t_Ratio_is_less G_less m_Ratio_is_less_b t_Ratio_divided G_div m_Ratio_divided_b M_eq G_eq m_Ratio_eq_b
  exact ⟨v_law_d, v_law_b, ok_law (T := TK K) v_law_F tb2 (.tail _ (.head _)) (fun p hp e => by
      rcases List.mem_cons.mp hp with rfl | hp
      · exact absurd e ne2
      · rcases List.mem_cons.mp hp with rfl | hp
        · rfl
        · cases hp) R f_range f_str f_isinstance g_BadOver EC g_TreesError k_BadOver_TreesError e_BadOver_BadOver v_law_met_g v_law_met_F v_law_met_b v_law_pen_of_g v_law_pen_of_F.kp G_pen v_law_pen_of_b v_law_whole_g v_law_whole_F.kp G_whole v_law_whole_b v_law_is_g v_law_is_F.kp G_is v_law_is_b
    v_law_sums_g v_law_sums_F.kp G_sums v_law_sums_b v_law_orders_g v_law_orders_F.kp G_ord v_law_orders_b g_Ratio k_Ratio G_init bI bD vD M_eq G_eq m_Ratio_eq_b M_st G_str m_Ratio_str_b⟩
end
end SK
namespace SK
open PySem PySem.Spec PyProof.Rows L2 LamX NdefX
abbrev RR : PySem.W.OpenRow := PySem.W.OpenLaw.row PySem.Challenge.rw_lettertrees_k24_ratios
def namesK : List Str := [("TreesError" : Str), ("BadOver" : Str), ("Ratio" : Str), ("as_ratio" : Str), ("_law_pen_of" : Str), ("_law_draw" : Str), ("_law_pick" : Str), ("_law_met" : Str), ("_law_whole" : Str), ("_law_divisor" : Str), ("_law_is" : Str), ("_law_sums" : Str), ("_law_orders" : Str)]
theorem runK (w : World) : HandSHeadRun.RunEqI RR (PySem.W.view RR.prog [0, 17]) hkK obK 20000 namesK w := by
  unfold HandSHeadRun.RunEqI
  kernel_rfl
end SK
open PySem PySem.W PySem.Calls PyProof.Rows
theorem PySem.Challenge.cw_lettertrees_k24_ratios_holds : PySem.Challenge.rw_lettertrees_k24_ratios.Holds := by
  w_on; o_law
  refine HandSHeadRun.head_imp (r := SK.RR) (q := view SK.RR.prog [0, 17]) (H := SK.hkK) (ob := SK.obK) (M := 20000) (loose := SK.namesK) (d := HandSHeadRun.topDef SK.RR.prog 17) (kwd := []) SK.obK_eq
    SK.runK (by kernel_rfl) (by kernel_rfl) (by kernel_rfl) (by rfl) (by first | assumption | decide +kernel) (by decide +kernel) ⟨rfl, rfl, rfl, rfl, rfl, by decide +kernel⟩ ?hw ?hc
  case hw => w_witness2
  case hc =>
    refine Att.attach_call (l := PySem.Challenge.rw_lettertrees_k24_ratios) (n := 63) rfl (by kernel_rfl) fun w s₀ s₁ mg mb fa o pm cd doc a vs ns G Y ho hd hcd hmg hobj hints hlen hg => ?_
    obtain ⟨K, KX, c⟩ := Y
    have hl : mg ("law" : PySem.Str) = some (.ref (He.ga K "law")) := SK.SaysK.glo c KX G.T.g 10 rfl
    have hmg' : mg ("law" : PySem.Str) = some (.ref fa) := by
      have e : (HandSHeadRun.topDef SK.RR.prog 17).name = ("law" : PySem.Str) := by kernel_rfl
      rw [← e]
      exact hmg
    rw [hmg'] at hl
    have ef : fa = He.ga K "law" := Value.ref.inj (Option.some.inj hl)
    rw [ef]
    have mem : ∀ P ∈ (SK.tabsK K).map (·.2), ∃ p ∈ SK.tf24, (He.cT K p).2 = P := fun P hP => by
      obtain ⟨q, hq, rfl⟩ := List.mem_map.mp hP
      obtain ⟨p, hp, rfl⟩ := List.mem_map.mp hq
      exact ⟨p, hp, rfl⟩
    refine SK.run_lawG (ps := SK.tabsK K) (T := SK.TK K) (K := K) (mg := mg) (mb := mb) (fun base Kb hm TB => SK.law_all c Kb hm TB) ⟨rfl, by decide, by decide⟩ (fun H a ns h1 h2 h3 => ⟨a, ns, rfl, h1, h2, h3, fun _ => rfl⟩) ?_ KX G.T.g G.T.b G.T.builtins G.T.nolimit hg (fun P hP => ?_) (fun P hP => ?_) (fun p hp => ?_) G.T.bmain hobj hints hlen
    · intro p hp
      simp only [SK.TK, List.mem_cons, List.mem_nil_iff, or_false] at hp
      rcases hp with rfl | rfl
      · exact List.mem_map.mpr ⟨_, List.mem_map.mpr ⟨("_law_orders", none), .head _, rfl⟩, rfl⟩
      · exact List.mem_map.mpr ⟨_, List.mem_map.mpr ⟨("law", none), .tail _ (.head _), rfl⟩, rfl⟩
    · obtain ⟨p, hp, rfl⟩ := mem P hP
      exact c.empty p hp
    · obtain ⟨p, hp, rfl⟩ := mem P hP
      exact c.out p hp
    · obtain ⟨q, hq, rfl⟩ := List.mem_map.mp hp
      exact codeHd_of_K KX (c.hd q hq)
