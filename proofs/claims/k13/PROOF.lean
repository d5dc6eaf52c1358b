import PyProof.Rows.All
import Wide.All
import OpenK.AllK
import Wide.FinOn
import HandS.ForSpec
import HandS.ExcInit
import KE.KExcIs
import HandS.IsInst
import HandS.ExcValue
import HandS.Dict
import HandS.SortKw
import KE.SortKeyHeap
import KE.SortCalls
import HandS.Comp
import HandS.Iter
import HandS.Nested
import HandS.Walk
import HandS.DictComp
import KE.GoesMore
import KE.GoesEnum
import HandS.Text
import HandS.Style
import HandS.WordsDict
import PyProof.StrLaws
import HandS.Strs
import HandS.SetTxt0
import HandS.Steps
import HandS.Conv
import HandS.TryMany
import HandS.ExcField
import HandS.ExcIs
import PyProof.Rows.RegReprOcc
import HandS.Replace
import HandS.Deep
import PyProof.Rows.StrMul
import PyProof.Rows.StrJoinRep
import HandS.EndTab
import KE.KStateDown
import Lean
import HandS.Defaults
import HandS.Head0
import HandS.Head1
import HandS.Head2
import HandS.HeadEnd
import HandS.HeadHook4
import PySem.Challenge.RW_lettertrees_k13_trees_refused
set_option Elab.async false
set_option linter.all false
set_option maxRecDepth 100000
set_option maxHeartbeats 0
/-! ### calls of an own exception class with keywords: the boot's __new__ takes any, the own __init__ gets them -/
namespace K0
open PySem PySem.W PySem.Calls PySem.HandSPX
section
variable {M : Model} {A : Around} {E : Value → Shared → Prop} {h : Heap} {g : Array GenState} {d : Drawn} {t : Nat} {os : OsState}
variable {nm q : Str} {C N : Addr} {bs bm bmB : List Value} {hdct : Bool} {sn : List Str} {sub : List Value} {ab : Bool} {col : Option Bool} {dd : Option Addr}
variable {k0 k1 k2 k3 k5 : Option Value} {B newId initId : String}

theorem kw_check_new (F : ExcBaseFacts B newId initId bmB) (hT : ∀ X : String, bm.contains (.type X) = bmB.contains (.type X)) {rest : List Value} {kw : List (Str × Value)} {Q : Unit → Shared → Prop}
    (hC : h.get? C = some (excClassObj nm q C N bs bm hdct sn sub ab col dd k0 k1 k2 k3 k5 newId)) (hq : Q () ⟨h, g, d, t, os⟩) :
    wpAny M A (checkBuiltinCall newId ⟨.ref C :: rest, kw⟩) Q E ⟨h, g, d, t, os⟩ := by
  have hB : (Value.ref C :: bm).contains (.type B) = true := by
    rw [List.contains_cons, hT, F.hasB, Bool.or_true]
  have hs := F.noStar
  simp only [checkBuiltinCall, F.newKind, F.newSplit, F.newRow]
  repeat
    first
    | refine wpAny_loadPart_at hC ?_
    | (refine wpAny_isSubtype_exc hC ?_
       rw [hB])
    | refine wpAny_staticBase_exc hC ?_
    | refine wpAny_madeBy_exc hC ?_
    | simp only [bne_self_eq_false, Bool.false_eq_true, if_false]
    | wp_step
  exact hq
end
section
variable {prog : Program} {w : World} {A : Around} {E : Value → Shared → Prop} {R : Result → Shared → Prop} {h : Heap} {g : Array GenState} {d : Drawn} {t : Nat} {os : OsState}
variable {nm q : Str} {C N : Addr} {bs bm bmB : List Value} {hdct : Bool} {sn : List Str} {sub : List Value} {ab : Bool} {col : Option Bool} {dd : Option Addr}
variable {k0 k1 k2 k3 k5 : Option Value} {B newId initId : String}

/-- the heap with a new exception of the class at C, its args behind it -/
abbrev twoMore (h : Heap) (C : Addr) (rest : List Value) : Heap := (h.push (W.kdv_tup rest)).push (excO C h.objs.size)

theorem kw_new (F : ExcBaseFacts B newId initId bmB) (hT : ∀ X : String, bm.contains (.type X) = bmB.contains (.type X)) {rest : List Value} {kw : List (Str × Value)}
    (hC : h.get? C = some (excClassObj nm q C N bs bm hdct sn sub ab col dd k0 k1 k2 k3 k5 newId))
    (hq : R (.ok (.ret (.ref (h.objs.size + 1)))) ⟨twoMore h C rest, g, d, t, os⟩) (hz : rest.length ≤ sizeLine) :
    codeAny (model prog w) A (.builtin newId ⟨.ref C :: rest, kw⟩) R ⟨h, g, d, t, os⟩ := by
  have e0 := F.ends
  have cB : (Value.ref C :: bm).contains (.type B) = true := by
    rw [List.contains_cons, hT, F.hasB, Bool.or_true]
  have cA : (Value.ref C :: bm).contains (.type "AttributeError") = false := by
    rw [List.contains_cons, hT, F.noAttr] <;> rfl
  have cN : (Value.ref C :: bm).contains (.type "NameError") = false := by
    rw [List.contains_cons, hT, F.noName] <;> rfl
  refine codeAny_builtinAt F.entry ?_
  unfold Builtin.«BaseException.__new__»
  refine wpAt_bind ?_
  show wpAt _ _ _ (stack >>= _) _ _ _
  refine wpAt_bind (wpAt_stack fun p below => wpAt_of_wpAny ?_)
  wp_walk
  refine wpAt_of_wpAny ?_
  rw [F.owner]
  repeat
    first
    | with_reducible refine wpAny_madeHere_exc F.canon hC ?_
    | with_reducible refine wpAny_loadPart_at hC ?_
    | (with_reducible refine wpAny_isSubtype_exc hC ?_
       first | rw [cB] | rw [cA] | rw [cN])
    | wp_step
  show R _ _
  rw [Heap.size_push]
  exact hq

theorem kw_typeCall (F : ExcBaseFacts B newId initId bmB) (hT : ∀ X : String, bm.contains (.type X) = bmB.contains (.type X)) {rest : List Value} {kw : List (Str × Value)} {fI : Addr} {Q : Fin → Shared → Prop}
    (hC : h.get? C = some (excClassObj nm q C N bs bm hdct sn sub ab col dd k0 k1 k2 k3 k5 newId))
    (hi : W.Looks (model prog w) h (typeLookup (.ref C) "__init__") (some (.ref fI))) (hb : ∀ self, W.Looks (model prog w) h (bindSpecial (.ref fI) self) (.ref fI, [self])) (hz : rest.length ≤ sizeLine)
    (hq : codeAny (model prog w) A (.call (.ref fI) ⟨.ref (h.objs.size + 1) :: rest, kw⟩)
      (fun r s' => match r with | .ok (.ret v) => v = .none ∧ Q (.done (.ret (.ref (h.objs.size + 1)))) s' | .ok _ => False | .error e => E e s') ⟨twoMore h C rest, g, d, t, os⟩) :
    wpAny (model prog w) A (Builtin.«type.__call__» ⟨.ref C :: rest, kw⟩) Q E ⟨h, g, d, t, os⟩ := by
  repeat
    first
    | with_reducible refine wpAny_loadPart_at hC ?_
    | with_reducible refine wpAny_madeBy_exc hC ?_
    | wp_step
  refine codeAny_call_builtin_code (Code.quiet_builtin _ F.quiet) (kw_check_new F hT hC ?_)
  refine kw_new F hT hC ?_ hz
  show wpAny _ _ _ _ _ _
  have k : ∀ b o, h.get? b = some o → (twoMore h C rest).get? b = some o := fun b o e => Heap.get?_push_of_some _ (Heap.get?_push_of_some _ e)
  have hC1 := k _ _ hC
  have hx : (twoMore h C rest).get? (h.objs.size + 1) = some (excO C h.objs.size) := by heap_get
  have cC : (Value.ref C :: bm).contains (.ref C) = true := by simp
  have i1 := hi.keeps k
  have b1 := (hb (.ref (h.objs.size + 1))).keeps k
  unfold isInstance
  repeat
    first
    | with_reducible refine wpAny_loadPart_at hx ?_
    | (with_reducible refine wpAny_isSubtype_exc hC1 ?_
       rw [cC])
    | wp_step
  show wpAny _ _ (typeLookup (.ref C) _) _ _ _
  refine i1.at ?_
  refine wpAny_holding (wpAny_bind (b1.at ?_))
  refine wpAny_bind (wpAny_call (codeAny_mono hq fun r s' z => ?_))
  cases r with
  | error e => exact z
  | ok f =>
    cases f with
    | ret v =>
      obtain ⟨rfl, z⟩ := z
      first
      | exact wpAny_pure (wpAny_pure z)
      | (wp_walk
         exact z)
    | next => exact z.elim
    | brk => exact z.elim
    | cont => exact z.elim

theorem kw_checkCall {M : Model} {rest : List Value} {kw : List (Str × Value)} {Q : Unit → Shared → Prop} (hC : h.get? C = some (excClassObj nm q C N bs bm hdct sn sub ab col dd k0 k1 k2 k3 k5 newId))
    (hq : Q () ⟨h, g, d, t, os⟩) : wpAny M A (checkBuiltinCall "type.__call__" ⟨.ref C :: rest, kw⟩) Q E ⟨h, g, d, t, os⟩ := by
  have e3 := tc_sub
  have ty : (⟨h, g, d, t, os⟩ : Shared).TypeIs (.ref C) "type" := ⟨_, hC, rfl⟩
  simp only [checkBuiltinCall, tc_kind, tc_split]
  repeat (any_goals (first
    | assumption
    | with_reducible refine wpAny_loadPart_at hC ?_
    | with_reducible refine wpAny_onRaise ?_
    | with_reducible refine wpAny_map ?_
    | wp_step))

theorem kw_call (F : ExcBaseFacts B newId initId bmB) (hT : ∀ X : String, bm.contains (.type X) = bmB.contains (.type X)) {rest : List Value} {kw : List (Str × Value)} {fI : Addr}
    (hC : h.get? C = some (excClassObj nm q C N bs bm hdct sn sub ab col dd k0 k1 k2 k3 k5 newId))
    (hi : W.Looks (model prog w) h (typeLookup (.ref C) "__init__") (some (.ref fI))) (hb : ∀ self, W.Looks (model prog w) h (bindSpecial (.ref fI) self) (.ref fI, [self])) (hz : rest.length ≤ sizeLine)
    (hq : codeAny (model prog w) (A.under (.builtin "type.__call__" ⟨.ref C :: rest, kw⟩)) (.call (.ref fI) ⟨.ref (h.objs.size + 1) :: rest, kw⟩) (W.InitBack (h.objs.size + 1) R) ⟨twoMore h C rest, g, d, t, os⟩) :
    codeAny (model prog w) A (.call (.ref C) ⟨rest, kw⟩) R ⟨h, g, d, t, os⟩ := by
  have f1 := tc_lookup
  have f2 := tc_bind (.ref C)
  have ty : (⟨h, g, d, t, os⟩ : Shared).TypeIs (.ref C) "type" := ⟨_, hC, rfl⟩
  refine codeAny_of_tree ?_
  show wpAny _ _ (callAny (.ref C) _) _ _ _
  repeat (any_goals (first
    | assumption
    | with_reducible refine wpAny_loadPart_at hC ?_
    | wp_step))
  refine ⟨rfl, ?_⟩
  refine codeAny_call_builtin_at (Code.quiet_builtin _ (by decide +kernel)) entry_typeCall (kw_checkCall hC (kw_typeCall F hT hC hi hb hz ?_))
  refine codeAny_mono hq fun r s' z => ?_
  cases r with
  | error e => exact z
  | ok f => cases f <;> exact z
end
end K0
namespace K0
open PySem PySem.Spec PyProof.Rows L2
abbrev St := L2.St
section
variable {X : Cx} {pins : List (Addr × Obj)} {σ : St} {H H' : Hp} {s : Shared}
/-- things told by what is true of their one object may be forgotten -/
theorem forget (I : Inv X pins σ H' s) (sub : ∀ b o, H b = some o → H' b = some o) (ext : ∀ b o, H' b = some o → H b = some o ∨ ∃ φ, o = HO.ext φ) : Inv X pins σ H s := by
  have fr : ∀ b, H' b = none → H b = none := fun b n => by
    cases q : H b with
    | none => rfl
    | some o =>
      rw [sub b o q] at n
      cases n
  have back : ∀ b o, H' b = some o → (∀ φ, o ≠ HO.ext φ) → H b = some o := fun b o q n => by
    rcases ext b o q with z | ⟨φ, z⟩
    · exact z
    · exact absurd z (n φ)
  refine ⟨I.ok, I.os, I.bare, ⟨I.base.keep, I.base.slot, fun b o e n hx => fr b (I.base.free b o e n hx), I.base.there, fun b xs q => ?_, fun b o u q => ?_, fun b ps q => ?_⟩, I.loc, I.cell, fr _ I.free, fun x c e => fr c (I.freeC x c e), fun p hp => ?_, fun b o q => ?_, I.len⟩
  · exact back b _ (I.base.tups b xs q) (fun φ z => nomatch z)
  · exact back b _ (I.base.frzs b o u q) (fun φ z => nomatch z)
  · obtain ⟨m, z⟩ := I.base.tbls b ps q
    exact ⟨m, back b _ z (fun φ z => nomatch z)⟩
  · obtain ⟨h1, h2, h3, h4, h5⟩ := I.pin p hp
    exact ⟨h1, fr _ h2, h3, h4, h5⟩
  · exact (I.hok b o (sub b o q)).stay (fun c v _ z => z) (fun c z => back c _ z (fun φ z => nomatch z)) fun c xs z => back c _ z (fun φ z => nomatch z)
end

/-! ### an exception of an own class with its own __init__ -/
structure XCl (K : PySem.W.Frag) (C : Addr) : Prop where
  T : OexC K C
  ga : PySem.W.findIn K (.ref C) "__getattribute__" = some (some (.builtin "BaseException.__getattribute__"))
  gg : PySem.W.findIn K (.ref C) "__getattr__" = some none
  hd : PySem.W.hasDictIn K C = true
  ha : PySem.W.findIn K (.ref C) "__class__" = some (some (.builtin "object.__class__"))
  hn : PySem.W.specialIn K (.builtin "object.__class__") "__get__" = some (some (.builtin "getset_descriptor.__get__"))
  ht : PySem.W.takesIn K (.builtin "object.__class__") = some true
  hm : PySem.W.mroIn K C (.type "object") = some true
/-- the heap with an exception of C at a, its dict of the fields fs at dx -/
abbrev withX (H : Hp) (C a dx : Addr) (fs : List (Str × V)) : Hp := upd (upd H dx (exd dx fs)) a (exo a C (some dx))
/-- what such an __init__ does: the fields fs get the arguments -/
def spX (C : Addr) (fs : List Str) : Sp := fun vs H Q _ => ∃ (a : Addr) (ys : List V), vs = .ref a :: ys ∧ ys.length = fs.length ∧ H a = some (exo a C none) ∧
  ∀ dx, H dx = none → dx ≠ a → Q .non (withX H C a dx (fs.zip ys).reverse)
theorem withX_sub {H : Hp} {C a dx : Addr} {fs : List (Str × V)} (ha : H a = none) (hd : H dx = none) : ∀ b o, H b = some o → withX H C a dx fs b = some o := fun b o e => by
  show upd (upd H dx _) a _ b = some o
  rw [upd_ne (ne_of_none e ha), upd_ne (ne_of_none e hd)]
  exact e
theorem withX_ext {H : Hp} {C a dx : Addr} {fs : List (Str × V)} : ∀ b o, withX H C a dx fs b = some o → H b = some o ∨ ∃ φ, o = HO.ext φ := fun b o e => by
  have e' : upd (upd H dx (exd dx fs)) a (exo a C (some dx)) b = some o := e
  by_cases hb : b = a
  · subst hb
    rw [upd_same] at e'
    exact .inr ⟨_, (Option.some.inj e').symm⟩
  · rw [upd_ne hb] at e'
    by_cases hd : b = dx
    · subst hd
      rw [upd_same] at e'
      exact .inr ⟨_, (Option.some.inj e').symm⟩
    · rw [upd_ne hd] at e'
      exact .inl e'
section
variable {X : Cx} {k : Nat} {f C : Addr} {fd : FuncData} {ps : List Str} {sp : Sp}
theorem run_mx {pins : List (Addr × Obj)} {σ : St} {H : Hp} {s : Shared} {Q : VK} {us args : List Value} {kw : List (Str × Value)} {vs : List V} (T : OexC X.K C) (iC : PySem.W.findIn X.K (.ref C) "__init__" = some (some (.ref f)))
    (tI : PySem.W.typeIn X.K (.ref f) = some (.type "function")) (F : FnOk X.prog X.w X.K X.mg X.base CX0 k f fd ps sp) (hr : Room (k + 1) X.A)
    (hb : ∀ (s : Shared) (self : Value), X.K.In s.heap → BindsTo s fd ⟨self :: us, kw⟩ (ps.zip (self :: args))) (I : Inv X pins σ H s) (hz : us.length ≤ sizeLine) (r : Vals vs args)
    (h : ∀ a, H a = none → sp (.ref a :: vs) (upd H a (exo a C none)) (fun v H2 => v = .non ∧ Q (.ref a) H2) E0) :
    wpAny (model X.prog X.w) X.A (call (.ref C) us kw) (EP X pins σ Q) X.xe s := by
  obtain ⟨nm, q, N, bs, bm, sn, sub, ab, col, dd, k0, k1, k2, k3, k5, hC, hbm⟩ := T.cls
  obtain ⟨hp, g, dr, tk, os⟩ := s
  have up : hp.objs.size ≤ hp.objs.size + 1 := Nat.le_succ _
  have hq := h (hp.objs.size + 1) (I.hok.fresh up)
  have keep : ∀ b o, hp.get? b = some o → (twoMore hp C us).get? b = some o := fun b o e => Heap.get?_push_of_some _ (Heap.get?_push_of_some _ e)
  have there : (twoMore hp C us).get? (hp.objs.size + 1) = some (PySem.HandSPX.excO C hp.objs.size) := by heap_get
  have I2 : Inv X pins σ (upd H (hp.objs.size + 1) (exo (hp.objs.size + 1) C none)) ⟨twoMore hp C us, g, dr, tk, os⟩ := I.laid (t' := tk) keep up (exo_ok there)
  have r2 : Vals (V.ref (hp.objs.size + 1) :: vs) (Value.ref (hp.objs.size + 1) :: args) := .cons rfl r
  refine wpAny_call (kw_call PySem.F.excBase_ValueError (fun Y => PySem.HandSPX.refsVE_contains Y bm hbm) (I.kIn _ _ hC) (PySem.W.looks_findIn I.kIn iC) (fun self => PySem.W.bind_fn I.kIn self tI) hz
    (codeAny_mono (F.run _ X.stack _ _ ⟨Value.ref (hp.objs.size + 1) :: us, kw⟩ _ _ _ E0 (hr.make C us kw) (I2.env0.make C us kw) (hb _ _ I2.kIn) r2 hq) fun r s' hq' => ?_))
  cases r with
  | error er => exact hq'.elim
  | ok fl =>
    cases fl with
    | ret u =>
      obtain ⟨v, H3, I3, rv, ev, q3⟩ := I2.after hq'
      subst ev
      exact ⟨rv, ⟨V.ref (hp.objs.size + 1), H3, I3, rfl, q3⟩⟩
    | next => exact False.elim hq'
    | brk => exact False.elim hq'
    | cont => exact False.elim hq'
/-- the class made, its fields kept: as a value -/
theorem run_mv {fs : List Str} {pins : List (Addr × Obj)} {σ : St} {H : Hp} {s : Shared} {Q : VK} {us args : List Value} {kw : List (Str × Value)} {vs : List V} (T : OexC X.K C) (iC : PySem.W.findIn X.K (.ref C) "__init__" = some (some (.ref f)))
    (tI : PySem.W.typeIn X.K (.ref f) = some (.type "function")) (F : FnOk X.prog X.w X.K X.mg X.base CX0 k f fd ps (spX C fs)) (hr : Room (k + 1) X.A)
    (hb : ∀ (s : Shared) (self : Value), X.K.In s.heap → BindsTo s fd ⟨self :: us, kw⟩ (ps.zip (self :: args))) (I : Inv X pins σ H s) (hz : us.length ≤ sizeLine) (r : Vals vs args) (hl : vs.length = fs.length)
    (h : ∀ a dx, H a = none → H dx = none → dx ≠ a → Q (.ref a) (withX H C a dx (fs.zip vs).reverse)) :
    wpAny (model X.prog X.w) X.A (call (.ref C) us kw) (EP X pins σ Q) X.xe s := by
  refine run_mx T iC tI F hr hb I hz r fun a na => ⟨a, vs, rfl, hl, upd_same, fun dx nd ne => ⟨rfl, ?_⟩⟩
  have nd' : H dx = none := by
    rw [upd_ne ne] at nd
    exact nd
  have e : withX (upd H a (exo a C none)) C a dx (fs.zip vs).reverse = withX H C a dx (fs.zip vs).reverse := by
    funext b
    show upd (upd (upd H a _) dx _) a _ b = upd (upd H dx _) a _ b
    by_cases hb : b = a
    · rw [hb, upd_same, upd_same]
    · rw [upd_ne hb, upd_ne hb]
      by_cases hd : b = dx
      · rw [hd, upd_same, upd_same]
      · rw [upd_ne hd, upd_ne hd, upd_ne hb]
  rw [e]
  exact h a dx na nd' ne
end
end K0
namespace K0
open PySem PySem.Spec PyProof.Rows L2
section
variable {X : Cx} {k : Nat} {f C : Addr} {fd : FuncData} {ps : List Str} {fs : List Str} {x n : Str} {e : Expr} {es : List Expr} {ta : TA} {te : TE} {p pos pos' : Pos} {kws : List Keyword}
/-- what the top says of such a class and its __init__ -/
structure XMk (X : Cx) (x : Str) (C : Addr) (fs : List Str) : Prop where
  cl : XCl X.K C
  gC : X.mg x = some (.ref C)
  ini : ∃ f fd k, PySem.W.findIn X.K (.ref C) "__init__" = some (some (.ref f)) ∧ PySem.W.typeIn X.K (.ref f) = some (.type "function") ∧ FnOk X.prog X.w X.K X.mg X.base CX0 k f fd (("self" : Str) :: fs) (spX C fs) ∧ Room (k + 1) X.A ∧
    (∀ (s : Shared) (self : Value) (us : List Value), us.length = fs.length → BindsTo s fd ⟨self :: us, []⟩ ((("self" : Str) :: fs).zip (self :: us))) ∧
    (∀ (s : Shared) (self : Value) (us : List Value), us.length = fs.length → BindsTo s fd ⟨[self], fs.zip us⟩ ((("self" : Str) :: fs).zip (self :: us)))
/-- C(e, ..) : whatever is asked of the arguments and the heap there, the new exception stands behind it -/
structure PX (X : Cx) (e : Expr) (C : Addr) (fs : List Str) (ta : TA) : Prop where
  run : ∀ (pins : List (Addr × Obj)) (s : Shared) (σ : St) (H : Hp) (P : List V → Hp → Prop), Inv X pins σ H s → (ta σ H fun vs H1 => vs.length = fs.length ∧ vs.length ≤ 1000 ∧ P vs H1) →
    wpAny (model X.prog X.w) X.A (eval e X.env) (fun u s1 => ∃ (vs : List V) (H1 : Hp) (a dx : Addr), u = .ref a ∧ H1 a = none ∧ H1 dx = none ∧ dx ≠ a ∧ Inv X pins σ (withX H1 C a dx (fs.zip vs).reverse) s1 ∧ P vs H1) X.xe s
theorem us_small {vs : List V} {us : List Value} (r : Vals vs us) (h : vs.length ≤ 1000) : us.length ≤ sizeLine := by
  rw [← Paired.length r, sizeLine_eq]
  omega
theorem px_pos (M : XMk X x C fs) (hg : Gl X x) (ha : PA X (e :: es) ta) (hdb : (x == ("__debug__" : Str)) = false := by decide)
    (he : starEach (e :: es) X.env = (false, eval e X.env) :: starEach es X.env := by rfl) (hpl : (backTo pos (starEach es X.env)).any (·.1) = false := by rfl) :
    PX X (.Call (.Name x p) (e :: es) [] pos) C fs ta := by
  refine ⟨fun pins s σ H P I h => ?_⟩
  obtain ⟨f, fd, k, iC, tI, F, hr, b1, _⟩ := M.ini
  refine wpAny_Call_Name_kw (ld_glob I hg M.gC ?_ hdb)
  refine PySem.W.callWith_K (h₀ := X.base) I.ok.mod.kin M.cl.T.kC (thn (ha.run pos pins s σ H _ I h) fun us s1 ⟨vs, H1, I1, r, hl, hz, q⟩ => ⟨I1.kIn, ?_⟩) he hpl
  refine thn (run_mv (fs := fs) (Q := fun v H2 => ∃ a dx, v = .ref a ∧ H1 a = none ∧ H1 dx = none ∧ dx ≠ a ∧ H2 = withX H1 C a dx (fs.zip vs).reverse) M.cl.T iC tI F hr (fun s self _ => b1 s self us (r.length.symm.trans hl)) I1 (us_small r hz) r hl
    fun a dx na nd ne => ⟨a, dx, rfl, na, nd, ne, rfl⟩) fun u s2 ⟨v, H2, I2, rv, a, dx, ev, na, nd, ne, eH⟩ => ?_
  subst ev eH
  exact ⟨vs, H1, a, dx, rv, na, nd, ne, I2, q⟩
theorem px_kw (M : XMk X x C fs) (hg : Gl X x) (hkw : PK X kws ta) (hall : (backToKw pos (keywordEach kws X.env)).all (·.1.isSome) = true := by rfl) (hks : (backToKw pos (keywordEach kws X.env)).filterMap (·.1) = fs := by rfl)
    (hdb : (x == ("__debug__" : Str)) = false := by decide) (hpl : ((backTo pos (starEach [] X.env)).any (·.1) || (backToKw pos (keywordEach kws X.env)).any (·.1.isNone)) = false := by rfl) :
    PX X (.Call (.Name x p) [] kws pos) C fs ta := by
  refine ⟨fun pins s σ H P I h => ?_⟩
  obtain ⟨f, fd, k, iC, tI, F, hr, _, b2⟩ := M.ini
  refine wpAny_Call_Name_kw (ld_glob I hg M.gC ?_ hdb)
  refine PySem.W.callWith_KW0 (h₀ := X.base) I.ok.mod.kin M.cl.T.kC hall (thn (hkw.run pos pins s σ H _ I h) fun us s1 ⟨vs, H1, I1, r, hl, hz, q⟩ => ⟨I1.kIn, ?_⟩) hpl
  rw [hks]
  refine thn (run_mv (fs := fs) (us := []) (Q := fun v H2 => ∃ a dx, v = .ref a ∧ H1 a = none ∧ H1 dx = none ∧ dx ≠ a ∧ H2 = withX H1 C a dx (fs.zip vs).reverse) M.cl.T iC tI F hr (fun s self _ => b2 s self us (r.length.symm.trans hl)) I1 (Nat.zero_le _) r hl
    fun a dx na nd ne => ⟨a, dx, rfl, na, nd, ne, rfl⟩) fun u s2 ⟨v, H2, I2, rv, a, dx, ev, na, nd, ne, eH⟩ => ?_
  subst ev eH
  exact ⟨vs, H1, a, dx, rv, na, nd, ne, I2, q⟩
/-- C(e, ..) as a value -/
def tMx (C : Addr) (fs : List Str) (ta : TA) : TE := fun σ H Q => ta σ H fun vs H1 => vs.length = fs.length ∧ vs.length ≤ 1000 ∧ ∀ a dx, H1 a = none → H1 dx = none → dx ≠ a → Q (.ref a) (withX H1 C a dx (fs.zip vs).reverse)
theorem pe_mx (h : PX X e C fs ta) : PE X e (tMx C fs ta) := by
  refine ⟨fun pins s σ H Q I h0 => thn (h.run pins s σ H _ I h0) fun u s1 hh => ?_⟩
  obtain ⟨vs, H1, a, dx, rfl, na, nd, ne, I1, q⟩ := hh
  exact ⟨.ref a, _, I1, rfl, q a dx na nd ne⟩
/-- C(e, ..).n: the exception itself is let go -/
def tFx (fs : List Str) (n : Str) (ta : TA) : TE := fun σ H Q => ta σ H fun vs H1 => vs.length = fs.length ∧ vs.length ≤ 1000 ∧ ∃ v, (fs.zip vs).reverse.lookup n = some v ∧ Q v H1
theorem pe_fx (cl : XCl X.K C) (hno : PySem.W.findIn X.K (.ref C) n = some none) (h : PX X e C fs ta) (hb : attributeBase e n X.env (eval e X.env) = eval e X.env := by rfl) : PE X (.Attribute e n pos) (tFx fs n ta) := by
  refine ⟨fun pins s σ H Q I h0 => attr_of hb (thn (h.run pins s σ H _ I h0) fun u s1 hh => ?_)⟩
  obtain ⟨vs, H1, a, dx, rfl, na, nd, ne, I1, v, l, q⟩ := hh
  have ea : withX H1 C a dx (fs.zip vs).reverse a = some (exo a C (some dx)) := upd_same
  have ed : withX H1 C a dx (fs.zip vs).reverse dx = some (exd dx (fs.zip vs).reverse) := (upd_ne ne).trans upd_same
  obtain ⟨t1, ho⟩ := exo_at I1.hok ea
  obtain ⟨mA, hns, rel⟩ := exd_at I1.hok ed
  obtain ⟨od, hd, hl⟩ := lookIn_ns hns
  obtain ⟨u, hu, ru⟩ := RelO.some_of (v := v) (o := mA n) (by rw [← l]; exact rel n)
  have J : PySem.W.InstAt s1.heap a _ C (some od) := ⟨ho, rfl, rfl, hd⟩
  exact PySem.HandSPX.exc_get I1.kIn J cl.ga cl.gg cl.T.exC (PySem.W.findObj_own cl.hd hno rfl (by rw [hl, hu])) (handed_of ru) ⟨v, H1, (forget I1 (withX_sub na nd) withX_ext).tok _, ru, q⟩
/-! ### C(), a class without an own __init__ -/
theorem pe_m0 {newId initId B : String} {bmB : List Value} (F : ExcBaseFacts B newId initId bmB) (q : PySem.W.excIn X.K C bmB newId = true) (gC : X.mg x = some (.ref C)) (kC : PySem.W.keepIn X.K (.ref C) = true) (hg : Gl X x) (hdb : (x == ("__debug__" : Str)) = false := by decide) :
    PE X (.Call (.Name x p) [] [] pos) (fun _ H Q => ∀ a, H a = none → Q (.ref a) (upd H a (exo a C none))) := by
  refine ⟨fun pins s σ H Q I h => ?_⟩
  refine wpAny_Call_Name_kw (ld_glob I hg gC ?_ hdb)
  refine PySem.W.callWith_K0 I.kIn kC ?_
  show wpAny _ _ (call (.ref C) []) _ _ _
  obtain ⟨bm, N, nm, qn, bs, hdct, sn, sub, ab, col, dd, k0, k1, k2, k3, k5, mN, hC, hN, hni, T⟩ := exc_obj I.kIn q
  refine wpAny_call_exc_subT F T hC hN hni (fun h' a hm => ?_) (Nat.zero_le _)
  have hn : H a = none := I.hok.gone hm.new
  obtain ⟨t, ht, _, _⟩ := hm.there
  exact ⟨.ref a, upd H a (exo a C none), I.laidN hm.keeps hm.new hn (exo_ok ht), rfl, h a hn⟩
/-! ### isinstance(e, c), e such an exception -/
def rIsx (K : PySem.W.Frag) : List V → Hp → VK → Prop := fun xs H Q => ∃ (a D : Addr) (c : V) (u : Value) (b : Bool), xs = [.ref a, c] ∧ ClsV c u ∧ XCl K D ∧ (H a = some (exo a D none) ∨ ∃ dx gs, H a = some (exo a D (some dx)) ∧ H dx = some (exd dx gs)) ∧
  PySem.W.kitOne K (.ref D) u = some b ∧ Q (.bl b) H
theorem call_isx : CallR X (.builtin "isinstance") (rIsx X.K) := by
  intro pins s σ H xs us Q I r h
  obtain ⟨a, D, c, u, b, rfl, k, cl, ha, e, q⟩ := h
  obtain ⟨u1, u2, rfl, r1, r2⟩ := vals2 r
  obtain rfl : u1 = Value.ref a := r1
  have e2 := k.eq r2
  subst e2
  have hc : (PySem.W.clsIn X.K D).isSome = true := by
    obtain ⟨cd, hcd, _⟩ := PySem.W.any_some cl.hd
    rw [hcd]
    rfl
  have J : ∃ ox od, PySem.W.InstAt s.heap a ox D od := by
    rcases ha with ha | ⟨dx, gs, ha, hd⟩
    · obtain ⟨t1, ho⟩ := exo_at I.hok ha
      exact ⟨_, none, ho, rfl, rfl, trivial⟩
    · obtain ⟨t1, ho⟩ := exo_at I.hok ha
      obtain ⟨mA, hns, rel⟩ := exd_at I.hok hd
      obtain ⟨od, hd, hl⟩ := lookIn_ns hns
      exact ⟨_, some od, ho, rfl, rfl, hd⟩
  obtain ⟨ox, od, J⟩ := J
  exact PySem.W.kia_one (PySem.W.kitx_exc (ox := ox) (od := od) hc cl.ga cl.gg cl.T.exC cl.ha cl.hn cl.ht cl.hm) I.kIn J e (fun z => nomatch z) fun tk => ⟨.bl b, H, I.tok tk, rfl, q⟩
end
/-! ### repr of data with empty dicts -/
mutual
inductive De (K : PySem.W.Frag) (H : Hp) : V → PyData → Prop
  | non : De K H .non .none
  | bl (b : Bool) : De K H (.bl b) (.bool b)
  | int (i : Int) : De K H (.int i) (.int i)
  | str (x : Str) : De K H (.str x) (.str x)
  | lst {a : Addr} {xs : List V} {ds : List PyData} : H a = some (.lst xs) → DeAll K H xs ds → De K H (.ref a) (.list ds)
  | tup {a : Addr} {xs : List V} {ds : List PyData} : H a = some (.tup xs) → DeAll K H xs ds → De K H (.ref a) (.tuple ds)
  | dic {a : Addr} : H a = some (.dK []) → De K H (.ref a) (.dict [])
inductive DeAll (K : PySem.W.Frag) (H : Hp) : List V → List PyData → Prop
  | nil : DeAll K H [] []
  | cons {v : V} {vs : List V} {d : PyData} {ds : List PyData} : De K H v d → DeAll K H vs ds → DeAll K H (v :: vs) (d :: ds)
end
section
variable {X : Cx} {pins : List (Addr × Obj)} {σ : St} {H : Hp} {s : Shared}
theorem off {a : Addr} {o : HO} (hs : H sysModules = none) (h : H a = some o) : sysModules ≠ a := fun e => by
  rw [← e, hs] at h
  cases h
mutual
theorem de_reads (I : Inv X pins σ H s) (hs : H sysModules = none) : ∀ (d : PyData) (v : V) (u : Value), De X.K H v d → RelV v u → ∃ as, Reads s.heap u d as ∧ sysModules ∉ as
  | .none, _, _, h, r => by
    cases h
    obtain rfl : _ = Value.none := r
    exact ⟨_, Reads.none, by simp⟩
  | .bool b, _, _, h, r => by
    cases h
    obtain rfl : _ = Value.bool b := r
    exact ⟨_, Reads.bool b, by simp⟩
  | .int i, _, _, h, r => by
    cases h
    obtain ⟨t, rfl⟩ := r
    exact ⟨_, Reads.int i t, by simp⟩
  | .str x, _, _, h, r => by
    cases h
    obtain ⟨t, rfl⟩ := r
    exact ⟨_, Reads.str x t, by simp⟩
  | .list ds, _, _, h, r => by
    cases h with
    | @lst a xs _ ha hd =>
      obtain rfl : _ = Value.ref a := r
      obtain ⟨_, its, n, rv, ho⟩ := (show ObjOk X.prog X.w H s.heap a (.lst xs) from I.hok a _ ha)
      obtain ⟨as, hr, hn⟩ := de_all I hs ds xs its hd rv
      refine ⟨_, Reads.list ho rfl rfl hr, fun z => ?_⟩
      rcases List.mem_cons.mp z with z | z
      · exact off hs ha z
      · exact hn z
  | .tuple ds, _, _, h, r => by
    cases h with
    | @tup a xs _ ha hd =>
      obtain rfl : _ = Value.ref a := r
      obtain ⟨_, its, rv, o, ho, hc, n, hd2⟩ := (show ObjOk X.prog X.w H s.heap a (.tup xs) from I.hok a _ ha)
      obtain ⟨as, hr, hn⟩ := de_all I hs ds xs its hd rv
      exact ⟨_, Reads.tuple ho hc hd2 hr, hn⟩
  | .dict _, _, _, h, r => by
    cases h with
    | @dic a ha =>
      obtain rfl : _ = Value.ref a := r
      obtain ⟨_, _, vs, rv, o, es, ep, ho, hx, hd, _, hp, _⟩ := (show ObjOk X.prog X.w H s.heap a (.dK []) from I.hok a _ ha)
      cases rv
      have e0 : es.toList = [] := by
        have z := hp.length
        exact List.eq_nil_of_length_eq_zero z
      refine ⟨_, Reads.dict (as := []) (bs := []) ho hx.1 hd (by rw [e0]; exact ReadsAll.nil) (by rw [e0]; exact ReadsAll.nil), fun z => ?_⟩
      simp at z
      exact off hs ha z
theorem de_all (I : Inv X pins σ H s) (hs : H sysModules = none) : ∀ (ds : List PyData) (vs : List V) (us : List Value), DeAll X.K H vs ds → Vals vs us → ∃ as, ReadsAll s.heap us ds as ∧ sysModules ∉ as
  | [], _, _, h, r => by
    cases h
    cases r
    exact ⟨_, ReadsAll.nil, by simp⟩
  | d :: ds, _, _, h, r => by
    cases h with
    | cons h1 h2 =>
      cases r with
      | cons r1 r2 =>
        obtain ⟨as, q1, n1⟩ := de_reads I hs d _ _ h1 r1
        obtain ⟨bs, q2, n2⟩ := de_all I hs ds _ _ h2 r2
        exact ⟨_, ReadsAll.cons q1 q2, fun z => (List.mem_append.mp z).elim n1 n2⟩
end
end
section
variable {X : Cx}
/-- repr(xs), xs a list of data -/
def rRep (K : PySem.W.Frag) : List V → Hp → VK → Prop := fun xs H Q => ∃ (a : Addr) (d : PyData), xs = [.ref a] ∧ De K H (.ref a) d ∧ d.showable = true ∧ d.depth ≤ 8 ∧ d.shown.length ≤ sizeLine ∧ Q (.str d.shown) H
theorem call_rep (hg : X.A.guards = some []) (hu : X.A.units + 64 < cLine) (hsys : ∃ o, X.K.lookup sysModules = some o) : CallR X (.builtin "repr") (rRep X.K) := by
  intro pins s σ H xs us Q I r h
  obtain ⟨a, d, rfl, hd, hsh, hdp, hz, q⟩ := h
  obtain ⟨oS, hoS⟩ := hsys
  have hs : H sysModules = none := (I.bs _ _ (I.ok.mod.kin _ _ hoS)).2
  obtain ⟨u, rfl, ru⟩ := vals1 r
  obtain rfl : u = Value.ref a := ru
  obtain ⟨as, hr, hn⟩ := de_reads I hs d _ _ hd rfl
  exact repr_of_reads' hr hsh (fun _ => hn) hg (by omega) (fun _ _ z => z) (fun h' t tk hk => ⟨.str d.shown, H, I.kept hk, ⟨t, rfl⟩, q⟩) hz
end
end K0
/-! ### sorted(xs, key=f), f's calls seen by an invariant of one's own; the keys are texts -/
namespace SK
open PySem PySem.W PySem.Calls PyProof.Rows
def IsText (v : Value) (k : Str) : Prop := ∃ t, v = .str k t
abbrev Texts (us : List Value) (ks : List Str) : Prop := EachIs IsText us ks
section
variable {prog : Program} {w : World} {A : Around} {E : Value → Shared → Prop} {s : Shared} {a kS : Addr} {b : Bool} {vs : List Value} {ks : List Str} {e1 : Nat} {P : PySem.Fin → Shared → Prop}
theorem texts_read {h : Heap} : ∀ {us : List Value} {ks : List Str}, Texts us ks → EachIs (fun v d => ∃ as, Reads h v d as) us (ks.map PyData.str)
  | _, _, .nil => .nil
  | _, _, .cons ⟨t, e⟩ r => .cons ⟨[], by rw [e]; exact .str _ t⟩ (texts_read r)
theorem alike_texts (ks : List Str) : AllAlike (ks.map PyData.str) := AllAlike.of fun x y => by simp [alike]
theorem sortable_texts (ks : List Str) : Sortable (ks.map PyData.str) := Sortable.others fun x => ⟨(nomatch ·), fun xs => (nomatch ·)⟩
/-- what an invariant J of the sort has to tell -/
structure ByJ (prog : Program) (w : World) (A : Around) (a kS : Addr) (e1 : Nat) (f : Value) (vs : List Value) (ks : List Str) (J : Nat → Shared → Prop) : Prop where
  is : ∀ i s, J i s → ∃ kA e, s.heap.get? kS = some (seqObj "list" kA e) ∧ Texts kA.toList (ks.take i) ∧ s.heap.get? a = some (seqObj "list" #[] e1)
  turn : ∀ (i : Nat) (v : Value) (k : Str), vs[i]? = some v → ks[i]? = some k → ∀ s, J i s → wpAny (model prog w) A (call f [v]) (fun u s2 => IsText u k ∧ ∃ kA e, s2.heap.get? kS = some (seqObj "list" kA e) ∧ Texts kA.toList (ks.take i) ∧
    ∀ h3 e3, Heap.SameBut kS s2.heap h3 → h3.get? kS = some (seqObj "list" (kA.push u) e3) → J (i + 1) { s2 with heap := h3 }) (fun _ _ => False) s
theorem rest_by {f : Value} {J : Nat → Shared → Prop} (B : ByJ prog w A a kS e1 f vs ks J) (hka : kS ≠ a) (hlen : ks.length = vs.length) (hZ : vs.length ≤ sizeLine) (hu : A.units < cLine) (j0 : J 0 s)
    (h : ∀ s' h' tk out c, J vs.length s' → (∀ b o, b ≠ a → b ≠ kS → s'.heap.get? b = some o → h'.get? b = some o) → h'.get? a = some (seqObj "list" (List.toArray out) c) → KeyedOut b (ks.map PyData.str) vs out → P (.done (.ret .none)) { s' with heap := h', toks := tk }) :
    wpAny (model prog w) A (ksk_rest a f b vs.toArray e1 (.ref kS)) P E s := by
  unfold ksk_rest
  refine wpAny_bind (wpAny_rule ?_)
  first
    | rw [List.forIn_toArray]
    | (rw [← Array.forIn_toList]; simp only [List.toList_toArray])
  refine wpAny_bind (ksk_fold J vs 0 s j0 (fun j x s' hx hJ => ?_) fun s' hJ => ?_)
  · rw [Nat.zero_add] at hJ ⊢
    have hj : j < vs.length := (List.getElem?_eq_some_iff.mp hx).1
    obtain ⟨k, hkj⟩ : ∃ k, ks[j]? = some k := ⟨_, List.getElem?_eq_getElem (by omega)⟩
    refine wpAny_bind (wpAny_attempt (wpAny_mono (B.turn j x k hx hkj s' hJ) (fun u s2 q => ?_) fun _ _ z => z.elim))
    obtain ⟨ht, kA, e, nk, tx, go⟩ := q
    dsimp only
    have hz : kA.size ≤ vs.length := by
      have z := tx.length
      rw [Array.length_toList, List.length_take] at z
      omega
    have hz2 : kA.size ≤ sizeLine := Nat.le_trans hz hZ
    obtain ⟨c2, hc2⟩ : ∃ c2, (s2.heap.update kS (Obj.mapSeq (·.push u))).get? kS = some (seqObj "list" (kA.push u) c2) := ⟨_, get?_update_seq nk (·.push u)⟩
    refine wpAny_bind (listUpdate_at nk rfl ?_ hz2 (by rw [Array.size_push]; omega))
    exact wpAny_pure ⟨rfl, go _ c2 (Heap.SameBut.update s2.heap kS (Obj.mapSeq (·.push u))) hc2⟩
  · rw [Nat.zero_add] at hJ
    obtain ⟨kA, e, nk, tx, na⟩ := B.is _ _ hJ
    refine wpAny_bind (listItems_at nk rfl ?_)
    obtain ⟨G, g1, g2⟩ := L2.restrict s'.heap fun b => decide (b ≠ kS)
    have gs : ∀ b o, G.get? b = some o → s'.heap.get? b = some o := fun b o q => by
      by_cases hb : b = kS
      · rw [hb, g2 kS (decide_eq_false fun z => z rfl)] at q
        cases q
      · rw [← g1 b (decide_eq_true hb)]
        exact q
    have et : ks.take vs.length = ks := List.take_of_length_le (by omega)
    rw [et] at tx
    have er := texts_read (h := s'.heap) tx
    have hsz : kA.size = vs.length := by
      have z := tx.length
      rw [Array.length_toList] at z
      omega
    refine keyH_end (h₁ := G) (κ := dataKind s'.heap (ks.map PyData.str)) (fun b o _ q => gs b o q) (g2 kS (decide_eq_false fun z => z rfl)) nk na hka (SortsAt.data er (alike_texts ks) (sortable_texts ks) fun d hd => ?_) hsz hZ fun h' tk c kp hA => ?_
    · obtain ⟨x, _, rfl⟩ := List.mem_map.mp hd
      simp only [PyData.depth]
      omega
    · exact h s' h' tk _ c hJ (fun b o n1 n2 q => kp b o n1 (by rw [g1 b (decide_eq_true n2)]; exact q)) hA ⟨s'.heap, kA.toList, alike_texts ks, rfl, er⟩
theorem sorted_by {β : Type} {R : Value → β → Prop} {l : Addr} {f : Value} {kw : List (Str × Value)} {Q : Value → Shared → Prop} {bs : List β} (key : β → Str) (hl : s.heap.IsList l vs.toArray) (er : EachIs R vs bs) (hZ : bs.length ≤ sizeLine) (hu : A.units + 2 < cLine) (ha1 : argsOk "sorted" ⟨[.ref l], kw⟩)
    (ha2 : ∀ x, argsOk "list.sort" ⟨[.ref x], kw⟩) (ht : ∀ x, Builtin.«list.sort» ⟨[.ref x], kw⟩ = ksk_tree x f b)
    (go : ∀ (a kS : Addr) (e1 : Nat) (h0 : Heap), (∀ b o, s.heap.get? b = some o → h0.get? b = some o) → s.heap.objs.size ≤ a → s.heap.objs.size ≤ kS → kS ≠ a → h0.get? kS = some (seqObj "list" #[] 0) → h0.get? a = some (seqObj "list" #[] e1) →
      ∃ J : Nat → Shared → Prop, ByJ prog w A.in1.in1 a kS e1 f vs (bs.map key) J ∧ J 0 { s with heap := h0 } ∧
        ∀ s' h' tk out c, J vs.length s' → (∀ b o, b ≠ a → b ≠ kS → s'.heap.get? b = some o → h'.get? b = some o) → h'.get? a = some (seqObj "list" (List.toArray out) c) → out.length = bs.length → EachIs R out (bs.mergeSort (dataLe b fun x => .str (key x))) → Q (.ref a) { s' with heap := h', toks := tk }) :
    wpAny (model prog w) A (call (.builtin "sorted") [.ref l] kw) Q E s := by
  refine sorted_of_sort hl (by rw [er.length]; exact hZ) ha1 ha2 fun E' => ?_
  rw [ht]
  have at0 := copyHeap_at s.heap vs
  generalize ha : s.heap.objs.size + 1 = a at at0 ⊢
  have old : ∀ b o, s.heap.get? b = some o → (copyHeap s.heap vs).get? b = some o := fun b o q => copyHeap_old q
  have hsa : a < (copyHeap s.heap vs).objs.size := Heap.lt_size at0
  generalize copyHeap s.heap vs = h1 at at0 old hsa ⊢
  obtain ⟨e1, ho1⟩ : ∃ e1, (h1.update a (Obj.mapSeq fun _ => (#[] : Array Value))).get? a = some (seqObj "list" #[] e1) := ⟨_, get?_update_seq at0 fun _ => #[]⟩
  have hkS : ((h1.update a (Obj.mapSeq fun _ => (#[] : Array Value))).push (seqObj "tuple" vs.toArray 0)).objs.size = h1.objs.size + 1 := by
    rw [size_push', Heap.size_update]
  unfold ksk_tree
  refine wpAny_bind (listItems_at at0 rfl ?_)
  refine wpAny_bind (listUpdate_at at0 rfl ?_ (by rw [List.size_toArray, er.length]; exact hZ) (Nat.zero_le _))
  refine wpAny_bind (seqEpoch_at ho1 rfl ?_)
  refine wpAny_bind (wpAny_newTuple ?_ (by show vs.length ≤ _; rw [er.length]; exact hZ))
  refine wpAny_bind (wpAny_newList ?_ (Nat.zero_le _))
  refine wpAny_holding ?_
  rw [hkS]
  have nka : h1.objs.size + 1 ≠ a := by omega
  have za : s.heap.objs.size ≤ a := by omega
  have zk : s.heap.objs.size ≤ h1.objs.size + 1 := by omega
  have nba : ∀ b o, s.heap.get? b = some o → b ≠ a := fun b o q => Nat.ne_of_lt (Nat.lt_of_lt_of_le (Heap.lt_size q) za)
  obtain ⟨J, B, j0, fin⟩ := go a (h1.objs.size + 1) e1 (((h1.update a (Obj.mapSeq fun _ => (#[] : Array Value))).push (seqObj "tuple" vs.toArray 0)).push (seqObj "list" #[] 0))
    (fun b o q => Heap.get?_push_of_some _ (Heap.get?_push_of_some _ (((Heap.SameBut.update h1 a (Obj.mapSeq fun _ => (#[] : Array Value))).2 b (nba b o q)).trans (old b o q)))) za zk nka
    (by rw [← hkS]; exact Heap.get?_push_size _ rfl) (Heap.get?_push_of_some _ (Heap.get?_push_of_some _ ho1))
  refine rest_by B nka (by rw [List.length_map]; exact er.length.symm) (by rw [er.length]; exact hZ) (by show A.units + 1 + 1 < cLine; omega) j0 fun s' h' tk out c hJ kp hA ko => ⟨rfl, ?_⟩
  have em : (bs.map key).map PyData.str = bs.map fun x => PyData.str (key x) := by
    rw [List.map_map]
    rfl
  rw [em] at ko
  exact fin s' h' tk out c hJ kp hA ((ko.length (by rw [List.length_map]; exact er.length.symm)).trans er.length) (keyedOut_each (fun x => PyData.str (key x)) ko er)
end
end SK
/-! ### sorted(e, key=lambda x: body), e a list of texts, x's key a text -/
namespace SK
open PySem PySem.Spec PyProof.Rows L2 LamX NdefX
abbrev St := L2.St
abbrev CX0 := C8.CX0
abbrev E0 := C8.E0
section
variable {CX : CXT} {P : Program} {w : World} {K : PySem.W.Frag} {mg : Str → Option Value} {base : Heap} {N ps fr : List Str} {F : NF} {f : Addr} {A : Around} {outer : List Env} {s : Shared} {H : Hp} {E : XK} {us : List Value} {vs : List V} {ws : List (Option V)} {k : Nat} {body : Expr} {tb : TE} {Q : VK} {pm ctv : Value}
/-- a lambda with parameters is called -/
theorem lam_run (S : NScope N ps fr F.scope) (hbind : bindArgs (PySem.W.kla_fn F.name F.qual F.params body F.scope F.cl pm (.ref F.c) ctv) ⟨us, []⟩ = pure (ps.zip us)) (ho : s.heap.get? f = some (PySem.W.kla_obj F.name F.qual F.params body F.scope F.cl pm F.c ctv))
    (hco : H F.c = some (CodeO F.c F.qual)) (hr : Room (k + 1) A) (e0 : Env0 P w K mg base A outer s H) (C : CellsAt F.cl fr ws s.heap H) (r : Vals vs us) (hl : vs.length = ps.length) (hbody : PE (ncx CX P w K mg base N F f A outer s H E) body tb)
    (hq : tb (startF N vs ws) H Q) : codeAny (model P w) A (.call (.ref f) ⟨us, []⟩) (CR CX outer P w H s Q E) s := by
  have lim : s.heap.NoLimit := e0.mod.nolimit.keeps fun b o e => (e0.bs b o e).1
  refine PySem.W.kla_callFunE hr.depth ho rfl S.co S.gen rfl (codeO_at e0.hok hco) ?_
  rw [hbind]
  refine wpAny_pure (wpAny_newFunctionEnv S.nocell (fun ⟨n, _⟩ hy => S.par n (List.of_mem_zip hy).1) (fun h₁ hns hsb => ⟨lim.fresh _ hsb, ?_⟩) S.kind)
  show codeAny _ _ (.expr body (envF F f s.heap.objs.size)) _ _
  have kp : ∀ b o, s.heap.get? b = some o → h₁.get? b = some o := fun b o e => hsb.extBut b o (Nat.ne_of_lt (Heap.lt_size e)) (Heap.get?_push_of_some _ e)
  have J := inv_startN (CX := CX) (f := f) (E := E) (tk := s.toks + (ps.zip us).length) S hr.hd e0 hl r C hns kp
  refine PySem.W.kla_codeExpr (wpAny_mono (hbody.run [] _ _ H Q J hq) (fun v s' hs => ?_) fun e s' hs => hs)
  obtain ⟨x, H', J', rv, q⟩ := hs
  exact ⟨x, H', J'.os, J'.bare, J'.base, J'.hok, rv, q⟩
end
/-- what the sort knows of its two lists -/
def aO (a : Addr) (e1 : Nat) : HO := .ext fun h => h.get? a = some (seqObj "list" #[] e1)
def kO (kS : Addr) (ks : List Str) : HO := .ext fun h => ∃ kA e, h.get? kS = some (seqObj "list" kA e) ∧ Texts kA.toList ks
theorem aO_ok {P : Program} {w : World} {H : Hp} {h : Heap} {a : Addr} {e1 : Nat} (q : h.get? a = some (seqObj "list" #[] e1)) : ObjOk P w H h a (aO a e1) := ⟨q, ⟨_, q⟩, fun h1 h2 z st => st _ z⟩
theorem kO_ok {P : Program} {w : World} {H : Hp} {h : Heap} {a : Addr} {ks : List Str} {kA : Array Value} {e : Nat} (q : h.get? a = some (seqObj "list" kA e)) (t : Texts kA.toList ks) : ObjOk P w H h a (kO a ks) :=
  ⟨⟨kA, e, q, t⟩, ⟨_, q⟩, fun h1 h2 ⟨k1, e1, z, t1⟩ st => ⟨k1, e1, st _ z, t1⟩⟩
theorem aO_at {P : Program} {w : World} {H : Hp} {h : Heap} {a : Addr} {e1 : Nat} (x : HOk P w H h) (e : H a = some (aO a e1)) : h.get? a = some (seqObj "list" #[] e1) := (x a _ e).1
theorem kO_at {P : Program} {w : World} {H : Hp} {h : Heap} {a : Addr} {ks : List Str} (x : HOk P w H h) (e : H a = some (kO a ks)) : ∃ kA e, h.get? a = some (seqObj "list" kA e) ∧ Texts kA.toList ks := (x a _ e).1
theorem vals_texts : ∀ {ws : List Str} {us : List Value}, Vals (ws.map V.str) us → Texts us ws
  | [], [], _ => .nil
  | [], _ :: _, h => by cases h
  | _ :: _, [], h => by cases h
  | w :: ws, u :: us, h => by
    cases h with
    | cons h1 h2 => exact .cons h1 (vals_texts h2)
theorem texts_vals : ∀ {us : List Value} {ws : List Str}, Texts us ws → Vals (ws.map V.str) us
  | _, _, .nil => .nil
  | _, _, .cons h1 h2 => .cons h1 (texts_vals h2)
theorem each_get {α β : Type} {R : α → β → Prop} : ∀ {us : List α} {ws : List β}, PySem.W.EachIs R us ws → ∀ {i : Nat} {u : α} {x : β}, us[i]? = some u → ws[i]? = some x → R u x
  | _, _, .nil, i, u, x, h, _ => by simp at h
  | _, _, .cons r t, 0, u, x, h1, h2 => by
    simp at h1 h2
    subst h1 h2
    exact r
  | _, _, .cons r t, i + 1, u, x, h1, h2 => each_get t (by simpa using h1) (by simpa using h2)
theorem texts_snoc {us : List Value} {ks : List Str} {u : Value} {k : Str} : Texts us ks → IsText u k → Texts (us ++ [u]) (ks ++ [k])
  | .nil, h => .cons h .nil
  | .cons a t, h => .cons a (texts_snoc t h)
/-- the reading, behind the list: its words, the key of each by the lambda's body, then the new list in their order -/
def sTail (K : PySem.W.Frag) (T : List (Addr × Str)) (H0 : Hp) (N : List Str) (js : List Nat) (tb : TE) (σ : St) (Q : VK) (x : V) (H1 : Hp) : Prop := ∃ (l : Addr) (ws : List Str) (key : Str → Str), x = .ref l ∧ SqL K H1 l (ws.map V.str) ∧ Tabs T H1 ∧ ExtN H0 H1 ∧
  ∀ H2, ExtN H1 H2 → Tabs T H2 → (∀ y ∈ ws, ∀ H3, Same H2 H3 → tb (startF N [.str y] (js.map (slotAt σ))) H3 fun v H4 => v = .str (key y) ∧ Same H3 H4) ∧
    ∀ H5 p, H2 p = none → Same H2 H5 → H5 p = some (.lst ((ws.mergeSort (PySem.W.dataLe false fun x => .str (key x))).map V.str)) → Q (.ref p) H5
def tSort (K : PySem.W.Frag) (T : List (Addr × Str)) (H0 : Hp) (N : List Str) (js : List Nat) (te tb : TE) : TE := fun σ H Q => te σ H (sTail K T H0 N js tb σ Q)
theorem extN_seq {K : PySem.W.Frag} {H H' : Hp} {l : Addr} {xs : List V} (e : ExtN H H') (h : SqL K H l xs) : SqL K H' l xs := by
  rcases h with (h | ⟨o, h⟩) | h
  · exact .inl (.inl (e _ _ h fun ps z => nomatch z))
  · exact .inl (.inr ⟨o, e _ _ h fun ps z => nomatch z⟩)
  · exact .inr h
section
variable {X : Cx}
theorem pe_sortkey {T : List (Addr × Str)} {c P : Addr} {k : Nat} {e body : Expr} {params : Arguments} {scope : Scope} {te tb : TE} {p lpos kpos pos : Pos} {N fr : List Str} {a1 : Str} {js : List Nat} (hg : Gl X "sorted") (hm : X.mg "sorted" = none) (ha : PE X e te) (TB : TabB X.base X.mg c P) (hcode : X.env.code = .ref c)
    (hmT : (P, X.env.qual ++ "<lambda>") ∈ T) (hu : ∀ p ∈ T, p.1 = P → p.2 = X.env.qual ++ "<lambda>") (hr : Room (k + 3) X.A) (hex : X.ex = []) (S : NScope N [a1] fr scope)
    (hnd : ndefB X.env.scope scope fr = true) (hjs : js.map (fun j => X.N[j]?) = fr.map some) (hdef : defaultsOf params X.env = ([], []))
    (hbind : ∀ (q : Str) (cl : List (Str × Addr)) (pm cv ctv v : Value), bindArgs (PySem.W.kla_fn "<lambda>" q params body scope cl pm cv ctv) ⟨[v], []⟩ = pure [(a1, v)])
    (hbody : ∀ (A : Around) (outer : List Env) (s : Shared) (H : Hp) (f c' : Addr) (cl : List (Str × Addr)), Room k (A.deeper (envF ⟨"<lambda>", X.env.qual ++ "<lambda>", params, [], scope, cl, c'⟩ f s.heap.objs.size)) →
      PE (ncx CX0 X.prog X.w X.K X.mg X.base N ⟨"<lambda>", X.env.qual ++ "<lambda>", params, [], scope, cl, c'⟩ f A outer s H E0) body tb)
    (hs1 : starEach [e] X.env = [(false, eval e X.env)] := by rfl) :
    PE X (.Call (.Name "sorted" p) [e] [⟨some "key", .Lambda params body scope lpos, kpos⟩] pos) (tSort X.K T X.H_0 N js te tb) := by
  have hfree := ndef_free hnd
  have hfr := ndef_fr hnd
  refine ⟨fun pins s σ H Q I h => ?_⟩
  refine wpAny_Call_Name_kw (ld_blt I hg hm PyProof.Rows.boot_sorted ?_)
  refine PyProof.Rows.callWith_kw ?_ (by rw [hs1]; rfl) (by rw [hs1]; rfl) (by rfl) (by rfl)
  refine thn ((pa_cons ha pa_nil hs1).run pos pins s σ H (fun vs H1 => match vs with
    | [x] => sTail X.K T X.H_0 N js tb σ Q x H1
    | _ => False) I h) fun us s1 ⟨vs, H1, I1, r1, q1⟩ => ?_
  match vs, r1, q1 with
  | [x], r1, q1 =>
  obtain ⟨l, ws, key, rfl, hS, hT, h01, q⟩ := q1
  obtain ⟨u, rfl, ru⟩ := vals1 r1
  obtain rfl : u = Value.ref l := ru
  have hcl : ∀ y ∈ scope.names, y.2 = .free → ∃ c, X.env.cells.lookup y.1 = some c := fun y hy e => (hfree y hy e).elim (fun z => I1.ok.has _ (.inl z)) fun z => I1.ok.has _ (.inr z)
  show wpAny _ _ (evalAll ((do let v ← eval (.Lambda params body scope lpos) X.env; standAt pos; pure v) :: (backToKw pos (keywordEach [] X.env)).map (·.2))) _ _ s1
  refine wpAny_evalAll_cons (wpAny_bind (lam_make2 I1 TB hcode hmT hu hT hdef hcl fun f c' pm ctv H2 s2 I2 eN T2 ho hfn hfs hco => wpAny_bind (wpAny_standAt (wpAny_pure ?_))))
  refine wpAny_evalAll_nil ?_
  show wpAny _ _ (call (.builtin "sorted") [.ref l] [(Str.ofString "key", .ref f)]) _ _ s2
  obtain ⟨qa, qend⟩ := q H2 eN T2
  obtain ⟨its, rv, hl, hz⟩ := I2.list (extN_seq eN hS)
  rw [List.length_map] at hz
  have hu2 : X.A.units + 2 < cLine := by
    have z := hr.un
    omega
  have tx := vals_texts rv
  refine sorted_by (b := false) key hl.isList tx hz hu2 (PyProof.Rows.ksk_s1 _ _) (fun x => PyProof.Rows.ksk_l1 _ _) (fun x => PyProof.Rows.ksk_t1 _ _) fun a kS e1 h0 k0 za zk nka hk ha0 => ?_
  have na : H2 a = none := I2.hok.fresh za
  have nk : H2 kS = none := I2.hok.fresh zk
  have fr0 : ∀ b, H2 b = none → Fr0 X.H_0 b := fun b n o e => by
    by_cases ht : ∃ ps, o = .tbl ps
    · exact ht
    · have z := eN b o (h01 b o e fun ps w => ht ⟨ps, w⟩) fun ps w => ht ⟨ps, w⟩
      rw [n] at z
      cases z
  refine ⟨fun i s' => ∃ H', Inv X pins σ H' s' ∧ Same H2 H' ∧ H' a = some (aO a e1) ∧ H' kS = some (kO kS ((ws.map key).take i)) ∧ s'.heap.get? f = some (PySem.W.kla_obj "<lambda>" (X.env.qual ++ "<lambda>") params body scope (cloFrom X.env.cells scope.names []) pm c' ctv) ∧ H' f = none,
    ⟨fun i s' ⟨H', I', sm, oa, ok, of, nf⟩ => ?_, fun i v k0 hv hk0 s' ⟨H', I', sm, oa, ok, of, nf⟩ => ?_⟩, ?_, fun s' h' tk out c0 ⟨H', I', sm, oa, ok, of, nf⟩ kp hA hlen er => ?_⟩
  · obtain ⟨kA, e, z1, z2⟩ := kO_at I'.hok ok
    exact ⟨kA, e, z1, z2, aO_at I'.hok oa⟩
  · obtain ⟨y, hy, rfl⟩ : ∃ y, ws[i]? = some y ∧ key y = k0 := by
      rw [List.getElem?_map] at hk0
      cases e : ws[i]? with
      | none =>
        rw [e] at hk0
        cases hk0
      | some y =>
        rw [e] at hk0
        exact ⟨y, rfl, Option.some.inj hk0⟩
    obtain ⟨t, rfl⟩ := each_get tx hv hy
    have C := cells_of I' (Caps.made I'.ok hfree hfr hjs)
    have hr2 : Room (k + 1) X.A.in1.in1 := hr.in1.in1
    have rc := lam_run (CX := CX0) (E := E0) (F := ⟨"<lambda>", X.env.qual ++ "<lambda>", params, [], scope, cloFrom X.env.cells scope.names [], c'⟩) (f := f) (us := [.str y t]) (vs := [.str y]) (Q := fun v H4 => v = .str (key y) ∧ Same H' H4) S (hbind _ _ _ _ _ _) of (sm _ _ hco) hr2 I'.env0.in1.in1 C
      (.cons ⟨t, rfl⟩ .nil) rfl (hbody _ _ _ _ _ _ _ (hr2.deeper _)) (qa y (List.mem_of_getElem? hy) H' sm)
    refine wpAny_call (codeAny_mono rc fun r s3 hq => ?_)
    cases r with
    | error e => exact (show False from hq).elim
    | ok fl =>
      cases fl with
      | next => exact (show False from hq).elim
      | brk => exact (show False from hq).elim
      | cont => exact (show False from hq).elim
      | ret u =>
        obtain ⟨v2, H4, os, bare, un, hok, rv2, rfl, sm4⟩ := (show CE X.stack X.prog X.w H' s' _ u s3 from hq)
        obtain ⟨hh, g, d, t4, os'⟩ := s3
        obtain rfl : os' = s'.os := os
        have I4 : Inv X pins σ H4 ⟨hh, g, d, t4, s'.os⟩ := I'.call (h' := hh) (g' := g) (d' := d) (t' := t4) (ch := []) un hok bare (fun b z => absurd z (by simp))
        obtain ⟨kA, e, nk4, tx4⟩ := kO_at I4.hok (sm4 _ _ ok)
        have nfk : f ≠ kS := fun z => by
          rw [z, ok] at nf
          cases nf
        have of4 := un.keep f _ of nf hfs (by simp)
        have nf4 := un.free f _ of nf (by simp)
        refine ⟨rv2, kA, e, nk4, tx4, fun h3 e3 hsb hk3 => ?_⟩
        have tx5 : Texts (kA.push u).toList ((ws.map key).take (i + 1)) := by
          have e5 : (ws.map key).take (i + 1) = (ws.map key).take i ++ [key y] := by
            rw [List.take_add_one, List.getElem?_map, hy]
            rfl
          rw [e5, Array.toList_push]
          exact texts_snoc tx4 rv2
        refine ⟨upd H4 kS (kO kS ((ws.map key).take (i + 1))), I4.write (x := kS) (e := kS) (by rw [sm4 _ _ ok]; trivial) (.inl rfl) (fun b o hb z => (hsb.2 b hb).trans z) ⟨_, hk3⟩ (kO_ok hk3 tx5), fun b o z => ?_, ?_, upd_same, ?_, ?_⟩
        · rw [upd_ne (ne_of_none z nk)]
          exact sm4 _ _ (sm _ _ z)
        · rw [upd_ne nka.symm]
          exact sm4 _ _ oa
        · exact (hsb.2 f nfk).trans of4
        · rw [upd_ne nfk]
          exact nf4
  · obtain ⟨G, g1, g2⟩ := restrict h0 fun b => decide (b ≠ kS)
    have lt : ∀ b o, s2.heap.get? b = some o → b ≠ kS ∧ b ≠ a := fun b o z => ⟨Nat.ne_of_lt (Nat.lt_of_lt_of_le (Heap.lt_size z) zk), Nat.ne_of_lt (Nat.lt_of_lt_of_le (Heap.lt_size z) za)⟩
    have gG : ∀ b o, b ≠ kS → h0.get? b = some o → G.get? b = some o := fun b o n z => by
      rw [g1 b (decide_eq_true n)]
      exact z
    have Gh : ∀ b o, G.get? b = some o → h0.get? b = some o := fun b o z => by
      by_cases hb : b = kS
      · rw [hb, g2 kS (decide_eq_false fun z => z rfl)] at z
        cases z
      · rw [← g1 b (decide_eq_true hb)]
        exact z
    have Ia := I2.laidN (h' := G) (t' := s2.toks) (a := a) (o := aO a e1) (fun b o z => gG b o (lt b o z).1 (k0 b o z)) (Heap.get?_none_of_le za) na (aO_ok (gG a _ nka.symm ha0))
    have nk2 : upd H2 a (aO a e1) kS = none := by
      rw [upd_ne nka]
      exact nk
    have Ik := Ia.laidN (h' := h0) (t' := s2.toks) (a := kS) (o := kO kS []) Gh (g2 kS (decide_eq_false fun z => z rfl)) nk2 (kO_ok hk .nil)
    refine ⟨_, Ik, fun b o z => ?_, ?_, ?_, k0 _ _ ho, ?_⟩
    · rw [upd_ne (ne_of_none z nk), upd_ne (ne_of_none z na)]
      exact z
    · rw [upd_ne nka.symm, upd_same]
    · rw [upd_same, List.take_zero]
    · rw [upd_ne (lt _ _ ho).1, upd_ne (lt _ _ ho).2]
      exact hfn
  · obtain ⟨G1, a1, a2, I5⟩ := I'.untrack ok (fr0 kS nk) hex
    obtain ⟨G2, b1, b2, I6⟩ := I5.untrack (a := a) (by rw [delH_ne nka.symm]; exact oa) (fr0 a na) hex
    have hlm : ((ws.mergeSort (PySem.W.dataLe false fun x => .str (key x))).map V.str).length ≤ sizeLine := by
      rw [List.length_map, List.length_mergeSort]
      exact hz
    have I7 := I6.laidN (h' := h') (t' := tk) (a := a) (o := .lst ((ws.mergeSort (PySem.W.dataLe false fun x => .str (key x))).map V.str))
      (fun b o z => kp b o (fun w => by rw [w, b2] at z; cases z) (fun w => by have z2 := b1 b o z; rw [w] at z2; have z3 := z2; rw [a2] at z3; cases z3) (a1 _ _ (b1 _ _ z))) b2 delH_same ⟨hlm, out, c0, texts_vals er, hA⟩
    refine ⟨.ref a, _, I7, rfl, qend _ a na (fun b o z => ?_) upd_same⟩
    rw [upd_ne (ne_of_none z na), delH_ne (ne_of_none z na), delH_ne (ne_of_none z nk)]
    exact sm _ _ z
end
end SK
/-! ### enumerate of a text and of a tuple; dict comprehensions over any walk -/
namespace SK
open PySem PySem.Spec PyProof.Rows L2 LamX NdefX
def ItES (x : Str) : It := ⟨fun i _ => i < x.cps.size, fun i H v H' => ∃ T c, v = .ref T ∧ H T = none ∧ H' = upd H T (.tup [.int (i : Nat), .str ⟨#[c]⟩]) ∧ x.cps[i]? = some c, fun i _ => i = x.cps.size⟩
def ItET (a : Addr) (xs : List V) : It := ⟨fun i H => H a = some (.tup xs) ∧ i < xs.length, fun i H v H' => ∃ T x, v = .ref T ∧ H T = none ∧ H' = upd H T (.tup [.int (i : Nat), x]) ∧ xs[i]? = some x, fun i H => H a = some (.tup xs) ∧ i = xs.length⟩
/-- a pair that enumerate hands out -/
theorem enum_turn {X : Cx} {pins : List (Addr × Obj)} {s : Shared} {σ : St} {H : Hp} {E : Value → Shared → Prop} {J : It} {fp : List Addr} {n i : Nat} {Pd : Nat → Value → Prop} {Sd : Nat → Heap → Prop} {e it : Addr} {elts : List Expr} {kk : Nat} {tpos : Pos} {tn : Nat → Heap → Prop} (I : Inv X pins σ H s)
    (D : PySem.Draws X.prog X.w X.A.in1 it fp n Pd Sd) (hf : ∀ b ∈ [e, it], FpOk X pins H b) (he : ∃ old, IsEnum s.heap e it ((i : Nat) : Int) old) (hst : Sd i s.heap) (hlt : i < n) (hne : e ≠ it) (hef : e ∉ fp)
    (hit : ∃ o, s.heap.get? it = some o) (rel : ∀ u, Pd i u → ∃ x, RelV x u ∧ ∀ H' T, H T = none → H' = upd H T (.tup [.int (i : Nat), x]) → J.yld i H (.ref T) H') (nx : ∀ h' h'', Sd (i + 1) h' → (∀ b o, b ≠ e → h'.get? b = some o → h''.get? b = some o) → (∃ old, IsEnum h'' e it (((i + 1 : Nat)) : Int) old) → tn (i + 1) h'') :
    wpAny (model X.prog X.w) X.A (pyNext (.ref e)) (fun r s1 => ∃ u, r = some u ∧
      wpAny (model X.prog X.w) X.A (letOwnedTupleGo (.Tuple elts kk tpos) (.ref e) u) (fun _ s2 => ∃ x H', Inv X pins σ H' s2 ∧ RelV x u ∧ J.yld i H x H' ∧ tn (i + 1) s2.heap ∧ ∀ b ∈ [e, it], H' b = none) E s1) E s := by
  obtain ⟨old, he⟩ := he
  have hel : e < s.heap.objs.size := Heap.lt_size he
  have hil : it < s.heap.objs.size := by
    obtain ⟨o, q⟩ := hit
    exact Heap.lt_size q
  refine wpAny_pyNext_enum_itemD D he hst hlt hne hef fun u h' tk hP ho hst' hT hsz hk => ?_
  obtain ⟨x, ru, hy⟩ := rel u hP
  refine ⟨_, rfl, wpAny_letOwnedTupleGo_enum (s := { s with heap := h', toks := tk + 1 }) ho fun h'' he' sb => ?_⟩
  have hT2 : h''.get? s.heap.objs.size = some { cls := .type "tuple", data := .seq #[.int i tk, u] } := (sb.2 _ (Nat.ne_of_gt hel)).trans hT
  have nw : ObjOk X.prog X.w (upd H s.heap.objs.size (.tup [.int (i : Nat), x])) h'' s.heap.objs.size (.tup [.int (i : Nat), x]) :=
    ⟨by show 2 ≤ sizeLine; decide, [.int i tk, u], .cons ⟨_, rfl⟩ (.cons ru .nil), ⟨_, hT2, rfl, _, rfl⟩⟩
  have I1 : Inv X pins σ (upd H s.heap.objs.size (.tup [.int (i : Nat), x])) { s with heap := h'', toks := tk + 1 } :=
    I.turnedNew (ch := [e, it]) (fun b ob hb q => (sb.2 b (fun z => hb (by simp [z]))).trans (hk b ob (fun z => hb (by simp [z])) (fun z => hb (by simp [z])) q)) hf (Nat.le_refl _) nw
  refine ⟨.ref s.heap.objs.size, _, I1, rfl, hy _ _ (I.hok.fresh (Nat.le_refl _)) rfl, nx h' h'' hst' (fun b o hb q => (sb.2 b hb).trans q) ⟨u, ?_⟩, fun b hb => ?_⟩
  · have e1 : ((i + 1 : Nat) : Int) = (i : Int) + 1 := by omega
    rw [e1]
    exact he'
  · have hb' : b < s.heap.objs.size := by
      have e' : b = e ∨ b = it := by simpa using hb
      rcases e' with z | z
      · rw [z]; exact hel
      · rw [z]; exact hil
    rw [upd_ne (Nat.ne_of_lt hb')]
    exact (hf b hb).1
theorem turn_enumS {P : Program} {w : World} {K : PySem.W.Frag} {elts : List Expr} {kk : Nat} {tpos : Pos} (x : Str) (t : Tok) (e it : Addr) :
    Turn P w K (.Tuple elts kk tpos) (ItES x) [e, it] e (fun i h => (∃ old, IsEnum h e it ((i : Nat) : Int) old) ∧ h.IsStrIter it (strIterType x) x t i ∧ e ≠ it) where
  mem := by simp
  obj := fun i h st b hb => by
    obtain ⟨⟨old, he⟩, ⟨o, ho, hc, hd⟩, _⟩ := st
    have e' : b = e ∨ b = it := by simpa using hb
    rcases e' with z | z
    · rw [z]
      exact ⟨_, he, fun v q => nomatch q⟩
    · rw [z]
      exact ⟨o, ho, fun v q => by rw [hd] at q; cases q⟩
  keep := fun i h h' st k => by
    obtain ⟨⟨old, he⟩, ⟨o, ho, r⟩, hne⟩ := st
    exact ⟨⟨old, k e (by simp) _ he⟩, ⟨o, k it (by simp) o ho, r⟩, hne⟩
  item := by
    intro X hP hw hK hc i pins s σ H E I hf st hg
    subst hP hw hK
    obtain ⟨he, hit, hne⟩ := st
    have hli : ∃ o, s.heap.get? it = some o := by
      obtain ⟨o, q, _⟩ := hit
      exact ⟨o, q⟩
    refine enum_turn (J := ItES x) (tn := fun i h => (∃ old, IsEnum h e it ((i : Nat) : Int) old) ∧ h.IsStrIter it (strIterType x) x t i ∧ e ≠ it) I (PySem.Draws.text (A := X.A.in1) (I.ok.hd hc) it x t) hf he hit hg hne (by simpa using hne) hli (fun u ⟨c, tu, hx, eu⟩ => ⟨.str ⟨#[c]⟩, ⟨tu, eu⟩, fun H' T hT eH => ⟨T, c, rfl, hT, eH, hx⟩⟩) fun h' h'' hs k hE => ?_
    obtain ⟨o, ho, r⟩ := hs
    exact ⟨hE, ⟨o, k it o (Ne.symm hne) ho, r⟩, hne⟩
  done := by
    intro X hP hw hK hc i pins s σ H E I hf st hg
    subst hP hw hK
    obtain ⟨⟨old, he⟩, hit, hne⟩ := st
    obtain ⟨f0, f1, f2, f3, f4, f5⟩ := hf it (by simp)
    have hg : i = x.cps.size := hg
    rw [hg] at hit
    exact wpAny_pyNext_enum_endD (PySem.Draws.text (A := X.A.in1) (I.ok.hd hc) it x t) he hit fun h' eb => ⟨rfl, I.turned (t' := s.toks) (fun b o hb q => eb b o hb q) f0 f1 f3 f4 f5⟩
  self := fun A i s Q E st h => let ⟨⟨_, he⟩, _⟩ := st; wpAny_pyIter_enum he h
theorem turn_enumT {P : Program} {w : World} {K : PySem.W.Frag} {elts : List Expr} {kk : Nat} {tpos : Pos} (a : Addr) (xs : List V) (e it : Addr) :
    Turn P w K (.Tuple elts kk tpos) (ItET a xs) [e, it] e (fun i h => (∃ old, IsEnum h e it ((i : Nat) : Int) old) ∧ h.IsTupleIter it a i ∧ e ≠ it) where
  mem := by simp
  obj := fun i h st b hb => by
    obtain ⟨⟨old, he⟩, ⟨o, ho, hc, hd⟩, _⟩ := st
    have e' : b = e ∨ b = it := by simpa using hb
    rcases e' with z | z
    · rw [z]
      exact ⟨_, he, fun v q => nomatch q⟩
    · rw [z]
      exact ⟨o, ho, fun v q => by rw [hd] at q; cases q⟩
  keep := fun i h h' st k => by
    obtain ⟨⟨old, he⟩, hi, hne⟩ := st
    exact ⟨⟨old, k e (by simp) _ he⟩, hi.at fun o q => k it (by simp) o q, hne⟩
  item := by
    intro X hP hw hK hc i pins s σ H E I hf st hg
    subst hP hw hK
    obtain ⟨he, hit, hne⟩ := st
    obtain ⟨ha, hlt⟩ := hg
    obtain ⟨its, rv, p, hz⟩ := I.tuple (.inl (.inl ha))
    have hl := rv.length
    have nat : ∀ b ∈ [e, it], a ≠ b := fun b hb z => by
      have q := (hf b hb).1
      rw [← z, ha] at q
      cases q
    have hli : ∃ o, s.heap.get? it = some o := by
      obtain ⟨o, q, _⟩ := hit
      exact ⟨o, q⟩
    have hp : s.heap.IsTuple a its.toArray := p
    refine enum_turn (J := ItET a xs) (tn := fun i h => (∃ old, IsEnum h e it ((i : Nat) : Int) old) ∧ h.IsTupleIter it a i ∧ e ≠ it) I (PySem.Draws.tuple (A := X.A.in1) (I.ok.hd hc) it a (nat it (by simp)) its.toArray) hf he ⟨hit, hp⟩ (by simpa [← hl] using hlt) hne (by simp only [List.mem_cons, List.mem_nil_iff, or_false, not_or]; exact ⟨hne, Ne.symm (nat e (by simp))⟩) hli (fun u hu => ?_) fun h' h'' hs k hE => ⟨hE, hs.1.at fun o q => k it o (Ne.symm hne) q, hne⟩
    obtain ⟨x, hx⟩ : ∃ x, xs[i]? = some x := ⟨_, List.getElem?_eq_getElem hlt⟩
    obtain ⟨u2, hu2, ru⟩ := rv.get hx
    have e2 : u2 = u := by
      have z : its.toArray[i]? = some u2 := by simpa using hu2
      exact Option.some.inj (z.symm.trans hu)
    subst e2
    exact ⟨x, ru, fun H' T hT eH => ⟨T, x, rfl, hT, eH, hx⟩⟩
  done := by
    intro X hP hw hK hc i pins s σ H E I hf st hg
    subst hP hw hK
    obtain ⟨⟨old, he⟩, hit, hne⟩ := st
    obtain ⟨ha, hlt⟩ := hg
    obtain ⟨its, rv, p, hz⟩ := I.tuple (.inl (.inl ha))
    have hl := rv.length
    obtain ⟨f0, f1, f2, f3, f4, f5⟩ := hf it (by simp)
    have nat : a ≠ it := fun z => by
      rw [← z, ha] at f0
      cases f0
    have hp : s.heap.IsTuple a its.toArray := p
    have ei : i = its.toArray.size := by
      rw [List.size_toArray, ← hl]
      exact hlt
    rw [ei] at hit
    exact wpAny_pyNext_enum_endD (PySem.Draws.tuple (A := X.A.in1) (I.ok.hd hc) it a nat its.toArray) he ⟨hit, hp⟩ fun h' eb => ⟨rfl, I.turned (t' := s.toks) (fun b o hb q => eb b o hb q) f0 f1 f3 f4 f5⟩
  self := fun A i s Q E st h => let ⟨⟨_, he⟩, _⟩ := st; wpAny_pyIter_enum he h
section
variable {X : Cx}
def iEnumS (ta : TA) : TI := fun σ H R => ta σ H fun vs H1 => ∃ x, vs = [.str x] ∧ R (ItES x) H1
theorem pi_enumS {e : Expr} {ta : TA} {p pos tpos : Pos} {elts : List Expr} {kk : Nat} (hg : Gl X "enumerate") (hm : X.mg "enumerate" = none) (ha : PA X [e] ta) (hs : starEach [e] X.env = [(false, eval e X.env)] := by rfl) :
    PI X (.Tuple elts kk tpos) (.Call (.Name "enumerate" p) [e] [] pos) (iEnumS ta) := by
  refine ⟨fun pins s σ H R I h => ?_⟩
  refine Call_ (ld_blt I hg hm boot_enumerate (PyProof.Rows.callWith_type1 (thn (ha.run pos pins s σ H _ I h) fun us s1 ⟨vs, H1, I1, r1, q1⟩ => ?_) hs rfl))
  obtain ⟨x, rfl, q⟩ := q1
  obtain ⟨u, rfl, t, rfl⟩ := vals1 r1
  refine call_enumerate_str fun h' he hit hsz hk => wpAny_pyIter_enum he ?_
  have I2 : Inv X pins σ H1 { s1 with heap := h' } := I1.kept (t' := s1.toks) hk
  refine ⟨s1.heap.objs.size + 1, [s1.heap.objs.size + 1, s1.heap.objs.size], _, _, H1, rfl, I2, turn_enumS x t (s1.heap.objs.size + 1) s1.heap.objs.size, ⟨⟨.none, he⟩, hit, Nat.succ_ne_self _⟩, fun b hb => ?_, q⟩
  have e' : b = s1.heap.objs.size + 1 ∨ b = s1.heap.objs.size := by simpa using hb
  have hle : s1.heap.objs.size ≤ b := by
    rcases e' with z | z
    · rw [z]; exact Nat.le_add_right _ _
    · rw [z]; exact Nat.le_refl _
  exact I1.fpOk hle (I1.hok.fresh hle)
def iEnumT (ta : TA) : TI := fun σ H R => ta σ H fun vs H1 => ∃ a xs, vs = [.ref a] ∧ H1 a = some (.tup xs) ∧ R (ItET a xs) H1
theorem walk_enumS {x : Str} : Walk (ItES x) x.cps.size (fun _ => True) (YPair (fun i => some (.int (i : Nat))) (fun i => x.cps[i]?.map fun c => .str ⟨#[c]⟩)) := by
  refine ⟨fun _ _ hi _ => hi, fun _ _ => rfl, fun i H v H' _ _ y => ?_⟩
  obtain ⟨T, c, h1, h2, h3, h4⟩ := y
  exact ⟨T, _, _, h1, h2, h3, rfl, by show x.cps[i]?.map _ = _; rw [h4]; rfl⟩
theorem walk_enumT {a : Addr} {xs : List V} : Walk (ItET a xs) xs.length (fun H => H a = some (.tup xs)) (YPair (fun i => some (.int (i : Nat))) (fun i => xs[i]?)) := by
  refine ⟨fun _ _ hi q => ⟨q, hi⟩, fun _ q => ⟨q, rfl⟩, fun i H v H' _ _ y => ?_⟩
  obtain ⟨T, x, h1, h2, h3, h4⟩ := y
  exact ⟨T, _, _, h1, h2, h3, rfl, h4⟩
end
/-- a dict comprehension over a walk -/
theorem dc_it {J : It} {n : Nat} {G : Hp → Prop} {Y : Nat → Hp → V → Hp → Prop} (w : Walk J n G Y) {g : TG} {tt : TT} {tk tv : TE} {vs : List Nat} {σ : St} {H1 : Hp} {D : Addr} {Qd : Hp → Prop} (Pv : Nat → Hp → Prop) (h0 : Pv 0 (upd H1 D (.dK []))) (hG : ∀ i H, i ≤ n → Pv i H → G H)
    (hs : ∀ i x H H', i < n → Pv i H → Y i H x H' → g x (wipe σ vs) H' fun σ2 H2 => wipe σ2 vs = wipe σ vs ∧ tt σ2 H2 fun b H3 =>
      if b = true then tk σ2 H3 fun y H4 => tv σ2 H4 fun z H5 => ∃ kvs k, y = kV k ∧ H5 D = some (.dK kvs) ∧ kvs.length < sizeLine ∧ Pv (i + 1) (upd H5 D (.dK (putK kvs k z))) else Pv (i + 1) H3) (hd : ∀ H, Pv n H → Qd H) :
    ∃ W : Nat → Nat → Hp → Prop, (∃ m, W 0 m (upd H1 D (.dK []))) ∧ ∀ i m H, W i m H →
      (J.stop i H ∧ Qd H) ∨ (J.go i H ∧ ∃ Nx : Hp → Prop, (∀ H', Nx H' → ∃ m', m' < m ∧ W (i + 1) m' H') ∧ ∀ x H', J.yld i H x H' → g x (wipe σ vs) H' fun σ2 H2 => wipe σ2 vs = wipe σ vs ∧ tt σ2 H2 fun b H3 =>
        if b = true then tk σ2 H3 fun y H4 => tv σ2 H4 fun z H5 => ∃ kvs k, y = kV k ∧ H5 D = some (.dK kvs) ∧ kvs.length < sizeLine ∧ Nx (upd H5 D (.dK (putK kvs k z))) else Nx H3) := by
  refine ⟨fun i m H => m + i = n ∧ Pv i H, ⟨n, rfl, h0⟩, fun i m H ⟨em, p⟩ => ?_⟩
  have q := hG i H (by omega) p
  rcases Nat.lt_or_ge i n with hlt | hge
  · exact .inr ⟨w.goes i H hlt q, Pv (i + 1), fun H' p' => ⟨n - (i + 1), by omega, by omega, p'⟩, fun x H' y => hs i x H H' hlt p (w.yields i H x H' hlt q y)⟩
  · obtain rfl : i = n := by omega
    exact .inl ⟨w.stops H q, hd H p⟩
end SK
namespace SK
open PySem PySem.Spec PyProof.Rows L2 LamX NdefX
/-- enumerate(v) with no start -/
theorem enum_new1 {v : Value} {o : Obj} {C : Heap → Prop} (B : Begins v o C) :
    Meets (Builtin.«enumerate.__new__» ⟨[.type "enumerate", v], []⟩) (fun _ R s => C s.heap ∧
      R (.ok (.ret (.ref (s.heap.push o).objs.size))) { s with heap := (s.heap.push o).push { cls := .type "enumerate", data := .fields #[.none, .bool false, .ref s.heap.objs.size, rawInt 0, .none, .none] } }) :=
  .of_wp fun prog w A R s h => by
    obtain ⟨hp, g, d, tk, os⟩ := s
    obtain ⟨h1, h⟩ := h
    have sub0 := sub_enumerate
    have it0 : ∀ {A' : Around} {E : Value → Shared → Prop} {Q : Value → Shared → Prop}, Q (.ref hp.objs.size) ⟨hp.push o, g, d, tk, os⟩ → wpAny (model prog w) A' (pyIter v) Q E ⟨hp, g, d, tk, os⟩ :=
      fun q => B.iter prog w _ _ ⟨hp, g, d, tk, os⟩ _ h1 q
    wp_walk using it0
    refine wpAny_stack_any fun st => wpAny_pure ?_
    split
    · rename_i c _ _ _ _ _
      cases (c == Value.type "enumerate")
      all_goals
        wp_walk using it0
        exact ⟨_, rfl, h⟩
    · wp_walk using it0
      exact ⟨_, rfl, h⟩
end SK
namespace SK
open PySem PySem.Spec PyProof.Rows L2 LamX NdefX
section
variable {prog : Program} {w : World} {A : Around} {E : Value → Shared → Prop} {s : Shared}
theorem enum_tuple {a : Addr} {items : Array Value} {Q : Value → Shared → Prop} (ht : s.heap.IsTuple a items)
    (h : ∀ h', IsEnum h' (s.heap.objs.size + 1) s.heap.objs.size 0 .none → h'.IsTupleIter s.heap.objs.size a 0 → (∀ b o, s.heap.get? b = some o → h'.get? b = some o) → Q (.ref (s.heap.objs.size + 1)) { s with heap := h' }) :
    wpAny (model prog w) A (call (.type "enumerate") [.ref a]) Q E s := by
  refine callType_new F.called_enumerate (by decide) (F.typeCall_enumerate_1 _) (F.newCall_enumerate_1 _) (fun obj => F.args_object_init_2 obj _) F.entry_enumerate_new (enum_new1 (begins_tuple a items)) ⟨ht, ?_⟩
  generalize ho : ({ cls := .type "tuple_iterator", data := .fields #[.ref a, .int 0 0] } : Obj) = o
  have hfr : o.isFreed = false := by
    rw [← ho]
    rfl
  have hz : (s.heap.push o).objs.size = s.heap.objs.size + 1 := Heap.size_push ..
  show _ ∧ _
  rw [hz]
  have he : IsEnum ((s.heap.push o).push { cls := .type "enumerate", data := .fields #[.none, .bool false, .ref s.heap.objs.size, rawInt 0, .none, .none] }) (s.heap.objs.size + 1) s.heap.objs.size 0 .none := by
    have q := Heap.get?_push_size (s.heap.push o) (o := { cls := .type "enumerate", data := .fields #[.none, .bool false, .ref s.heap.objs.size, rawInt 0, .none, .none] }) rfl
    rw [hz] at q
    exact q
  have hi : (s.heap.push o).get? s.heap.objs.size = some o := Heap.get?_push_size _ hfr
  refine ⟨⟨_, he, rfl⟩, h _ he ⟨o, Heap.get?_push_of_some _ hi, by rw [← ho], by rw [← ho]; rfl⟩ fun b u q => Heap.get?_push_of_some _ (Heap.get?_push_of_some _ q)⟩
end
section
variable {X : Cx}
theorem pi_enumT {e : Expr} {ta : TA} {p pos tpos : Pos} {elts : List Expr} {kk : Nat} (hg : Gl X "enumerate") (hm : X.mg "enumerate" = none) (ha : PA X [e] ta) (hs : starEach [e] X.env = [(false, eval e X.env)] := by rfl) :
    PI X (.Tuple elts kk tpos) (.Call (.Name "enumerate" p) [e] [] pos) (iEnumT ta) := by
  refine ⟨fun pins s σ H R I h => ?_⟩
  refine Call_ (ld_blt I hg hm boot_enumerate (PyProof.Rows.callWith_type1 (thn (ha.run pos pins s σ H _ I h) fun us s1 ⟨vs, H1, I1, r1, q1⟩ => ?_) hs rfl))
  obtain ⟨a, xs, rfl, hq, q⟩ := q1
  obtain ⟨u, rfl, ru⟩ := vals1 r1
  obtain rfl : u = Value.ref a := ru
  obtain ⟨its, rv, pt, hz⟩ := I1.tuple (.inl (.inl hq))
  have pt' : s1.heap.IsTuple a its.toArray := pt
  refine enum_tuple pt' fun h' he hit hk => wpAny_pyIter_enum he ?_
  have I2 : Inv X pins σ H1 { s1 with heap := h' } := I1.kept (t' := s1.toks) hk
  refine ⟨s1.heap.objs.size + 1, [s1.heap.objs.size + 1, s1.heap.objs.size], _, _, H1, rfl, I2, turn_enumT a xs (s1.heap.objs.size + 1) s1.heap.objs.size, ⟨⟨.none, he⟩, hit, Nat.succ_ne_self _⟩, fun b hb => ?_, q⟩
  have hle : s1.heap.objs.size ≤ b := by
    simp only [List.mem_cons, List.mem_nil_iff, or_false] at hb
    rcases hb with z | z
    · rw [z]; exact Nat.le_add_right _ _
    · rw [z]; exact Nat.le_refl _
  exact I1.fpOk hle (I1.hok.fresh hle)
/-- y = {k: v for .. in ..}, y a local name -/
theorem ps_setDc {i : Nat} {y : Str} {py : Pos} {kx vx tg iter : Expr} {ifs : List Expr} {scope : Scope} {own : List (Str × Nat)} {pos spos : Pos} {wi : TI} {g : TG} {tt : TT} {tk tv : TE} (hc : X.calm = true) (hN : X.N.Nodup) (hy : X.N[i]? = some y) (hyl : X.env.scope.names.lookup y = some .local)
    (hsw : swapsWith (.DictComp kx vx [⟨tg, iter, ifs, 0⟩] scope pos) (some (.Name y py)) spos.line X.env = pure true) (hi : PI X tg iter wi) (ok : BlkOk X.N X.env.scope scope own)
    (hg : ∀ (s : Shared) (H : Hp) (C : Addr) (cl : List (Str × Addr)) (fp : List Addr), PG (X.blk s H scope (compEnvC scope cl C X.env) fp) tg g) (ht : ∀ (s : Shared) (H : Hp) (C : Addr) (cl : List (Str × Addr)) (fp : List Addr), PTs (X.blk s H scope (compEnvC scope cl C X.env) fp) ifs tt)
    (hk : ∀ (s : Shared) (H : Hp) (C : Addr) (cl : List (Str × Addr)) (fp : List Addr), PE (X.blk s H scope (compEnvC scope cl C X.env) fp) kx tk)
    (he : ∀ (s : Shared) (H : Hp) (C : Addr) (cl : List (Str × Addr)) (fp : List Addr), PE (X.blk s H scope (compEnvC scope cl C X.env) fp) vx tv) (hs : ∀ x, foldedSetIterable iter X.env x = pure x := by intro _; rfl) :
    PS X (.Assign [.Name y py] (.DictComp kx vx [⟨tg, iter, ifs, 0⟩] scope pos) spos) (tAsg (tDc wi g tt tk tv (own.map (·.2))) (gName i)) := by
  refine ⟨fun pins s σ H D I h => ?_⟩
  rw [exec_Assign_Name_used _ _ _ _ hsw]
  refine wpAny_bind (wpAny_standAt (wpAny_bind ?_))
  show wpAny _ X.A (do let _ ← comprehension (.DictComp kx vx [⟨tg, iter, ifs, 0⟩] scope pos) scope X.env (firstIterPos [⟨tg, iter, ifs, 0⟩] pos) newDict false (eval iter X.env) (some (assign (.Name y py) X.env))) _ _ s
  have hh : tDc wi g tt tk tv (own.map (·.2)) σ H (fun x H1 => gName i x σ H1 D.nx) := h
  refine wpAny_bind (thn (dc_core (Qf := fun _ s' => SP X pins D .next s') hc hN I hi ok hg ht hk he hs hh fun L C s' m H' I' q hn f => ?_) fun _ s' hq => wpAny_pure (wpAny_pure hq))
  show wpAny _ _ (assign (.Name y py) X.env (.ref L)) _ _ _
  refine wpAny_assign_Name (store_ok2 (v := V.ref L) I' hN hy (.inl hyl) rfl (fun s2 I2 ⟨a, sb, ha⟩ => ?_) (.inr hyl))
  obtain ⟨f0, f1, f2, f3, f4, f5⟩ := f
  have haC : C ≠ a := ha.elim (fun z => by rw [z]; exact f1) fun z e => f4 y a z e.symm
  refine ⟨m, hn.sameBut sb haC, fun h3 sb3 => ?_⟩
  exact ⟨_, H', I2.turned (t' := s2.toks) (fun b o hb e => (sb3.2 b hb).trans e) f0 f1 f3 f4 f5, q⟩
theorem swD_true {kx vx : Expr} {gs : List Comprehension} {scope : Scope} {pos py : Pos} {y : Str} {l : Nat} {env : Env} (hk : env.scope.kind = .function) (hy : env.scope.names.lookup y = some .local) (hl : (py.line == pos.line) = true)
    (ha : (scope.names.any fun (n, k) => n == y && (k == .local || k == .cell)) = false) : swapsWith (.DictComp kx vx gs scope pos) (some (.Name y py)) l env = pure true := by
  have ky : env.kindOf y = some .local := hy
  have hb : env.blockKind = .function := by
    unfold Env.blockKind
    rw [hk]
    rfl
  unfold swapsWith
  simp only [hb, ky, ha, Expr.pos, hl]
  rfl
end
end SK
namespace SK
open PySem PySem.Spec PyProof.Rows L2 LamX NdefX
def retE : Stmt → Expr
  | .Return (some e) _ => e
  | _ => .Name "" ⟨0, 0, 0, 0⟩
def kwE : Expr → Expr
  | .Call _ _ [k] _ => k.value
  | e => e
def lamSc : Expr → Scope
  | .Lambda _ _ s _ => s
  | _ => { kind := .function, names := [], isGenerator := false, isCoroutine := false, more := [] }
theorem upd_new {p : Addr} {o : HO} {H : Hp} (n : H p = none) : Same H (upd H p o) := fun c u h => by
  rw [upd_ne (ne_of_none h n)]
  exact h
def top (i : Nat) : Stmt := PySem.Challenge.pw_lettertrees_k13_trees_refused.main.body.getD i (.Pass ⟨0, 0, 0, 0⟩)
/-- a def of the top whose code object is known -/
structure FunT (K : PySem.W.Frag) (x qual : Str) (st : Stmt) (f : Addr) (fd : FuncData) (c : Addr) : Prop where
  ex : ∃ (oc : Value) (od : Option Addr) (kV doc pm : Value) (an : Option Addr) (ct : Value) (osl : Array (Option Value)),
    fd = PySem.W.fnOf x qual (defArgs st) (defBody st) (defScope st) .none kV doc pm an (.ref c) ct ∧ K.lookup f = some ⟨oc, od, .func fd, osl⟩ ∧ PySem.W.codeIn K (.ref c) qual = true
  kp : PySem.W.keepIn K (.ref f) = true
theorem FunT.ok {P : Program} {w : World} {K : PySem.W.Frag} {mg : Str → Option Value} {base : Heap} {x qual : Str} {st : Stmt} {f c : Addr} {fd : FuncData} {N ps : List Str} {k : Nat} {sp : Sp} (F : FunT K x qual st f fd c) (S : FnScope N ps (defScope st)) (len : ∀ vs H Q E, sp vs H Q E → vs.length = ps.length)
    (hbody : ∀ (A : Around) (outer : List Env) (s : Shared) (H : Hp) (vs : List V) (Q : VK) (E : XK), Room k (A.deeper (envOfC qual (defScope st) s.heap.objs.size f (.ref c))) → sp vs H Q E →
      ∃ t, PSs (cxOf CX0 P w K mg base N qual (defScope st) f (.ref c) A outer s H E).nox (defBody st) t ∧ t { nx := fun _ H' => Q .non H', rt := Q } (start N vs) H) : FnOk P w K mg base CX0 (k + 1) f fd ps sp := by
  obtain ⟨oc, od, kV, doc, pm, an, ct, osl, rfl, lk, hcd⟩ := F.ex
  refine fn_of lk hcd S len fun A outer s H vs Q E hr hsp => ?_
  obtain ⟨t, h, q⟩ := hbody A outer s H vs Q E hr hsp
  exact ⟨t, h.nox, q⟩
/-! ### the order of words -/
def alpha : Str := "abcdefghijklmnopqrstuvwxyz"
structure OkL (ls : Str) : Prop where
  lo : 2 ≤ ls.cps.size
  hi : ls.cps.size ≤ 26
  nd : ls.cps.toList.Nodup
  al : ∀ c ∈ ls.cps.toList, 97 ≤ c ∧ c < 123
def rankOf (ls : Str) (c : Nat) : Nat := ls.cps.toList.idxOf c
def keyW (ls w : Str) : Str := ⟨(w.cps.toList.map fun c => 97 + rankOf ls c).toArray⟩
def OverL (ls w : Str) : Prop := w.cps.size ≤ 200 ∧ ∀ c ∈ w.cps.toList, c ∈ ls.cps.toList
def sortW (ls : Str) (ws : List Str) : List Str := ws.mergeSort (PySem.W.dataLe false fun x => .str (keyW ls x))
theorem alpha_at {i : Nat} (h : i < 26) : alpha.cps.toList[i]? = some (97 + i) := by
  have z : ∀ j < 26, alpha.cps.toList[j]? = some (97 + j) := by decide +kernel
  exact z i h
theorem join_chars : ∀ l : List Nat, Str.join (Str.ofString "") (l.map fun c => (⟨#[c]⟩ : Str)) = ⟨l.toArray⟩
  | [] => rfl
  | [c] => rfl
  | c :: d :: r => by
    have ih := join_chars (d :: r)
    simp only [List.map_cons] at ih ⊢
    show ((⟨#[c]⟩ : Str) ++ Str.ofString "") ++ Str.join (Str.ofString "") ((⟨#[d]⟩ : Str) :: r.map fun c => ⟨#[c]⟩) = _
    rw [ih]
    show (⟨(#[c] ++ (Str.ofString "").cps) ++ (d :: r).toArray⟩ : Str) = _
    have z : (Str.ofString "").cps = #[] := by decide +kernel
    rw [z]
    simp
theorem txt_join_chars (l : List Nat) : Txt.join (Str.ofString "") (l.map fun c => (⟨#[c]⟩ : Str)) = ⟨l.toArray⟩ := by
  show Builtin.Str.glued (Str.ofString "") _ = _
  rw [StrLaws.glued_eq_join]
  exact join_chars l
theorem ndW : (["word", "ranks", "sign"] : List Str).Nodup := by decide +kernel
theorem sum_ones (l : List Nat) : ((l.map fun c => (⟨#[c]⟩ : Str)).map (·.length)).sum = l.length := by
  induction l with
  | nil => rfl
  | cons c r ih =>
    simp only [List.map_cons, List.sum_cons, ih, List.length_cons]
    show 1 + r.length = _
    omega
theorem Same.extN {H H' : Hp} (s : Same H H') : ExtN H H' := ExtN.of s
def rJoin (K : PySem.W.Frag) : V → List V → Hp → VK → Prop := fun x xs H Q => ∃ a p, ∃ ys : List Str, x = .str a ∧ xs = [.ref p] ∧ (SqL K H p (ys.map V.str) ∨ SqT K H p (ys.map V.str)) ∧ (ys.map (·.length)).sum + ys.length * a.length ≤ 16777216 ∧ Q (.str (Txt.join a ys)) H
def tKey (K : PySem.W.Frag) : TE := tBM K "str" (rJoin K) (tC (.str "")) (tCons (tLc (iStr (tVar 0)) (gName 2) tYes (tDGet (tVar 1) (tVar 2)) [2]) tNil)
def spOrder (K : PySem.W.Frag) (T : List (Addr × Str)) : Sp := fun vs H Q _ => ∃ (ls : Str) (a : Addr) (ws : List Str), vs = [.str ls, .ref a] ∧ OkL ls ∧ SqL K H a (ws.map V.str) ∧ (∀ y ∈ ws, OverL ls y) ∧ Tabs T H ∧
  ∀ (H' : Hp) (p : Addr), ExtN H H' → Tabs T H' → H' p = some (.lst ((sortW ls ws).map V.str)) → Q (.ref p) H'
section
variable {P : Program} {w : World} {K : PySem.W.Frag} {mg : Str → Option Value} {base : Heap} {f c Pt : Addr} {fd : FuncData} {T : List (Addr × Str)}
theorem sc17 : FnScope ["letters", "words", "ranks", "rank", "letter"] ["letters", "words"] (defScope (top 17)) := ⟨rfl, rfl, rfl, by decide +kernel, rfl, by decide +kernel, by decide +kernel⟩
theorem ok_order (F : FunT K "in_order" "in_order" (top 17) f fd c) (gE : mg "enumerate" = none) (gS : mg "sorted" = none) {tA : Tok} (gA : mg "ALPHABET" = some (.str alpha tA)) (TB : TabB base mg c Pt) (hm : (Pt, ("in_order" : Str) ++ ".<locals>." ++ "<lambda>") ∈ T) (hu : ∀ p ∈ T, p.1 = Pt → p.2 = ("in_order" : Str) ++ ".<locals>." ++ "<lambda>") :
    FnOk P w K mg base CX0 5 f fd ["letters", "words"] (spOrder K T) := by
  refine F.ok sc17 (fun vs H Q E h => ?_) (fun A outer s H vs Q E hr h => ?_)
  · obtain ⟨ls, a, ws, rfl, _⟩ := h
    rfl
  · obtain ⟨ls, a, ws, rfl, hL, hS, hW, hT, kk⟩ := h
    refine ⟨_, pss_cons (ps_set (i := 2) sc17.nd rfl (Or.inr rfl) (pe_dc (own := [("rank", 3), ("letter", 4)]) (g := gTup K 2 (gCons (gName 3) (gCons (gName 4) gNil))) (tt := tYes) rfl sc17.nd (pi_enumS (by rfl) gE (pa_cons (pv 0) pa_nil))
      (blkOk_by (N := ["letters", "words", "ranks", "rank", "letter"]) (sc := defScope (top 17)) (by decide +kernel)) (fun _ _ _ _ _ => pg_tup rfl (pgs_cons (pg_name (i := 3) sc17.nd rfl (Or.inl rfl)) (pgs_cons (pg_name (i := 4) sc17.nd rfl (Or.inl rfl)) pgs_nil)))
      (fun _ _ _ _ _ => pts_nil) (fun _ _ _ _ _ => pv 4) (fun _ _ _ _ _ => pe_ix ix_str (pe_glob (v := V.str alpha) (by rfl) gA ⟨_, rfl⟩) (pv 3) (fun _ _ => rfl))))
      (pss_one (ps_ret (pe_sortkey (tb := tKey K) (k := 1) (N := ["word", "ranks", "sign"]) (fr := ["ranks"]) (a1 := "word") (js := [2]) (by rfl) gS (pv 1) TB rfl hm hu hr rfl (nscope_by (by decide +kernel)) (show ndefB (defScope (top 17)) (lamSc (kwE (retE ((defBody (top 17)).getD 1 (.Pass ⟨0, 0, 0, 0⟩))))) ["ranks"] = true by decide +kernel) rfl rfl (fun _ _ _ _ _ _ => rfl)
        (fun A2 outer2 s2 H2 f2 c2 cl2 hr2 =>
          pe_bm PySem.F.plainAttrs_str PySem.F.slot_str_join PySem.F.type_str_join mt_join pe_str (pa_cons (pe_lc (own := [("sign", 2)]) (g := gName 2) (tt := tYes) rfl ndW (pi_str (pv 0))
            (blkOk_by (N := ["word", "ranks", "sign"]) (sc := lamSc (kwE (retE ((defBody (top 17)).getD 1 (.Pass ⟨0, 0, 0, 0⟩))))) (by decide +kernel)) (fun _ _ _ _ _ => pg_name (i := 2) ndW rfl (Or.inl rfl)) (fun _ _ _ _ _ => pts_nil) (fun _ _ _ _ _ => pe_dget (hu_of hr2) (pv 1) (pv 2) (fun _ _ => rfl))) pa_nil))))), ?_⟩
    refine ⟨V.str ls, rfl, ls, rfl, fun D hD => dc_it walk_enumS (fun i H1 => ∃ kvs : List (Key × V), H1 D = some (.dK kvs) ∧ kvs.length ≤ i ∧ Same H H1 ∧ ∀ j c, j < i → ls.cps[j]? = some c → valV kvs (.inr ⟨#[c]⟩) = some (.str ⟨#[97 + j]⟩))
      ⟨[], upd_same, Nat.le_refl _, upd_new hD, fun j c h => absurd h (Nat.not_lt_zero _)⟩ (fun _ _ _ _ => trivial) ?_ ?_⟩
    · rintro i x H1 H2 hi ⟨kvs, hd, hl, sm, hv⟩ ⟨T1, x1, y1, rfl, nT, rfl, ex, ey⟩
      obtain rfl : V.int (i : Nat) = x1 := Option.some.inj ex
      obtain ⟨cc, hcc, rfl⟩ : ∃ cc, ls.cps[i]? = some cc ∧ V.str ⟨#[cc]⟩ = y1 := by
        have ey' : (ls.cps[i]?.map fun c => V.str ⟨#[c]⟩) = some y1 := ey
        cases q : ls.cps[i]? with
        | none =>
          rw [q] at ey'
          cases ey'
        | some cc =>
          rw [q] at ey'
          exact ⟨cc, rfl, Option.some.inj ey'⟩
      have hi26 : i < 26 := Nat.lt_of_lt_of_le hi hL.hi
      have nDT : D ≠ T1 := fun z => by
        rw [← z, hd] at nT
        cases nT
      refine ⟨T1, _, rfl, .inl (.inl upd_same), rfl, _, _, rfl, _, _, rfl, rfl, rfl, ?_⟩
      refine ⟨V.str ⟨#[cc]⟩, rfl, V.int i, rfl, alpha, (i : Int), 97 + i, rfl, rfl, (by decide +kernel), atI_nat (alpha_at hi26), kvs, .inr ⟨#[cc]⟩, rfl, (upd_ne nDT).trans hd, Nat.lt_of_le_of_lt hl (Nat.lt_trans hi26 (by decide)), _, upd_same, ?_, ?_, fun j c hj hc => ?_⟩
      · have z := length_putK kvs (.inr ⟨#[cc]⟩ : Key) (V.str ⟨#[97 + i]⟩)
        omega
      · exact fun b o e => by
          have nb : b ≠ D := ne_of_none e hD
          rw [upd_ne nb]
          exact upd_new nT _ _ (sm _ _ e)
      · rw [valV_put]
        by_cases hji : j = i
        · subst hji
          rw [hcc] at hc
          obtain rfl := Option.some.inj hc
          rw [if_pos rfl]
        · have hlt : j < i := by omega
          have hne : ¬ ((.inr ⟨#[c]⟩ : Key) = .inr ⟨#[cc]⟩) := fun z => by
            have z2 : c = cc := by
              injection z with z
              injection z with z
              simpa using z
            subst z2
            have h1 : ls.cps.toList[j]? = some c := by simpa using hc
            have h2 : ls.cps.toList[i]? = some c := by simpa using hcc
            exact hji (nd_ix hL.nd h1 h2)
          rw [if_neg hne]
          exact hv j c hlt hc
    rintro H1 ⟨kvs, hd, hl, sm, hv⟩
    have look : ∀ cc ∈ ls.cps.toList, valV kvs (.inr ⟨#[cc]⟩) = some (.str ⟨#[97 + rankOf ls cc]⟩) := fun cc hcc => by
      have hlt : ls.cps.toList.idxOf cc < ls.cps.toList.length := List.idxOf_lt_length_of_mem hcc
      refine hv _ cc (by simpa [rankOf] using hlt) ?_
      have z : ls.cps.toList[ls.cps.toList.idxOf cc]? = some cc := by
        rw [List.getElem?_eq_getElem hlt, List.getElem_idxOf]
      simpa [rankOf] using z
    refine ⟨V.ref a, rfl, a, ws, keyW ls, rfl, sm.seq hS, hT.ext sm, ExtN.of sm, fun H2 eN T2 => ⟨fun y hy H3 sm3 => ?_, fun H5 p np sm5 h5 => ?_⟩⟩
    · have hd3 : H3 D = some (.dK kvs) := sm3 _ _ (eN _ _ hd fun ps z => nomatch z)
      obtain ⟨hy1, hy2⟩ := hW y hy
      refine ⟨rfl, V.str y, rfl, y, rfl, fun D2 nD2 => lc_it walk_str (fun i H' => Same H3 H' ∧ H' D2 = some (.lst ((y.cps.toList.take i).map fun c => V.str ⟨#[97 + rankOf ls c]⟩))) ⟨upd_new nD2, upd_same⟩ (fun _ _ _ _ => trivial) ?_ ?_⟩
      · rintro i x H4 H5 hi ⟨s4, h4⟩ ⟨rfl, cc, hcc, rfl⟩
        have hm : cc ∈ y.cps.toList := by
          have z : y.cps.toList[i]? = some cc := by simpa using hcc
          exact List.mem_of_getElem? z
        have et : y.cps.toList.take (i + 1) = y.cps.toList.take i ++ [cc] := by
          have z : y.cps.toList[i]? = some cc := by simpa using hcc
          rw [List.take_add_one, z]
          rfl
        have dg := DGet.k (k := (.inr ⟨#[cc]⟩ : Key)) (s4 _ _ hd3)
        rw [look cc (hy2 cc hm)] at dg
        refine ⟨rfl, V.ref D, rfl, V.str ⟨#[cc]⟩, rfl, D, _, rfl, dg, _, h4, ?_, fun b o e => ?_, ?_⟩
        · rw [List.length_map, List.length_take]
          have z : (200 : Nat) < sizeLine := by decide
          omega
        · rw [upd_ne (ne_of_none e nD2)]
          exact s4 _ _ e
        · rw [et, List.map_append]
          exact upd_same
      · rintro H4 ⟨s4, h4⟩
        have e1 : y.cps.toList.take y.cps.size = y.cps.toList := List.take_of_length_le (by simp)
        rw [e1] at h4
        have e2 : (y.cps.toList.map fun c => V.str ⟨#[97 + rankOf ls c]⟩) = ((y.cps.toList.map fun c => 97 + rankOf ls c).map fun c => (⟨#[c]⟩ : Str)).map V.str := by
          rw [List.map_map, List.map_map]
          rfl
        rw [e2] at h4
        refine ⟨"", D2, _, rfl, rfl, .inl (.inl (.inl h4)), ?_, ?_, s4⟩
        · rw [sum_ones]
          have z : (Str.ofString "").length = 0 := by decide
          rw [z, List.length_map, Array.length_toList]
          omega
        · rw [txt_join_chars]
          rfl
    · exact kk H5 p ((ExtN.of sm).trans (eN.trans (ExtN.of sm5))) (T2.ext sm5) h5
end
end SK
/-! ### set(a text) -/
namespace SK
/-- the different ones, as they are met -/
def nub (l : List Nat) : List Nat := l.foldl (fun acc c => if c ∈ acc then acc else acc ++ [c]) []
theorem nub_snoc (l : List Nat) (c : Nat) : nub (l ++ [c]) = if c ∈ nub l then nub l else nub l ++ [c] := by
  unfold nub
  rw [List.foldl_append]
  rfl
theorem snoc_ind {p : List Nat → Prop} (h0 : p []) (hs : ∀ l c, p l → p (l ++ [c])) : ∀ l, p l := fun l => by
  have z : ∀ r : List Nat, p r.reverse := fun r => by
    induction r with
    | nil => exact h0
    | cons c r ih =>
      rw [List.reverse_cons]
      exact hs _ _ ih
  have q := z l.reverse
  rw [List.reverse_reverse] at q
  exact q
theorem mem_nub (c : Nat) : ∀ l, c ∈ nub l ↔ c ∈ l := snoc_ind (by simp [nub]) fun l d ih => by
  rw [nub_snoc]
  by_cases h : d ∈ nub l
  · rw [if_pos h, List.mem_append, ih]
    constructor
    · exact .inl
    · rintro (z | z)
      · exact z
      · obtain rfl := List.mem_singleton.mp z
        exact ih.mp h
  · rw [if_neg h, List.mem_append, List.mem_append, ih]
theorem nub_le : ∀ l, (nub l).length ≤ l.length := snoc_ind (by simp [nub]) fun l d ih => by
  rw [nub_snoc, List.length_append]
  split
  · simp; omega
  · simp; omega
theorem nub_nodup : ∀ l, ((nub l).length = l.length) ↔ l.Nodup := snoc_ind (by simp [nub]) fun l d ih => by
  have le := nub_le l
  rw [nub_snoc, List.nodup_append]
  by_cases h : d ∈ nub l
  · rw [if_pos h]
    have hl := (mem_nub d l).mp h
    constructor
    · intro z
      simp at z
      omega
    · rintro ⟨_, _, z⟩
      exact absurd rfl (z d hl d (by simp))
  · rw [if_neg h]
    have hl : d ∉ l := fun z => h ((mem_nub d l).mpr z)
    constructor
    · intro z
      refine ⟨ih.mp (by simpa using z), by simp, fun a ha b hb e => ?_⟩
      obtain rfl := List.mem_singleton.mp hb
      exact hl (e ▸ ha)
    · rintro ⟨z, _, _⟩
      have := ih.mpr z
      simp [this]
end SK
namespace SK
open PySem PyProof.Rows
/-- what a set of the signs of l holds -/
def inSigns (l : List Nat) (k : Str) : Bool := (nub l).any fun c => decide (k = ⟨#[c]⟩)
theorem inSigns_one (l : List Nat) (c : Nat) : inSigns l ⟨#[c]⟩ = decide (c ∈ nub l) := by
  unfold inSigns
  by_cases h : c ∈ nub l
  · rw [decide_eq_true h]
    exact List.any_eq_true.mpr ⟨c, h, by simp⟩
  · rw [decide_eq_false h, List.any_eq_false]
    intro d hd
    simp only [decide_eq_true_eq]
    intro z
    have : c = d := by
      injection z with z
      simpa using z
    exact h (this ▸ hd)
theorem inSigns_snoc (l : List Nat) (c : Nat) (k : Str) : inSigns (l ++ [c]) k = (inSigns l k || decide (k = ⟨#[c]⟩)) := by
  unfold inSigns
  rw [nub_snoc]
  by_cases h : c ∈ nub l
  · rw [if_pos h]
    by_cases e : k = ⟨#[c]⟩
    · have z : ((nub l).any fun c => decide (k = ⟨#[c]⟩)) = true := List.any_eq_true.mpr ⟨c, h, by simp [e]⟩
      rw [z, Bool.true_or]
    · rw [decide_eq_false e, Bool.or_false]
  · rw [if_neg h, List.any_append]
    simp
section
variable {prog : Program} {w : World} {A : Around} {R : Result → Shared → Prop} {I : Addr} {fp wr : List Addr} {G : Array GenState → Array GenState → Prop} {St : Nat → Shared → Prop}
theorem loop_text (x : Str) (W : WalksS prog w A.in1 I fp wr G x.cps.size (SignAt x) St) (S : Addr) (hSf : S ∉ fp) (hz : x.cps.size + 1 < scanBound) : ∀ (m i : Nat) (s : Shared), m + i = x.cps.size → St i s →
    s.heap.SetOf (strKind prog w) S (inSigns (x.cps.toList.take i)) (nub (x.cps.toList.take i)).length →
    (∀ s', Moved (S :: wr) G s s' → s'.heap.SetOf (strKind prog w) S (inSigns x.cps.toList) (nub x.cps.toList).length → R (.ok (.ret .none)) s') →
    codeAny (model prog w) A (.builtin "set.update.loop" ⟨[.ref S, .ref I], []⟩) R s := by
  have hSw : S ∉ wr := fun h => hSf (W.sub _ h)
  have sub : ∀ b ∈ wr, b ∈ S :: wr := fun b hb => List.mem_cons_of_mem _ hb
  have same : ∀ {i : Nat} {s s' : Shared}, Moved wr G s s' → s.heap.SetOf (strKind prog w) S (inSigns (x.cps.toList.take i)) (nub (x.cps.toList.take i)).length → s'.heap.SetOf (strKind prog w) S (inSigns (x.cps.toList.take i)) (nub (x.cps.toList.take i)).length := fun hm ⟨o, es, ep, tb, ho, r⟩ =>
    ⟨o, es, ep, tb, hm.heap S _ hSw ho, r⟩
  intro m
  induction m with
  | zero =>
    intro i s hk st hS hR
    obtain rfl : i = x.cps.size := by omega
    refine codeAny_builtin PyProof.Rows.F.entry_set_update_loop ?_
    rw [Around.under_plainId PyProof.Rows.F.plain_set_update_loop _]
    show wpAny _ A.in1 (pyNext (.ref I) >>= _) _ _ s
    refine wpAny_bind (W.done s _ _ st fun s' hm => ?_)
    have e : x.cps.toList.take x.cps.size = x.cps.toList := List.take_of_length_le (by simp)
    have q := same hm hS
    rw [e] at q
    show wpAny _ A.in1 (ret Value.none) _ _ s'
    exact wpAny_pure (hR s' (hm.mono sub) q)
  | succ m ih =>
    intro i s hk st hS hR
    have hlt : i < x.cps.size := by omega
    refine codeAny_builtin PyProof.Rows.F.entry_set_update_loop ?_
    rw [Around.under_plainId PyProof.Rows.F.plain_set_update_loop _]
    show wpAny _ A.in1 (pyNext (.ref I) >>= _) _ _ s
    refine wpAny_bind (W.item i s _ _ hlt st fun v s' hP st' hm => ?_)
    obtain ⟨c, t, hc, rfl⟩ := hP
    have q := same hm hS
    have e : x.cps.toList.take (i + 1) = x.cps.toList.take i ++ [c] := by
      have z : x.cps.toList[i]? = some c := by simpa using hc
      rw [List.take_add_one, z]
      rfl
    show wpAny _ A.in1 (holding [Value.str ⟨#[c]⟩ t] (setAdd S (.str ⟨#[c]⟩ t)) >>= _) _ _ s'
    refine wpAny_bind (wpAny_holding ?_)
    unfold setAdd
    refine wpAny_holding ?_
    have isk : (strKind prog w).is (⟨#[c]⟩ : Str) (.str ⟨#[c]⟩ t) = true := Froz.is_str _ _
    refine wpAny_bind ((strKind prog w).pyHash (k := (⟨#[c]⟩ : Str)) isk ?_)
    have room : (nub (x.cps.toList.take i)).length + 1 < scanBound := by
      have h1 := nub_le (x.cps.toList.take i)
      rw [List.length_take] at h1
      omega
    refine wpAny_setAddHashed_of (knd := strKind prog w) (s := { s' with toks := s'.toks + 1 }) isk rfl q room fun h' hsb hS2 => ?_
    have hSi : h'.SetOf (strKind prog w) S (inSigns (x.cps.toList.take (i + 1))) (nub (x.cps.toList.take (i + 1))).length := by
      rw [e]
      refine SetOf_congr hS2 (fun k => (inSigns_snoc _ c k).symm) ?_
      rw [inSigns_one, nub_snoc]
      by_cases hm : c ∈ nub (x.cps.toList.take i)
      · rw [if_pos hm, if_pos (decide_eq_true hm)]
      · rw [if_neg hm, if_neg (by rw [decide_eq_false hm]; exact Bool.false_ne_true), List.length_append]
        rfl
    refine wpAny_pure ⟨plainId_quiet PyProof.Rows.F.plain_set_update_loop _, ih (i + 1) _ (by omega) (W.frame _ s' _ _ st' (Nat.le_succ _) fun b hb o z => ?_) hSi fun s2 hm2 hS3 => ?_⟩
    · have nb : b ≠ S := fun h => hSf (h ▸ hb)
      exact (hsb.2 b nb).trans z
    · refine hR s2 (Moved.trans W.gtrans ((hm.mono sub).then_heap (Nat.le_succ _) fun b o hb z => ?_) hm2) hS3
      have nb : b ≠ S := fun h => hb (by rw [h]; exact List.mem_cons_self)
      exact (hsb.2 b nb).trans z
end
end SK
namespace SK
open PySem PyProof.Rows
theorem sub_str_set : isSubtype (.type "str") (.type "set") = pure false := by
  rw [isSubtype_type]
  kernel_rfl
theorem sub_str_froz : isSubtype (.type "str") (.type "frozenset") = pure false := by
  rw [isSubtype_type]
  kernel_rfl
section
variable {prog : Program} {w : World} {A : Around} {E : Value → Shared → Prop} {s : Shared}
theorem call_set_text {x : Str} {t : Tok} {Q : Value → Shared → Prop} (hh : A.handled = none) (ha : x.cps.all (· < 128) = true) (hz : x.cps.size + 1 < scanBound)
    (h : ∀ (h' : Heap) (tk : Nat), h'.SetOf (strKind prog w) s.heap.objs.size (inSigns x.cps.toList) (nub x.cps.toList).length → (∀ b o, b < s.heap.objs.size → s.heap.get? b = some o → h'.get? b = some o) →
      Q (.ref s.heap.objs.size) { s with heap := h', toks := tk }) : wpAny (model prog w) A (call (.type "set") [.str x t]) Q E s := by
  obtain ⟨c, tl, hmro⟩ := PySem.F.called_set.mro
  have made := PySem.F.called_set.made
  have subs := PySem.F.called_set.sub
  refine wpAny_call (codeAny_of_tree ?_)
  show wpAny _ _ (callAny (.type "set") _) _ _ _
  refine wpAny_pure ⟨Code.quiet_builtin _ (by decide +kernel), codeAny_builtin PySem.F.entry_type_call ?_⟩
  rw [Around.under_plain (weight_type_call_type "set" [.str x t] []) rfl]
  have f1 := PySem.F.called_set.notType
  have f2 := PySem.F.called_set.canCreate
  have f3 := PySem.F.typeCall_set_1 (.str x t)
  repeat (any_goals (first | assumption | wp_step))
  refine codeAny_mono (code_set_new_1 (.str x t) (E := E) (Q₁ := fun obj s₁ => ∃ led : Bool, obj = .ref s.heap.objs.size ∧ s₁ = { s with heap := s.heap.push { cls := .type "set", dict := none, data := .set #[] 0 (.fresh 0 0 led) } }) fun led => ⟨led, rfl, rfl⟩) fun r s1 hr => ?_
  cases r with
  | error e => exact hr
  | ok fl =>
    cases fl with
    | ret obj =>
      obtain ⟨led, rfl, rfl⟩ := hr
      generalize hoo : ({ cls := .type "set", dict := none, data := .set #[] 0 (.fresh 0 0 led) } : Obj) = oo
      have fro : oo.isFreed = false := by rw [← hoo]; rfl
      have hS : (s.heap.push oo).get? s.heap.objs.size = some oo := Heap.get?_push_size _ fro
      have hT : Shared.TypeIs { s with heap := s.heap.push oo } (.ref s.heap.objs.size) "set" := ⟨_, hS, by rw [← hoo]⟩
      have hli := PySem.F.called_set.init.lookup
      have hbi := PySem.F.called_set.init.bind (.ref s.heap.objs.size)
      repeat (any_goals (first | assumption | wp_step))
      refine codeAny_mono (codeAny_call_builtin (R := wants (fun r s₂ => r = .none ∧ ∃ h' tk, s₂ = { s with heap := h', toks := tk } ∧ h'.SetOf (strKind prog w) s.heap.objs.size (inSigns x.cps.toList) (nub x.cps.toList).length ∧
          (∀ b o, b < s.heap.objs.size → s.heap.get? b = some o → h'.get? b = some o)) E) PySem.F.called_set.init.plain PySem.F.entry_set_init (check_set_init_1 hT ?_)) fun r2 s2 hr2 => ?_
      · subst hoo
        have g1 := sub_str_set
        have g2 := sub_str_froz
        unfold Builtin.«set.__init__» noKeywords Builtin.Frozenset.updateFrom
        generalize hPI : pyIter = PI
        wp_walk
        subst hPI
        refine wpAny_pyIter_ascii ha ?_
        refine wpAny_bind (wpAny_runValue ?_)
        have hh3 : A.in1.in1.in1.handled = none := by simp [hh]
        generalize hoo : ({ cls := .type "set", dict := none, data := .set #[] 0 (.fresh 0 0 led) } : Obj) = oo at hS hT ⊢
        have sz : (s.heap.push oo).objs.size = s.heap.objs.size + 1 := Heap.size_push ..
        refine loop_text x ((Walks.strAscii hh3 (s.heap.push oo).objs.size x t).toS) s.heap.objs.size (by rw [sz]; simp) hz x.cps.size 0 _ (by omega) ⟨_, Heap.get?_push_size _ rfl, rfl, rfl⟩ ?_ fun s' hm hS' => ?_
        · have hget := Heap.get?_push_of_some ({ cls := .type "str_ascii_iterator", data := .fields #[.str x t, .int 0 0] } : Obj) hS
          rw [← hoo] at hget ⊢
          exact SetOf_congr ((setObjOf_fresh (knd := strKind prog w) led).setOf hget (by unfold scanBound; omega)) (fun _ => rfl) rfl
        · obtain ⟨h', g', d', tk', os'⟩ := s'
          obtain rfl : g' = s.gens := hm.gens
          obtain rfl : d' = s.drawn := hm.drawn
          obtain rfl : os' = s.os := hm.os
          show wpAny _ _ _ _ _ _
          refine wpAny_pure ?_
          show wpAny _ _ (ret Value.none) _ _ _
          refine wpAny_pure ⟨rfl, h', tk', rfl, hS', fun b o hb e => ?_⟩
          have n1 : b ≠ s.heap.objs.size := Nat.ne_of_lt hb
          have n2 : b ≠ (s.heap.push oo).objs.size := by
            rw [sz]
            exact Nat.ne_of_lt (Nat.lt_succ_of_lt hb)
          exact hm.heap b o (by simp only [List.mem_cons, List.mem_singleton, List.not_mem_nil, or_false, not_or]; exact ⟨n1, n2⟩) (Heap.get?_push_of_some _ (Heap.get?_push_of_some _ e))
      · cases r2 with
        | error e => exact hr2
        | ok f2' =>
          cases f2' with
          | ret r =>
            obtain ⟨rfl, h', tk, rfl, hS', hk'⟩ := hr2
            repeat (any_goals (first | assumption | wp_step))
            exact h _ _ hS' hk'
          | _ => exact hr2.elim
    | _ => exact hr.elim
end
end SK
namespace SK
open PySem PySem.Spec PyProof.Rows L2 LamX NdefX
section
variable {X : Cx}
/-- len(set(x)), x a text of ASCII signs -/
def tLenSetT (ta : TE) : TE := fun σ H Q => ta σ H fun v H1 => ∃ x : Str, v = .str x ∧ x.cps.all (· < 128) = true ∧ x.cps.size ≤ 1000 ∧ Q (.int ((nub x.cps.toList).length : Nat)) H1
theorem pe_lenSetT {a : Expr} {ta : TE} {p p2 q pos : Pos} (hc : X.calm = true) (hg : Gl X "len") (hm : X.mg "len" = none) (hg2 : Gl X "set") (hm2 : X.mg "set" = none) (ha : PE X a ta) (na : starEach [a] X.env = (false, eval a X.env) :: starEach [] X.env := by rfl) :
    PE X (.Call (.Name "len" p) [.Call (.Name "set" p2) [a] [] q] [] pos) (tLenSetT ta) := by
  refine ⟨fun pins s σ H Q I h => ?_⟩
  refine Call_ (ld_blt I hg hm PySem.boot_len ?_)
  refine PyProof.Rows.callWith_builtin1 (PyProof.Rows.args_cons ?_ rfl) rfl rfl
  refine Call_ (ld_blt I hg2 hm2 boot_set ?_)
  refine PyProof.Rows.callWith_type1 (PyProof.Rows.args_cons (thn (ha.run pins s σ H _ I h) fun v s1 ⟨x, H1, I1, r1, q1⟩ => PyProof.Rows.args_nil ?_) na) na rfl
  obtain ⟨x, rfl, hasc, hz, q1⟩ := q1
  obtain ⟨t, rfl⟩ := r1
  refine call_set_text (I1.ok.hd hc) hasc (by unfold scanBound; omega) fun h' tk hS hk => PyProof.Rows.args_nil ?_
  obtain ⟨o, es, ep, tb, ho, hex, hd, _, _, _, hf, hn⟩ := hS
  have I2 : Inv X pins σ H1 { s1 with heap := h', toks := tk } := I1.kept fun b o e => hk b o (Heap.lt_size e) e
  have le := nub_le x.cps.toList
  have lz : x.cps.toList.length = x.cps.size := by simp
  refine call_len_set ho hex hd hf (by rw [hn]; omega) ⟨.int _, H1, I2.tok _, ⟨_, by rw [hn]⟩, q1⟩
end
end SK
namespace SK
open PySem PySem.Spec PyProof.Rows L2 LamX NdefX
open K0 (De DeAll)
/-! ### data: of which type, letters, words, rows -/
def isS : PyData → Bool
  | .str _ => true
  | _ => false
def isB : PyData → Bool
  | .bool _ => true
  | _ => false
def isTL : PyData → Bool
  | .tuple _ => true
  | .list _ => true
  | _ => false
def okLb (x : Str) : Bool := decide (2 ≤ x.cps.size) && decide (x.cps.size ≤ 26) && (decide x.cps.toList.Nodup && x.cps.toList.all fun c => decide (c ∈ alpha.cps.toList))
def okLd : PyData → Bool
  | .str x => okLb x
  | _ => false
def okW (ls : Str) : PyData → Bool
  | .str x => decide (x.cps.size ≤ 200) && x.cps.toList.all fun c => decide (c ∈ ls.cps.toList)
  | _ => false
def okR3 (ls : Str) : List PyData → Bool
  | [a, b, c] => okW ls a && (isB b && isB c)
  | _ => false
def okR (ls : Str) : PyData → Bool
  | .tuple ds => okR3 ls ds
  | .list ds => okR3 ls ds
  | _ => false
theorem ty_of {K : PySem.W.Frag} {H : Hp} {v : V} {d : PyData} (h : De K H v d) : ∃ T : String, TyX K H v (.type T) ∧ kitB T "str" = some (isS d) ∧ kitB T "bool" = some (isB d) ∧ ∃ t1 t2, kitB T "tuple" = some t1 ∧ kitB T "list" = some t2 ∧ (t1 || t2) = isTL d := by
  cases h with
  | non => exact ⟨"NoneType", .base .non, (by show kitB "NoneType" "str" = some false; decide +kernel), (by show kitB "NoneType" "bool" = some false; decide +kernel), false, false, by decide +kernel, by decide +kernel, rfl⟩
  | bl b => exact ⟨"bool", .base (.bl b), (by show kitB "bool" "str" = some false; decide +kernel), (by show kitB "bool" "bool" = some true; decide +kernel), false, false, by decide +kernel, by decide +kernel, rfl⟩
  | int i => exact ⟨"int", .base (.int i), (by show kitB "int" "str" = some false; decide +kernel), (by show kitB "int" "bool" = some false; decide +kernel), false, false, by decide +kernel, by decide +kernel, rfl⟩
  | str x => exact ⟨"str", .base (.str x), (by show kitB "str" "str" = some true; decide +kernel), (by show kitB "str" "bool" = some false; decide +kernel), false, false, by decide +kernel, by decide +kernel, rfl⟩
  | lst ha hd => exact ⟨"list", .base (.lst ha), (by show kitB "list" "str" = some false; decide +kernel), (by show kitB "list" "bool" = some false; decide +kernel), false, true, by decide +kernel, by decide +kernel, rfl⟩
  | tup ha hd => exact ⟨"tuple", .base (.tup ha), (by show kitB "tuple" "str" = some false; decide +kernel), (by show kitB "tuple" "bool" = some false; decide +kernel), true, false, by decide +kernel, by decide +kernel, rfl⟩
  | dic ha => exact ⟨"dict", .base (.dK ha), (by show kitB "dict" "str" = some false; decide +kernel), (by show kitB "dict" "bool" = some false; decide +kernel), false, false, by decide +kernel, by decide +kernel, rfl⟩
theorem kit_two {K : PySem.W.Frag} {T : String} {t1 t2 : Bool} (h1 : kitB T "tuple" = some t1) (h2 : kitB T "list" = some t2) : PySem.W.kitAny K (.type T) [.type "tuple", .type "list"] = some (t1 || t2) := by
  refine kitAny_cons (b := t1) (kit_ty h1) (fun e => ?_) (fun e => by rw [e]; rfl)
  rw [e, Bool.false_or]
  refine kitAny_cons (b := t2) (kit_ty h2) (fun e => ?_) (fun e => e)
  rw [e]
  exact kitAny_nil
/-- all([.. for sign in x]) -/
theorem rd_all_text {K : PySem.W.Frag} {tx te : TE} {i : Nat} {vs : List Nat} {σ : St} {H : Hp} {Q : VK} {x : Str} (p : Nat → Bool) (hz : x.cps.size ≤ 1000) (htx : ∀ R : VK, R (.str x) H → tx σ H R) (hw : ∀ v, wipe ((wipe σ vs).set i (some v)) vs = wipe σ vs)
    (hte : ∀ (c : Nat) (H1 : Hp) (R : VK), R (.bl (p c)) H1 → te ((wipe σ vs).set i (some (.str ⟨#[c]⟩))) H1 R) (k : ∀ H1, Same H H1 → Q (.bl (x.cps.toList.all p)) H1) :
    tCB (rAll K) (tCons (tLc (iStr tx) (gName i) tYes te vs) tNil) σ H Q := by
  refine htx _ ⟨x, rfl, fun D nD => lc_it walk_str (fun j H' => Same H H' ∧ H' D = some (.lst ((x.cps.toList.take j).map fun c => V.bl (p c)))) ⟨upd_new nD, upd_same⟩ (fun _ _ _ _ => trivial) ?_ ?_⟩
  · rintro j y H4 H5 hj ⟨s4, h4⟩ ⟨rfl, c, hc, rfl⟩
    have z : x.cps.toList[j]? = some c := by simpa using hc
    have et : x.cps.toList.take (j + 1) = x.cps.toList.take j ++ [c] := by
      rw [List.take_add_one, z]
      rfl
    refine ⟨hw _, hte c _ _ ⟨_, h4, ?_, fun b o e => ?_, ?_⟩⟩
    · rw [List.length_map, List.length_take]
      have z : (1000 : Nat) < sizeLine := by decide
      omega
    · rw [upd_ne (ne_of_none e nD)]
      exact s4 _ _ e
    · rw [et, List.map_append]
      exact upd_same
  · rintro H4 ⟨s4, h4⟩
    have e1 : x.cps.toList.take x.cps.size = x.cps.toList := List.take_of_length_le (by simp)
    rw [e1] at h4
    have e2 : (x.cps.toList.map fun c => V.bl (p c)) = (x.cps.toList.map p).map V.bl := by
      rw [List.map_map]
      rfl
    rw [e2] at h4
    refine ⟨D, _, rfl, .inl (.inl h4), ?_⟩
    have e3 : (x.cps.toList.map p).all id = x.cps.toList.all p := by
      rw [List.all_map]
      rfl
    rw [e3]
    exact k H4 s4
def spLet (K : PySem.W.Frag) : Sp := fun vs H Q _ => ∃ (v : V) (d : PyData), vs = [v] ∧ De K H v d ∧ (∀ x, d = .str x → x.cps.all (· < 128) = true ∧ x.cps.size ≤ 1000) ∧ ∀ H', Same H H' → Q (.bl (okLd d)) H'
def spWord (K : PySem.W.Frag) : Sp := fun vs H Q _ => ∃ (ls : Str) (v : V) (d : PyData), vs = [.str ls, v] ∧ De K H v d ∧ (∀ x, d = .str x → x.cps.size ≤ 1000) ∧ ∀ H', Same H H' → Q (.bl (okW ls d)) H'
section
variable {P : Program} {w : World} {K : PySem.W.Frag} {mg : Str → Option Value} {base : Heap} {f : Addr} {fd : FuncData}
theorem sc12 : FnScope ["letters", "letter"] ["letters"] (defScope (top 12)) := ⟨rfl, rfl, rfl, by decide +kernel, rfl, by decide +kernel, by decide +kernel⟩
theorem ok_letters (F : Fun K "is_letters" "is_letters" (top 12) f fd) (gI : mg "isinstance" = none) (gS : mg "str" = none) (gL : mg "len" = none) (gE : mg "set" = none) (gAl : mg "all" = none) {tA : Tok} (gA : mg "ALPHABET" = some (.str alpha tA)) : FnOk P w K mg base CX0 1 f fd ["letters"] (spLet K) := by
  refine F.ok sc12 (fun vs H Q E h => ?_) (fun cdv A outer s H vs Q E hr h => ?_)
  · obtain ⟨v, d, rfl, _⟩ := h
    rfl
  · obtain ⟨v, d, rfl, hd, hx, k⟩ := h
    refine ⟨_, pss_cons (ps_if (pw_or (pt_not (pt_val (pe_callB call_isi (by rfl) gI PyProof.Rows.boot_isinstance (pa_cons (pv 0) (pa_cons (pe_bltn (v := .ty "str") (by rfl) gS PyProof.Rows.boot_str rfl) pa_nil)))))
        (pw_or1 (pt_not (pt_chain op_le op_le pe_int (pe_callB call_len_str (by rfl) gL PySem.boot_len (pa_cons (pv 0) pa_nil)) (pe_callB call_len_str (by rfl) gL PySem.boot_len (pa_cons (pe_glob (v := V.str alpha) (by rfl) gA ⟨_, rfl⟩) pa_nil)))))).pt (pss_one (ps_ret pe_bl)) pss_nil)
      (pss_one (ps_ret (pe_and (pe_cmpR op_eq (pe_lenSetT rfl (by rfl) gL (by rfl) gE (pv 0)) (pe_callB call_len_str (by rfl) gL PySem.boot_len (pa_cons (pv 0) pa_nil)) (nomark _))
        (pe_one (pe_callB (cr_all rfl) (by rfl) gAl PyProof.Rows.boot_all (pa_cons (pe_lc (own := [("letter", 1)]) (g := gName 1) (tt := tYes) rfl sc12.nd (pi_str (pv 0)) (blkOk_by (N := ["letters", "letter"]) (sc := defScope (top 12)) (by decide +kernel))
          (fun _ _ _ _ _ => pg_name (i := 1) sc12.nd rfl (Or.inl rfl)) (fun _ _ _ _ _ => pts_nil) (fun _ _ _ _ _ => pe_cmpR op_in_sign (pv 1) (pe_glob (v := V.str alpha) (by rfl) gA ⟨_, rfl⟩) (by rfl))) pa_nil)))))), ?_⟩
    obtain ⟨T, tx, k1, _⟩ := ty_of hd
    refine ⟨v, rfl, v, .ty "str", .type T, .type "str", isS d, rfl, .ty _, tx, kit_ty k1, _, rfl, ?_⟩
    cases d with
    | str x =>
      cases hd
      obtain ⟨hasc, hz⟩ := hx x rfl
      have hzs : x.length ≤ sizeLine := by
        have z : (1000 : Nat) ≤ sizeLine := by decide
        exact Nat.le_trans hz z
      refine iteF ⟨V.str x, rfl, x, rfl, hzs, 2, (x.length : Int), rfl, rfl, _, rfl, ?_⟩
      have el : x.length = x.cps.size := rfl
      have fin : ∀ H', Same H H' → okLb x = false → Q (.bl false) H' := fun H' sm e => by
        have z := k H' sm
        simp only [okLd, e] at z
        exact z
      refine ite2 (fun c1 => ?_) (fun c1 => ?_)
      · have c1' : 2 ≤ x.cps.size := by
          have z := of_decide_eq_true c1
          omega
        refine ⟨alpha, rfl, (by decide +kernel), (x.length : Int), ((alpha.length : Nat) : Int), rfl, rfl, _, rfl, ?_⟩
        refine ite2 (fun c2 => ?_) (fun c2 => ?_)
        · have c2' : ¬ x.cps.size ≤ 26 := by
            intro z
            have a26 : alpha.length = 26 := by decide +kernel
            have : decide ((x.length : Int) ≤ (alpha.length : Nat)) = true := decide_eq_true (by rw [a26]; omega)
            rw [this] at c2
            exact absurd c2 (by decide)
          refine fin H (Same.refl H) ?_
          unfold okLb
          rw [decide_eq_false c2']
          simp
        · have c2' : x.cps.size ≤ 26 := by
            have a26 : alpha.length = 26 := by decide +kernel
            have z : decide ((x.length : Int) ≤ (alpha.length : Nat)) = true := by simpa using c2
            have z2 := of_decide_eq_true z
            rw [a26] at z2
            omega
          refine ⟨V.str x, rfl, x, rfl, hasc, hz, V.str x, rfl, x, rfl, hzs, rfl, _, rfl, ?_⟩
          refine ite2 (fun c3 => ?_) (fun c3 => ?_)
          · have nd : x.cps.toList.Nodup := (nub_nodup _).mp (by
              have z := of_decide_eq_true c3
              injection z with z
              have z2 : (nub x.cps.toList).length = x.length := by omega
              rw [z2, el, Array.length_toList])
            refine rd_all_text (fun c => decide (c ∈ alpha.cps.toList)) hz (fun R h => ⟨_, rfl, h⟩) (fun _ => rfl) (fun c H1 R h => ⟨_, rfl, c, alpha, rfl, rfl, h⟩) fun H1 sm => ?_
            have z := k H1 sm
            simp only [okLd, okLb, decide_eq_true c1', decide_eq_true c2', decide_eq_true nd, Bool.true_and] at z
            exact z
          · refine fin H (Same.refl H) ?_
            have nd : ¬ x.cps.toList.Nodup := fun nd => c3 (decide_eq_true (by rw [(nub_nodup _).mpr nd, Array.length_toList]; rfl))
            unfold okLb
            rw [decide_eq_false nd]
            simp
      · refine ⟨_, rfl, iteT ?_⟩
        refine fin H (Same.refl H) ?_
        have c1' : ¬ 2 ≤ x.cps.size := fun z => c1 (decide_eq_true (by omega))
        unfold okLb
        rw [decide_eq_false c1']
        simp
    | _ => exact iteT (iteT (k H (Same.refl H)))
end
end SK
namespace SK
open PySem PySem.Spec PyProof.Rows L2 LamX NdefX
open K0 (De DeAll)
mutual
theorem de_mono {K : PySem.W.Frag} {H H' : Hp} (m : ∀ b o, H b = some o → H' b = some o) : ∀ (d : PyData) (v : V), De K H v d → De K H' v d
  | .none, _, h => by
    cases h
    exact .non
  | .bool b, _, h => by
    cases h
    exact .bl b
  | .int i, _, h => by
    cases h
    exact .int i
  | .str x, _, h => by
    cases h
    exact .str x
  | .list ds, _, h => by
    cases h with
    | lst ha hd => exact .lst (m _ _ ha) (de_monoAll m ds _ hd)
  | .tuple ds, _, h => by
    cases h with
    | tup ha hd => exact .tup (m _ _ ha) (de_monoAll m ds _ hd)
  | .dict _, _, h => by
    cases h with
    | dic ha => exact .dic (m _ _ ha)
theorem de_monoAll {K : PySem.W.Frag} {H H' : Hp} (m : ∀ b o, H b = some o → H' b = some o) : ∀ (ds : List PyData) (vs : List V), DeAll K H vs ds → DeAll K H' vs ds
  | [], _, h => by
    cases h
    exact .nil
  | d :: ds, _, h => by
    cases h with
    | cons h1 h2 => exact .cons (de_mono m d _ h1) (de_monoAll m ds _ h2)
end

/-- no text in it is too long -/
def Fit (d : PyData) : Prop := ∀ ds, (d = .tuple ds ∨ d = .list ds) → ∀ x, PyData.str x ∈ ds → x.cps.size ≤ 1000
def spRow (K : PySem.W.Frag) : Sp := fun vs H Q _ => ∃ (ls : Str) (v : V) (d : PyData), vs = [.str ls, v] ∧ De K H v d ∧ Fit d ∧ ∀ H', Same H H' → Q (.bl (okR ls d)) H'
theorem deAll_len {K : PySem.W.Frag} {H : Hp} : ∀ {vs : List V} {ds : List PyData}, DeAll K H vs ds → vs.length = ds.length
  | _, _, .nil => rfl
  | _, _, .cons _ t => congrArg Nat.succ (deAll_len t)
section
variable {P : Program} {w : World} {K : PySem.W.Frag} {mg : Str → Option Value} {base : Heap} {f fW : Addr} {fd fdW : FuncData}
theorem sc14 : FnScope ["letters", "word", "letter"] ["letters", "word"] (defScope (top 14)) := ⟨rfl, rfl, rfl, by decide +kernel, rfl, by decide +kernel, by decide +kernel⟩
theorem ok_word (F : Fun K "is_word" "is_word" (top 14) f fd) (gI : mg "isinstance" = none) (gS : mg "str" = none) (gL : mg "len" = none) (gAl : mg "all" = none) {tW : Tok} (gW : mg "LONGEST_WORD" = some (.int 200 tW)) : FnOk P w K mg base CX0 1 f fd ["letters", "word"] (spWord K) := by
  refine F.ok sc14 (fun vs H Q E h => ?_) (fun cdv A outer s H vs Q E hr h => ?_)
  · obtain ⟨ls, v, d, rfl, _⟩ := h
    rfl
  · obtain ⟨ls, v, d, rfl, hd, hx, k⟩ := h
    refine ⟨_, pss_cons (ps_if (pw_or (pt_not (pt_val (pe_callB call_isi (by rfl) gI PyProof.Rows.boot_isinstance (pa_cons (pv 1) (pa_cons (pe_bltn (v := .ty "str") (by rfl) gS PyProof.Rows.boot_str rfl) pa_nil)))))
        (pw_or1 (pt_cmpR op_gt (pe_callB call_len_str (by rfl) gL PySem.boot_len (pa_cons (pv 1) pa_nil)) (pe_glob (v := V.int 200) (by rfl) gW ⟨_, rfl⟩) (nomark _)))).pt (pss_one (ps_ret pe_bl)) pss_nil)
      (pss_one (ps_ret (pe_callB (cr_all rfl) (by rfl) gAl PyProof.Rows.boot_all (pa_cons (pe_lc (own := [("letter", 2)]) (g := gName 2) (tt := tYes) rfl sc14.nd (pi_str (pv 1)) (blkOk_by (N := ["letters", "word", "letter"]) (sc := defScope (top 14)) (by decide +kernel))
          (fun _ _ _ _ _ => pg_name (i := 2) sc14.nd rfl (Or.inl rfl)) (fun _ _ _ _ _ => pts_nil) (fun _ _ _ _ _ => pe_cmpR op_in_sign (pv 2) (pv 0) (by rfl))) pa_nil)))), ?_⟩
    obtain ⟨T, tx, k1, _⟩ := ty_of hd
    refine ⟨v, rfl, v, .ty "str", .type T, .type "str", isS d, rfl, .ty _, tx, kit_ty k1, _, rfl, ?_⟩
    cases d with
    | str x =>
      cases hd
      have hz := hx x rfl
      have hzs : x.length ≤ sizeLine := by
        have z : (1000 : Nat) ≤ sizeLine := by decide
        exact Nat.le_trans hz z
      have el : x.length = x.cps.size := rfl
      refine iteF ⟨V.str x, rfl, x, rfl, hzs, (x.length : Int), 200, rfl, rfl, _, rfl, ?_⟩
      have z := k H (Same.refl H)
      refine ite2 (fun c1 => ?_) (fun c1 => ?_)
      · have c1' : ¬ x.cps.size ≤ 200 := by
          have z := of_decide_eq_true c1
          omega
        simp only [okW, decide_eq_false c1', Bool.false_and] at z
        exact z
      · have c1' : x.cps.size ≤ 200 := by
          refine Decidable.byContradiction fun z => c1 (decide_eq_true ?_)
          omega
        show tCB (rAll K) (tCons (tLc (iStr (tVar 1)) (gName 2) tYes (tOp _ (tVar 2) (tVar 0)) [2]) tNil) _ H _
        refine rd_all_text (fun c => decide (c ∈ ls.cps.toList)) hz (fun R h => ⟨_, rfl, h⟩) (fun _ => rfl) (fun c H1 R h => ⟨_, rfl, _, rfl, c, ls, rfl, rfl, h⟩) fun H1 sm => ?_
        have z := k H1 sm
        simp only [okW, decide_eq_true c1', Bool.true_and] at z
        exact z
    | _ => exact iteT (k H (Same.refl H))
theorem sc18 : FnScope ["letters", "row"] ["letters", "row"] (defScope (top 18)) := ⟨rfl, rfl, rfl, by decide +kernel, rfl, by decide +kernel, by decide +kernel⟩
theorem ok_row (F : Fun K "is_row" "is_row" (top 18) f fd) (gI : mg "isinstance" = none) (gT : mg "tuple" = none) (gLs : mg "list" = none) (gB : mg "bool" = none) (gL : mg "len" = none)
    (gW : mg "is_word" = some (.ref fW)) (kW : PySem.W.keepIn K (.ref fW) = true) (GW : FnOk P w K mg base CX0 1 fW fdW ["letters", "word"] (spWord K)) (bW : Binds K fdW ["letters", "word"] []) : FnOk P w K mg base CX0 2 f fd ["letters", "row"] (spRow K) := by
  refine F.ok sc18 (fun vs H Q E h => ?_) (fun cdv A outer s H vs Q E hr h => ?_)
  · obtain ⟨ls, v, d, rfl, _⟩ := h
    rfl
  · obtain ⟨ls, v, d, rfl, hd, hF, k⟩ := h
    refine ⟨_, pss_cons (ps_if (pw_or (pt_not (pt_val (pe_callB call_isiT (by rfl) gI PyProof.Rows.boot_isinstance (pa_cons (pv 1) (pa_cons (pe_tup (pa_cons (pe_bltn (v := .ty "tuple") (by rfl) gT PyProof.Rows.boot_tuple rfl) (pa_cons (pe_bltn (v := .ty "list") (by rfl) gLs PyProof.Rows.boot_list rfl) pa_nil))) pa_nil)))))
        (pw_or1 (pt_cmpR op_ne (pe_callB call_len_seq (by rfl) gL PySem.boot_len (pa_cons (pv 1) pa_nil)) pe_int (nomark _)))).pt (pss_one (ps_ret pe_bl)) pss_nil)
      (pss_one (ps_ret (pe_and (pe_call GW hr rfl gW kW bW .nil pass0 (pa_cons (pv 0) (pa_cons (pe_ix ix_seq (pv 1) pe_int (fun _ _ => rfl)) pa_nil)))
        (pe_and (pe_callB call_isi (by rfl) gI PyProof.Rows.boot_isinstance (pa_cons (pe_ix ix_seq (pv 1) pe_int (fun _ _ => rfl)) (pa_cons (pe_bltn (v := .ty "bool") (by rfl) gB PyProof.Rows.boot_bool rfl) pa_nil)))
          (pe_one (pe_callB call_isi (by rfl) gI PyProof.Rows.boot_isinstance (pa_cons (pe_ix ix_seq (pv 1) pe_int (fun _ _ => rfl)) (pa_cons (pe_bltn (v := .ty "bool") (by rfl) gB PyProof.Rows.boot_bool rfl) pa_nil)))))))), ?_⟩
    refine ⟨v, rfl, (by show 2 ≤ sizeLine; decide), fun tp hp => ?_⟩
    have s1 := upd_new (o := .tup [.ty "tuple", .ty "list"]) hp
    have t1 : upd H tp (.tup [.ty "tuple", .ty "list"]) tp = some (.tup [.ty "tuple", .ty "list"]) := upd_same
    generalize upd H tp (.tup [.ty "tuple", .ty "list"]) = H1 at s1 t1
    have hd1 := de_mono s1 d v hd
    obtain ⟨T, tx, _, _, b1, b2, k1, k2, kk⟩ := ty_of hd1
    refine ⟨v, tp, [.ty "tuple", .ty "list"], .type T, [.type "tuple", .type "list"], isTL d, rfl, t1, .cons (.ty _) (.cons (.ty _) .nil), tx, (by rw [← kk]; exact kit_two k1 k2), _, rfl, ?_⟩
    have shape : (isTL d = false ∧ okR ls d = false) ∨ ∃ (p : Addr) (vs : List V) (ds : List PyData), v = .ref p ∧ DeAll K H1 vs ds ∧ (SqL K H1 p vs ∨ SqT K H1 p vs) ∧
        (∀ H2, Same H1 H2 → ∀ (j : Nat) (x : V), vs[j]? = some x → ∀ R : VK, R x H2 → rIx K (.ref p) (.int (j : Int)) H2 R) ∧ isTL d = true ∧ okR ls d = okR3 ls ds ∧ ∀ x, PyData.str x ∈ ds → x.cps.size ≤ 1000 := by
      cases hd1 with
      | @lst a vs ds ha hds => exact .inr ⟨a, vs, ds, rfl, hds, .inl (.inl (.inl ha)), fun H2 s2 j x hx R q => .inl ⟨a, vs, _, x, rfl, rfl, .inl (.inl (s2 _ _ ha)), atI_nat hx, q⟩, rfl, rfl, hF ds (.inr rfl)⟩
      | @tup a vs ds ha hds => exact .inr ⟨a, vs, ds, rfl, hds, .inr (.inl (.inl ha)), fun H2 s2 j x hx R q => .inr (.inl ⟨a, vs, _, x, rfl, rfl, .inl (.inl (s2 _ _ ha)), atI_nat hx, q⟩), rfl, rfl, hF ds (.inl rfl)⟩
      | _ => exact .inl ⟨rfl, rfl⟩
    rcases shape with ⟨e1, e2⟩ | ⟨p, vs, ds, rfl, hda, hsq, hix, e1, e2, hfit⟩
    · rw [e1]
      refine iteT (iteT ?_)
      have z := k H1 s1
      rw [e2] at z
      exact z
    rw [e1]
    have hl := deAll_len hda
    refine iteF ⟨V.ref p, rfl, p, vs, rfl, hsq, rfl, _, rfl, ?_⟩
    have no : ∀ H2, Same H1 H2 → okR3 ls ds = false → Q (.bl false) H2 := fun H2 s2 e => by
      have z := k H2 (s1.trans s2)
      rw [e2, e] at z
      exact z
    refine ite2 (fun c1 => ?_) (fun c1 => ?_)
    · refine no H1 (Same.refl H1) ?_
      have n3 : ds.length ≠ 3 := fun z => by
        have z2 : decide (V.int (vs.length : Nat) = V.int 3) = true := decide_eq_true (by rw [hl, z]; rfl)
        rw [z2] at c1
        exact absurd c1 (by decide)
      match ds, n3 with
      | [], _ => rfl
      | [_], _ => rfl
      | [_, _], _ => rfl
      | [_, _, _], n => exact absurd rfl n
      | _ :: _ :: _ :: _ :: _, _ => rfl
    · have l3 : vs.length = 3 := by
        have z : decide (V.int (vs.length : Nat) = V.int 3) = true := by simpa using c1
        have z2 := of_decide_eq_true z
        injection z2 with z2
        omega
      cases hda with
      | nil => cases l3
      | @cons v0 vs d0 ds h0 t0 =>
        cases t0 with
        | nil => cases l3
        | @cons v1 vs d1 ds h1 t1 =>
          cases t1 with
          | nil => cases l3
          | @cons v2 vs d2 ds h2 t2 =>
            cases t2 with
            | cons _ _ => simp at l3
            | nil =>
              refine ⟨V.str ls, rfl, V.ref p, rfl, hix H1 (Same.refl H1) 0 v0 rfl _ ⟨ls, v0, d0, rfl, h0, fun x e => hfit x (by rw [e]; simp), fun H2 s2 => ⟨okW ls d0, rfl, ?_⟩⟩⟩
              refine ite2 (fun a0 => ?_) (fun a0 => no H2 s2 (by simp only [okR3, Bool.not_eq_true] at a0 ⊢; rw [a0]; rfl))
              obtain ⟨T1, tx1, _, kb1, _⟩ := ty_of (de_mono s2 d1 v1 h1)
              refine ⟨V.ref p, rfl, hix H2 s2 1 v1 rfl _ ⟨v1, .ty "bool", .type T1, .type "bool", isB d1, rfl, .ty _, tx1, kit_ty kb1, _, rfl, ?_⟩⟩
              refine ite2 (fun a1 => ?_) (fun a1 => no H2 s2 (by simp only [okR3, Bool.not_eq_true] at a1 ⊢; rw [a1]; simp))
              obtain ⟨T2, tx2, _, kb2, _⟩ := ty_of (de_mono s2 d2 v2 h2)
              refine ⟨V.ref p, rfl, hix H2 s2 2 v2 rfl _ ⟨v2, .ty "bool", .type T2, .type "bool", isB d2, rfl, .ty _, tx2, kit_ty kb2, ?_⟩⟩
              have z := k H2 (s1.trans s2)
              rw [e2] at z
              simp only [okR3, a0, a1, Bool.true_and] at z
              exact z
end
end SK
namespace SK
open PySem PySem.Spec PyProof.Rows L2 LamX NdefX
open K0 (De DeAll XCl spX withX)
/-- what is told of an own exception class, by its name -/
structure XR (P : Program) (w : World) (K : PySem.W.Frag) (mg : Str → Option Value) (base : Heap) (x : Str) (C : Addr) (fs : List Str) : Prop where
  cl : XCl K C
  gC : mg x = some (.ref C)
  no : ∀ n ∈ fs, PySem.W.findIn K (.ref C) n = some none
  ini : ∃ f fd, PySem.W.findIn K (.ref C) "__init__" = some (some (.ref f)) ∧ PySem.W.typeIn K (.ref f) = some (.type "function") ∧ FnOk P w K mg base CX0 1 f fd (("self" : Str) :: fs) (spX C fs) ∧ Binds K fd (("self" : Str) :: fs) []
theorem withX_at {H : Hp} {a dx C : Addr} {gs : List (Str × V)} : withX H C a dx gs a = some (exo a C (some dx)) := upd_same
theorem withX_dx {H : Hp} {a dx C : Addr} {gs : List (Str × V)} (ne : dx ≠ a) : withX H C a dx gs dx = some (exd dx gs) := (upd_ne ne).trans upd_same
/-- the making of such an exception, read behind its arguments -/
theorem rd_mk {C : Addr} {fs : List Str} {vs : List V} {H1 : Hp} {Q : XK} (hl : vs.length = fs.length) (hz : vs.length ≤ 1000) (k : ∀ (d : Addr) (H' : Hp), Same H1 H' → H1 d = none → H' d = some (.xd (fs.zip vs).reverse) → Q (.ref C) (some d) H') :
    vs.length ≤ 1000 ∧ ∀ a, H1 a = none → spX C fs (.ref a :: (vs ++ [])) (upd H1 a (exo a C none))
      (fun v H2 => v = .non ∧ ∃ (d : Addr) (gs : List (Str × V)), H2 a = some (exo a C (some d)) ∧ H2 d = some (exd d gs) ∧ H1 d = none ∧ Q (.ref C) (some d) (upd (del H2 a) d (.xd gs))) (fun _ _ _ => False) := by
  refine ⟨hz, fun a na => ⟨a, vs ++ [], rfl, by rw [List.append_nil]; exact hl, upd_same, fun dx nd ne => ?_⟩⟩
  rw [upd_ne ne] at nd
  refine ⟨rfl, dx, _, withX_at, withX_dx ne, nd, k dx _ (fun b o e => ?_) nd ?_⟩
  · have n1 : b ≠ a := ne_of_none e na
    have n2 : b ≠ dx := ne_of_none e nd
    rw [upd_ne n2, del_ne n1]
    show upd (upd (upd H1 a _) dx _) a _ b = some o
    rw [upd_ne n1, upd_ne n2, upd_ne n1]
    exact e
  · rw [List.append_nil]
    exact upd_same
/-- what is wanted of an exception of the class C with the fields gs -/
def Thrown (E : XK) (C : Addr) (H : Hp) (gs : List (Str × V)) : Prop := ∀ (H' : Hp) (d : Addr), Same H H' → H d = none → H' d = some (.xd gs) → E (.ref C) (some d) H'
def spCheckL (K : PySem.W.Frag) (C : Addr) : Sp := fun vs H Q E => ∃ (v : V) (d : PyData), vs = [v] ∧ De K H v d ∧ (∀ x, d = .str x → x.cps.all (· < 128) = true ∧ x.cps.size ≤ 1000) ∧ (okLd d = true → ∀ H', Same H H' → Q .non H') ∧ (okLd d = false → Thrown E C H [("letters", v)])
def spCheckP (C : Addr) : Sp := fun vs H Q E => ∃ n : Nat, vs = [.int n] ∧ (1 ≤ n ∧ n ≤ 2000 → Q .non H) ∧ (¬ (1 ≤ n ∧ n ≤ 2000) → Thrown E C H [("most", .int 2000), ("many", .int n), ("what", .str "places")])
theorem Thrown.mono {E : XK} {C : Addr} {H H1 : Hp} {gs : List (Str × V)} (t : Thrown E C H gs) (s : Same H H1) : Thrown E C H1 gs := fun H' d s' n e => t H' d (s.trans s') (s.free n) e
section
variable {P : Program} {w : World} {K : PySem.W.Frag} {mg : Str → Option Value} {base : Heap} {f fL C : Addr} {fd fdL : FuncData}
theorem sc13 : FnScope ["letters"] ["letters"] (defScope (top 13)) := ⟨rfl, rfl, rfl, by decide +kernel, rfl, by decide +kernel, by decide +kernel⟩
theorem ok_checkL (F : Fun K "check_letters" "check_letters" (top 13) f fd) (D : XR P w K mg base "BadLetters" C ["letters"]) (gL : mg "is_letters" = some (.ref fL)) (kL : PySem.W.keepIn K (.ref fL) = true) (GL : FnOk P w K mg base CX0 1 fL fdL ["letters"] (spLet K)) (bL : Binds K fdL ["letters"] []) :
    FnOk P w K mg base (L2.CX P w) 3 f fd ["letters"] (spCheckL K C) := by
  refine F.okX sc13 (fun vs H Q E h => ?_) (fun cdv A outer s H vs Q E hr h => ?_)
  · obtain ⟨v, d, rfl, _⟩ := h
    rfl
  · obtain ⟨v, d, rfl, hd, hx, k1, k2⟩ := h
    obtain ⟨fi, fdi, iC, tI, F1, b1⟩ := D.ini
    refine ⟨_, pss_one (ps_if (pt_not (pt_val (pe_call GL (hr.mono (by decide)) rfl gL kL bL .nil pass0 (pa_cons (pv 0) pa_nil)))) (pss_one (ps_raise rfl (takes_of rfl rfl rfl rfl) (pmk_oex D.cl.T iC tI F1 hr b1 .nil pass0 (by rfl) D.gC (pa_cons (pv 0) pa_nil)))) pss_nil), ?_⟩
    refine ⟨v, rfl, v, d, rfl, hd, hx, fun H1 s1 => ⟨_, rfl, ?_⟩⟩
    cases e : okLd d with
    | true => exact iteF (k1 e H1 s1)
    | false => exact iteT ⟨v, rfl, rd_mk rfl (by show 1 ≤ 1000; decide) fun dx H' s' n q => (k2 e).mono s1 H' dx s' n q⟩
theorem sc16 : FnScope ["many"] ["many"] (defScope (top 16)) := ⟨rfl, rfl, rfl, by decide +kernel, rfl, by decide +kernel, by decide +kernel⟩
theorem ok_checkP (F : Fun K "check_places" "check_places" (top 16) f fd) (D : XR P w K mg base "TooMany" C ["what", "many", "most"]) {tM : Tok} (gM : mg "MOST_PLACES" = some (.int 2000 tM)) : FnOk P w K mg base (L2.CX P w) 3 f fd ["many"] (spCheckP C) := by
  refine F.okX sc16 (fun vs H Q E h => ?_) (fun cdv A outer s H vs Q E hr h => ?_)
  · obtain ⟨n, rfl, _⟩ := h
    rfl
  · obtain ⟨n, rfl, k1, k2⟩ := h
    obtain ⟨fi, fdi, iC, tI, F1, b1⟩ := D.ini
    refine ⟨_, pss_one (ps_if (pt_not (pt_chain op_le op_le pe_int (pv 0) (pe_glob (v := V.int 2000) (by rfl) gM ⟨_, rfl⟩))) (pss_one (ps_raise rfl (takes_of rfl rfl rfl rfl) (pmk_oex D.cl.T iC tI F1 hr b1 .nil pass0 (by rfl) D.gC (pa_cons pe_str (pa_cons (pv 0) (pa_cons (pe_glob (v := V.int 2000) (by rfl) gM ⟨_, rfl⟩) pa_nil)))))) pss_nil), ?_⟩
    refine ⟨V.int n, rfl, 1, (n : Int), rfl, rfl, _, rfl, ?_⟩
    have thr : ¬ (1 ≤ n ∧ n ≤ 2000) → tCons (tC (.str "places")) (tCons (tVar 0) (tCons (tC (.int 2000)) tNil)) (start ["many"] [V.int n]) H fun vs H1 => vs.length ≤ 1000 ∧ ∀ a, H1 a = none → spX C ["what", "many", "most"] (.ref a :: (vs ++ [])) (upd H1 a (exo a C none))
        (fun v H2 => v = .non ∧ ∃ (d : Addr) (gs : List (Str × V)), H2 a = some (exo a C (some d)) ∧ H2 d = some (exd d gs) ∧ H1 d = none ∧ E (.ref C) (some d) (upd (del H2 a) d (.xd gs))) (fun _ _ _ => False) :=
      fun no => ⟨V.int n, rfl, rd_mk rfl (by show 3 ≤ 1000; decide) fun dx H' s' n' q => k2 no H' dx s' n' q⟩
    refine ite2 (fun c1 => ?_) (fun c1 => ?_)
    · have c1' := of_decide_eq_true c1
      refine ⟨(n : Int), 2000, rfl, rfl, _, rfl, ?_⟩
      by_cases c2 : (n : Int) ≤ 2000
      · rw [decide_eq_true c2]
        exact iteF (k1 ⟨by omega, by omega⟩)
      · rw [decide_eq_false c2]
        exact iteT (thr (by omega))
    · refine ⟨_, rfl, iteT (thr fun z => c1 (decide_eq_true (by omega)))⟩
end
end SK
namespace SK
open PySem PySem.Spec PyProof.Rows L2 LamX NdefX
open K0 (De DeAll XCl spX withX)
/-! ### rows into a table -/
def elems : PyData → List PyData
  | .tuple ds => ds
  | .list ds => ds
  | _ => []
def placeOf (d : PyData) : Str := match elems d with
  | .str x :: _ => x
  | _ => Str.empty
/-- the number of the first row that is none, or whose place stands before -/
def scan (ls : Str) : List Str → Nat → List PyData → Option Nat
  | _, _, [] => none
  | seen, i, d :: r => if okR ls d = true ∧ placeOf d ∉ seen then scan ls (seen ++ [placeOf d]) (i + 1) r else some i
theorem okR_elems {ls : Str} {d : PyData} (h : okR ls d = true) : ∃ (x : Str) (b c : PyData), elems d = [.str x, b, c] ∧ isTL d = true ∧ placeOf d = x ∧ x.cps.size ≤ 200 ∧ (∀ c ∈ x.cps.toList, c ∈ ls.cps.toList) := by
  have three : ∀ ds, okR3 ls ds = true → ∃ (x : Str) (b c : PyData), ds = [.str x, b, c] ∧ x.cps.size ≤ 200 ∧ (∀ c ∈ x.cps.toList, c ∈ ls.cps.toList) := fun ds h => by
    match ds, h with
    | [a, b, c], h =>
      simp only [okR3, Bool.and_eq_true] at h
      have h1 := h.1
      match a, h1 with
      | .str x, h1 =>
        simp only [okW, Bool.and_eq_true, decide_eq_true_eq, List.all_eq_true] at h1
        exact ⟨x, b, c, rfl, h1.1, h1.2⟩
  match d, h with
  | .tuple ds, h =>
    obtain ⟨x, b, c, rfl, h1, h2⟩ := three ds h
    exact ⟨x, b, c, rfl, rfl, rfl, h1, h2⟩
  | .list ds, h =>
    obtain ⟨x, b, c, rfl, h1, h2⟩ := three ds h
    exact ⟨x, b, c, rfl, rfl, rfl, h1, h2⟩
/-- the table of the rows ds -/
def TabOk (K : PySem.W.Frag) (G : Hp) (kvs : List (Key × V)) (ds : List PyData) : Prop := kvs.map Prod.fst = ds.map (fun d => (Sum.inr (placeOf d) : Key)) ∧ ∀ (i : Nat) (d : PyData), ds[i]? = some d → ∃ v, kvs[i]? = some (Sum.inr (placeOf d), v) ∧ De K G v (.tuple (elems d))
theorem TabOk.nil {K : PySem.W.Frag} {G : Hp} : TabOk K G [] [] := ⟨rfl, fun i d h => by simp at h⟩
theorem TabOk.mono {K : PySem.W.Frag} {G G' : Hp} {kvs : List (Key × V)} {ds : List PyData} (t : TabOk K G kvs ds) (s : Same G G') : TabOk K G' kvs ds := ⟨t.1, fun i d h => by
  obtain ⟨v, h1, h2⟩ := t.2 i d h
  exact ⟨v, h1, de_mono s _ _ h2⟩⟩
theorem TabOk.snoc {K : PySem.W.Frag} {G : Hp} {kvs : List (Key × V)} {ds : List PyData} {d : PyData} {v : V} (t : TabOk K G kvs ds) (h : De K G v (.tuple (elems d))) : TabOk K G (kvs ++ [(.inr (placeOf d), v)]) (ds ++ [d]) := by
  have hl : kvs.length = ds.length := by
    have z := congrArg List.length t.1
    simpa using z
  refine ⟨by rw [List.map_append, List.map_append, t.1]; rfl, fun i e he => ?_⟩
  by_cases hi : i < ds.length
  · rw [List.getElem?_append_left hi] at he
    obtain ⟨u, h1, h2⟩ := t.2 i e he
    exact ⟨u, by rw [List.getElem?_append_left (by omega)]; exact h1, h2⟩
  · rw [List.getElem?_append_right (by omega)] at he
    have hi2 : i = ds.length := by
      have z := (List.getElem?_eq_some_iff.mp he).1
      simp at z
      omega
    subst hi2
    simp at he
    subst he
    exact ⟨v, by rw [List.getElem?_append_right (by omega), hl]; simp, h⟩
theorem TabOk.has {K : PySem.W.Frag} {G : Hp} {kvs : List (Key × V)} {ds : List PyData} (t : TabOk K G kvs ds) (x : Str) : (valV kvs (.inr x)).isSome = decide (x ∈ ds.map placeOf) := by
  rw [← valV_any]
  have e : (kvs.any fun kv => decide (kv.1 = (.inr x : Key))) = (kvs.map (·.1)).any fun k => decide (k = (.inr x : Key)) := by
    rw [List.any_map]
    rfl
  rw [e, t.1, List.any_map]
  by_cases h : x ∈ ds.map placeOf
  · rw [decide_eq_true h]
    obtain ⟨d, hd, rfl⟩ := List.mem_map.mp h
    exact List.any_eq_true.mpr ⟨d, hd, by simp⟩
  · rw [decide_eq_false h, List.any_eq_false]
    intro d hd
    simp only [Function.comp, decide_eq_true_eq]
    intro z
    injection z with z
    exact h (List.mem_map.mpr ⟨d, hd, z⟩)
def Rows (H : Hp) (a : Addr) (xs : List V) : Prop := H a = some (.lst xs) ∨ H a = some (.tup xs)
def spTable (K : PySem.W.Frag) (C : Addr) : Sp := fun vs H Q E => ∃ (ls : Str) (a : Addr) (xs : List V) (ds : List PyData), vs = [.str ls, .ref a] ∧ Rows H a xs ∧ DeAll K H xs ds ∧ (∀ d ∈ ds, Fit d) ∧ xs.length ≤ 5000 ∧
  (scan ls [] 0 ds = none → ∀ (H' : Hp) (T : Addr) (kvs : List (Key × V)), Same H H' → H T = none → H' T = some (.dK kvs) → TabOk K H' kvs ds → Q (.ref T) H') ∧ (∀ i, scan ls [] 0 ds = some i → Thrown E C H [("number", .int (i : Nat))])
theorem deAll_at {K : PySem.W.Frag} {H : Hp} : ∀ {xs : List V} {ds : List PyData}, DeAll K H xs ds → ∀ {i : Nat} {x : V}, xs[i]? = some x → ∃ d, ds[i]? = some d ∧ De K H x d
  | _, _, .nil, i, x, h => by simp at h
  | _, _, .cons h1 t, 0, x, h => by
    simp at h
    subst h
    exact ⟨_, rfl, h1⟩
  | _, _, .cons h1 t, i + 1, x, h => deAll_at t (by simpa using h)
/-- how far the loop has come -/
structure TLoop (K : PySem.W.Frag) (ls : Str) (a T : Addr) (H : Hp) (xs : List V) (ds : List PyData) (i : Nat) (σ : St) (H1 : Hp) : Prop where
  sl : ∃ x3 x4, σ = [some (.str ls), some (.ref a), some (.ref T), x3, x4]
  hp : ∃ (G : Hp) (kvs : List (Key × V)), Same H G ∧ G T = none ∧ Same G H1 ∧ H1 T = some (.dK kvs) ∧ TabOk K G kvs (ds.take i)
  sc : scan ls [] 0 ds = scan ls ((ds.take i).map placeOf) i (ds.drop i)
section
variable {P : Program} {w : World} {K : PySem.W.Frag} {mg : Str → Option Value} {base : Heap} {f fR C : Addr} {fd fdR : FuncData}
theorem sc19 : FnScope ["letters", "rows", "table", "number", "row"] ["letters", "rows"] (defScope (top 19)) := ⟨rfl, rfl, rfl, by decide +kernel, rfl, by decide +kernel, by decide +kernel⟩
theorem ok_table (F : Fun K "table_of" "table_of" (top 19) f fd) (D : XR P w K mg base "BadRow" C ["number"]) (gE : mg "enumerate" = none) (gT : mg "tuple" = none) (gR : mg "is_row" = some (.ref fR)) (kR : PySem.W.keepIn K (.ref fR) = true)
    (GR : FnOk P w K mg base CX0 2 fR fdR ["letters", "row"] (spRow K)) (bR : Binds K fdR ["letters", "row"] []) : FnOk P w K mg base (L2.CX P w) 3 f fd ["letters", "rows"] (spTable K C) := by
  refine F.okX sc19 (fun vs H Q E h => ?_) (fun cdv A outer s H vs Q E hr h => ?_)
  · obtain ⟨ls, a, xs, ds, rfl, _⟩ := h
    rfl
  · obtain ⟨ls, a, xs, ds, rfl, hrows, hda, hfit, hz, k1, k2⟩ := h
    obtain ⟨fi, fdi, iC, tI, F1, b1⟩ := D.ini
    have hu := hu_of hr
    have hlen := deAll_len hda
    rcases hrows with ha | ha
    · refine ⟨_, pss_cons (ps_set (i := 2) sc19.nd rfl (Or.inl rfl) pe_dnewK) (pss_cons (ps_for (passes_of rfl) rfl (pi_enum (by rfl) gE (pa_cons (pv 1) pa_nil)) (pg_tup rfl (pgs_cons (pg_name (i := 3) sc19.nd rfl (Or.inl rfl)) (pgs_cons (pg_name (i := 4) sc19.nd rfl (Or.inl rfl)) pgs_nil)))
        (pss_cons (ps_if (pw_or (pt_not (pt_val (pe_call GR hr (by rfl) gR kR bR .nil pass0 (pa_cons (pv 0) (pa_cons (pv 4) pa_nil))))) (pw_or1 (pt_cmp (pc_din hu (pe_ix ix_seq (pv 4) pe_int (fun _ _ => rfl)) (pv 2))))).pt
            (pss_one (ps_raise rfl (takes_of rfl rfl rfl rfl) (pmk_oex D.cl.T iC tI F1 hr b1 .nil pass0 (by rfl) D.gC (pa_cons (pv 3) pa_nil)))) pss_nil)
          (pss_one (ps_dput hu (pv 2) (pe_ix ix_seq (pv 4) pe_int (fun _ _ => rfl)) (pe_callTy call_tuple_of (by rfl) gT PyProof.Rows.boot_tuple (pa_cons (pv 4) pa_nil)) rfl))))
        (pss_one (ps_ret (pv 2)))), ?_⟩
      refine fun T nT => ⟨V.ref a, rfl, a, xs, rfl, .inl (.inl (upd_new nT _ _ ha)), for_it (walk_enum (K := K) (xs := xs)) (TLoop K ls a T H xs ds) ?st (fun i σ H1 _ q => ?go) ?tn ?en⟩
      case st => exact ⟨⟨none, none, rfl⟩, ⟨H, [], Same.refl H, nT, upd_new nT, upd_same, TabOk.nil⟩, rfl⟩
      case go =>
        obtain ⟨G, kvs, s1, n1, s2, _, _⟩ := q.hp
        exact .inl (.inl (s2 _ _ (s1 _ _ ha)))
      case en =>
        rintro σ H1 ⟨⟨x3, x4, rfl⟩, ⟨G, kvs, s1, n1, s2, hT, tb⟩, hsc⟩
        rw [hlen, List.take_length] at tb
        rw [hlen, List.drop_length, List.take_length] at hsc
        exact ⟨V.ref T, rfl, k1 hsc H1 T kvs (s1.trans s2) nT hT (tb.mono s2)⟩
      case tn =>
        rintro i x σ H1 H2 hi ⟨⟨x3, x4, rfl⟩, ⟨G, kvs, s1, n1, s2, hT, tb⟩, hsc⟩ ⟨T1, x1, y1, rfl, nT1, rfl, ex, ey⟩
        obtain rfl : V.int (i : Nat) = x1 := Option.some.inj ex
        obtain ⟨d, hdi, hd⟩ := deAll_at hda ey
        have s3 : Same H1 (upd H1 T1 (.tup [.int (i : Nat), y1])) := upd_new nT1
        refine ⟨T1, _, rfl, .inl (.inl upd_same), rfl, _, _, rfl, _, _, rfl, rfl, ?_⟩
        generalize upd H1 T1 (.tup [.int (i : Nat), y1]) = H2 at s3
        have hd2 : De K H2 y1 d := de_mono ((s1.trans s2).trans s3) d y1 hd
        refine ⟨V.str ls, rfl, y1, rfl, ls, y1, d, rfl, hd2, hfit d (List.mem_of_getElem? hdi), fun H3 s4 => ⟨okR ls d, rfl, ?_⟩⟩
        have s13 := (s1.trans s2).trans (s3.trans s4)
        have hil : i < ds.length := by omega
        have ed : ds.drop i = d :: ds.drop (i + 1) := by
          have z := List.drop_eq_getElem_cons hil
          have e2 : ds[i] = d := by
            rw [List.getElem?_eq_getElem hil] at hdi
            exact Option.some.inj hdi
          rw [z, e2]
        have et : ds.take (i + 1) = ds.take i ++ [d] := by
          rw [List.take_add_one, hdi]
          rfl
        rw [ed] at hsc
        have thr : ¬ (okR ls d = true ∧ placeOf d ∉ (ds.take i).map placeOf) → ∀ H4, Same H H4 → Thrown E C H4 [("number", .int (i : Nat))] := fun no H4 s5 => by
          have z : scan ls [] 0 ds = some i := by
            rw [hsc]
            show (if okR ls d = true ∧ placeOf d ∉ (ds.take i).map placeOf then _ else _) = _
            rw [if_neg no]
          exact (k2 i z).mono s5
        cases eR : okR ls d with
        | false => exact iteT (iteT ⟨V.int (i : Nat), rfl, rd_mk rfl (by show 1 ≤ 1000; decide) fun dx H' s' n q => thr (fun z => by rw [eR] at z; exact absurd z.1 (by decide)) H3 s13 H' dx s' n q⟩)
        | true =>
        obtain ⟨px, pb, pc, he, hTL, hpl, hp1, hp2⟩ := okR_elems eR
        have hT3 : H3 T = some (.dK kvs) := s4 _ _ (s3 _ _ hT)
        have hd3 : De K H3 y1 d := de_mono s4 d y1 hd2
        have hdG : De K G y1 d := de_mono s1 d y1 hd
        -- the row as a tuple or a list
        obtain ⟨p, v0, vr, rfl, hG, hsq, hix⟩ : ∃ (p : Addr) (v0 : V) (vr : List V), y1 = .ref p ∧ DeAll K G (v0 :: vr) (elems d) ∧ (G p = some (.lst (v0 :: vr)) ∨ (G p = some (.tup (v0 :: vr)) ∧ De K G (.ref p) (.tuple (elems d)))) ∧
            ∀ H5, Same G H5 → ∀ R : VK, R v0 H5 → rIx K (.ref p) (.int 0) H5 R := by
          cases hdG with
          | @lst a1 vs ds1 ha1 hds =>
            have he' : ds1 = [.str px, pb, pc] := he
            subst he'
            cases hds with
            | @cons v0 vr _ _ h0 t0 => exact ⟨a1, v0, vr, rfl, .cons h0 t0, .inl ha1, fun H5 s5 R q => .inl ⟨a1, _, 0, v0, rfl, rfl, .inl (.inl (s5 _ _ ha1)), atI_nat (j := 0) rfl, q⟩⟩
          | @tup a1 vs ds1 ha1 hds =>
            have he' : ds1 = [.str px, pb, pc] := he
            subst he'
            cases hds with
            | @cons v0 vr _ _ h0 t0 => exact ⟨a1, v0, vr, rfl, .cons h0 t0, .inr ⟨ha1, .tup ha1 (.cons h0 t0)⟩, fun H5 s5 R q => .inr (.inl ⟨a1, _, 0, v0, rfl, rfl, .inl (.inl (s5 _ _ ha1)), atI_nat (j := 0) rfl, q⟩)⟩
          | _ => cases hTL
        have hv0 : v0 = .str (placeOf d) := by
          rw [he] at hG
          cases hG with
          | cons h0 _ =>
            cases h0
            rw [hpl]
        subst hv0
        have sG3 : Same G H3 := s2.trans (s3.trans s4)
        have hget : DGet H3 T (.str (placeOf d)) (valV kvs (.inr (placeOf d))) := DGet.k (k := (.inr (placeOf d) : Key)) hT3
        refine iteF ⟨V.ref p, rfl, hix H3 sG3 _ ⟨V.ref T, rfl, T, _, rfl, hget, _, rfl, ?_⟩⟩
        rw [tb.has]
        refine ite2 (fun c1 => ?_) (fun c1 => ?_)
        · have hm := of_decide_eq_true c1
          exact ⟨V.int (i : Nat), rfl, rd_mk rfl (by show 1 ≤ 1000; decide) fun dx H' s' n q => thr (fun z => z.2 hm) H3 s13 H' dx s' n q⟩
        · have hm : placeOf d ∉ (ds.take i).map placeOf := fun z => c1 (decide_eq_true z)
          have hsc2 : scan ls [] 0 ds = scan ls ((ds.take (i + 1)).map placeOf) (i + 1) (ds.drop (i + 1)) := by
            rw [hsc, et, List.map_append]
            show (if okR ls d = true ∧ placeOf d ∉ (ds.take i).map placeOf then _ else _) = _
            rw [if_pos ⟨eR, hm⟩]
            rfl
          have hnone : valV kvs (.inr (placeOf d)) = none := by
            have z := tb.has (placeOf d)
            rw [decide_eq_false hm] at z
            cases q : valV kvs (.inr (placeOf d)) with
            | none => rfl
            | some v =>
              rw [q] at z
              cases z
          have hkl : kvs.length < sizeLine := by
            have z := congrArg List.length tb.1
            rw [List.length_map, List.length_map, List.length_take] at z
            have z2 : (5000 : Nat) < sizeLine := by decide
            omega
          -- behind the store
          have fin : ∀ (tv : V) (G2 H4 : Hp), Same G G2 → G2 T = none → Same G2 H4 → H4 T = some (.dK kvs) → De K G2 tv (.tuple (elems d)) → TLoop K ls a T H xs ds (i + 1) [some (.str ls), some (.ref a), some (.ref T), some (.int (i : Nat)), some (.ref p)] (upd H4 T (.dK (putK kvs (.inr (placeOf d)) tv))) := fun tv G2 H4 g1 g2 g3 g4 g5 => by
            refine ⟨⟨_, _, rfl⟩, ⟨G2, kvs ++ [(.inr (placeOf d), tv)], s1.trans g1, g2, fun b o e => ?_, ?_, ?_⟩, hsc2⟩
            · rw [upd_ne (ne_of_none e g2)]
              exact g3 _ _ e
            · rw [putK_new tv hnone]
              exact upd_same
            · rw [et]
              exact (tb.mono g1).snoc g5
          rcases hsq with hl | ⟨ht, htd⟩
          · refine ⟨V.ref p, rfl, p, _, rfl, .inl ⟨.inl (.inl (sG3 _ _ hl)), fun l nl => ?_⟩⟩
            have gl : G l = none := sG3.free nl
            have nTl : T ≠ l := fun z => by
              rw [← z, hT3] at nl
              cases nl
            refine ⟨V.ref T, rfl, V.ref p, rfl, hix _ (sG3.trans (upd_new nl)) _ ⟨T, _, rfl, DPut.k (k := (.inr (placeOf d) : Key)) ((upd_ne nTl).trans hT3) hkl, ?_⟩⟩
            refine fin (.ref l) (upd G l (.tup _)) (upd H3 l (.tup _)) (upd_new gl) ((upd_ne nTl).trans n1) (fun b o e => ?_) ((upd_ne nTl).trans hT3) (.tup upd_same (de_monoAll (upd_new gl) _ _ hG))
            by_cases hb : b = l
            · subst hb
              rw [upd_same] at e ⊢
              exact e
            · rw [upd_ne hb] at e ⊢
              exact sG3 _ _ e
          · refine ⟨V.ref p, rfl, p, _, rfl, .inr ⟨.inl (.inl (sG3 _ _ ht)), ?_⟩⟩
            refine ⟨V.ref T, rfl, V.ref p, rfl, hix _ sG3 _ ⟨T, _, rfl, DPut.k (k := (.inr (placeOf d) : Key)) hT3 hkl, ?_⟩⟩
            exact fin (.ref p) G H3 (Same.refl G) n1 sG3 hT3 htd
    · refine ⟨_, pss_cons (ps_set (i := 2) sc19.nd rfl (Or.inl rfl) pe_dnewK) (pss_cons (ps_for (passes_of rfl) rfl (pi_enumT (by rfl) gE (pa_cons (pv 1) pa_nil)) (pg_tup rfl (pgs_cons (pg_name (i := 3) sc19.nd rfl (Or.inl rfl)) (pgs_cons (pg_name (i := 4) sc19.nd rfl (Or.inl rfl)) pgs_nil)))
        (pss_cons (ps_if (pw_or (pt_not (pt_val (pe_call GR hr (by rfl) gR kR bR .nil pass0 (pa_cons (pv 0) (pa_cons (pv 4) pa_nil))))) (pw_or1 (pt_cmp (pc_din hu (pe_ix ix_seq (pv 4) pe_int (fun _ _ => rfl)) (pv 2))))).pt
            (pss_one (ps_raise rfl (takes_of rfl rfl rfl rfl) (pmk_oex D.cl.T iC tI F1 hr b1 .nil pass0 (by rfl) D.gC (pa_cons (pv 3) pa_nil)))) pss_nil)
          (pss_one (ps_dput hu (pv 2) (pe_ix ix_seq (pv 4) pe_int (fun _ _ => rfl)) (pe_callTy call_tuple_of (by rfl) gT PyProof.Rows.boot_tuple (pa_cons (pv 4) pa_nil)) rfl))))
        (pss_one (ps_ret (pv 2)))), ?_⟩
      refine fun T nT => ⟨V.ref a, rfl, a, xs, rfl, upd_new nT _ _ ha, for_it (walk_enumT (xs := xs)) (TLoop K ls a T H xs ds) ?st (fun i σ H1 _ q => ?go) ?tn ?en⟩
      case st => exact ⟨⟨none, none, rfl⟩, ⟨H, [], Same.refl H, nT, upd_new nT, upd_same, TabOk.nil⟩, rfl⟩
      case go =>
        obtain ⟨G, kvs, s1, n1, s2, _, _⟩ := q.hp
        exact s2 _ _ (s1 _ _ ha)
      case en =>
        rintro σ H1 ⟨⟨x3, x4, rfl⟩, ⟨G, kvs, s1, n1, s2, hT, tb⟩, hsc⟩
        rw [hlen, List.take_length] at tb
        rw [hlen, List.drop_length, List.take_length] at hsc
        exact ⟨V.ref T, rfl, k1 hsc H1 T kvs (s1.trans s2) nT hT (tb.mono s2)⟩
      case tn =>
        rintro i x σ H1 H2 hi ⟨⟨x3, x4, rfl⟩, ⟨G, kvs, s1, n1, s2, hT, tb⟩, hsc⟩ ⟨T1, x1, y1, rfl, nT1, rfl, ex, ey⟩
        obtain rfl : V.int (i : Nat) = x1 := Option.some.inj ex
        obtain ⟨d, hdi, hd⟩ := deAll_at hda ey
        have s3 : Same H1 (upd H1 T1 (.tup [.int (i : Nat), y1])) := upd_new nT1
        refine ⟨T1, _, rfl, .inl (.inl upd_same), rfl, _, _, rfl, _, _, rfl, rfl, ?_⟩
        generalize upd H1 T1 (.tup [.int (i : Nat), y1]) = H2 at s3
        have hd2 : De K H2 y1 d := de_mono ((s1.trans s2).trans s3) d y1 hd
        refine ⟨V.str ls, rfl, y1, rfl, ls, y1, d, rfl, hd2, hfit d (List.mem_of_getElem? hdi), fun H3 s4 => ⟨okR ls d, rfl, ?_⟩⟩
        have s13 := (s1.trans s2).trans (s3.trans s4)
        have hil : i < ds.length := by omega
        have ed : ds.drop i = d :: ds.drop (i + 1) := by
          have z := List.drop_eq_getElem_cons hil
          have e2 : ds[i] = d := by
            rw [List.getElem?_eq_getElem hil] at hdi
            exact Option.some.inj hdi
          rw [z, e2]
        have et : ds.take (i + 1) = ds.take i ++ [d] := by
          rw [List.take_add_one, hdi]
          rfl
        rw [ed] at hsc
        have thr : ¬ (okR ls d = true ∧ placeOf d ∉ (ds.take i).map placeOf) → ∀ H4, Same H H4 → Thrown E C H4 [("number", .int (i : Nat))] := fun no H4 s5 => by
          have z : scan ls [] 0 ds = some i := by
            rw [hsc]
            show (if okR ls d = true ∧ placeOf d ∉ (ds.take i).map placeOf then _ else _) = _
            rw [if_neg no]
          exact (k2 i z).mono s5
        cases eR : okR ls d with
        | false => exact iteT (iteT ⟨V.int (i : Nat), rfl, rd_mk rfl (by show 1 ≤ 1000; decide) fun dx H' s' n q => thr (fun z => by rw [eR] at z; exact absurd z.1 (by decide)) H3 s13 H' dx s' n q⟩)
        | true =>
        obtain ⟨px, pb, pc, he, hTL, hpl, hp1, hp2⟩ := okR_elems eR
        have hT3 : H3 T = some (.dK kvs) := s4 _ _ (s3 _ _ hT)
        have hd3 : De K H3 y1 d := de_mono s4 d y1 hd2
        have hdG : De K G y1 d := de_mono s1 d y1 hd
        -- the row as a tuple or a list
        obtain ⟨p, v0, vr, rfl, hG, hsq, hix⟩ : ∃ (p : Addr) (v0 : V) (vr : List V), y1 = .ref p ∧ DeAll K G (v0 :: vr) (elems d) ∧ (G p = some (.lst (v0 :: vr)) ∨ (G p = some (.tup (v0 :: vr)) ∧ De K G (.ref p) (.tuple (elems d)))) ∧
            ∀ H5, Same G H5 → ∀ R : VK, R v0 H5 → rIx K (.ref p) (.int 0) H5 R := by
          cases hdG with
          | @lst a1 vs ds1 ha1 hds =>
            have he' : ds1 = [.str px, pb, pc] := he
            subst he'
            cases hds with
            | @cons v0 vr _ _ h0 t0 => exact ⟨a1, v0, vr, rfl, .cons h0 t0, .inl ha1, fun H5 s5 R q => .inl ⟨a1, _, 0, v0, rfl, rfl, .inl (.inl (s5 _ _ ha1)), atI_nat (j := 0) rfl, q⟩⟩
          | @tup a1 vs ds1 ha1 hds =>
            have he' : ds1 = [.str px, pb, pc] := he
            subst he'
            cases hds with
            | @cons v0 vr _ _ h0 t0 => exact ⟨a1, v0, vr, rfl, .cons h0 t0, .inr ⟨ha1, .tup ha1 (.cons h0 t0)⟩, fun H5 s5 R q => .inr (.inl ⟨a1, _, 0, v0, rfl, rfl, .inl (.inl (s5 _ _ ha1)), atI_nat (j := 0) rfl, q⟩)⟩
          | _ => cases hTL
        have hv0 : v0 = .str (placeOf d) := by
          rw [he] at hG
          cases hG with
          | cons h0 _ =>
            cases h0
            rw [hpl]
        subst hv0
        have sG3 : Same G H3 := s2.trans (s3.trans s4)
        have hget : DGet H3 T (.str (placeOf d)) (valV kvs (.inr (placeOf d))) := DGet.k (k := (.inr (placeOf d) : Key)) hT3
        refine iteF ⟨V.ref p, rfl, hix H3 sG3 _ ⟨V.ref T, rfl, T, _, rfl, hget, _, rfl, ?_⟩⟩
        rw [tb.has]
        refine ite2 (fun c1 => ?_) (fun c1 => ?_)
        · have hm := of_decide_eq_true c1
          exact ⟨V.int (i : Nat), rfl, rd_mk rfl (by show 1 ≤ 1000; decide) fun dx H' s' n q => thr (fun z => z.2 hm) H3 s13 H' dx s' n q⟩
        · have hm : placeOf d ∉ (ds.take i).map placeOf := fun z => c1 (decide_eq_true z)
          have hsc2 : scan ls [] 0 ds = scan ls ((ds.take (i + 1)).map placeOf) (i + 1) (ds.drop (i + 1)) := by
            rw [hsc, et, List.map_append]
            show (if okR ls d = true ∧ placeOf d ∉ (ds.take i).map placeOf then _ else _) = _
            rw [if_pos ⟨eR, hm⟩]
            rfl
          have hnone : valV kvs (.inr (placeOf d)) = none := by
            have z := tb.has (placeOf d)
            rw [decide_eq_false hm] at z
            cases q : valV kvs (.inr (placeOf d)) with
            | none => rfl
            | some v =>
              rw [q] at z
              cases z
          have hkl : kvs.length < sizeLine := by
            have z := congrArg List.length tb.1
            rw [List.length_map, List.length_map, List.length_take] at z
            have z2 : (5000 : Nat) < sizeLine := by decide
            omega
          -- behind the store
          have fin : ∀ (tv : V) (G2 H4 : Hp), Same G G2 → G2 T = none → Same G2 H4 → H4 T = some (.dK kvs) → De K G2 tv (.tuple (elems d)) → TLoop K ls a T H xs ds (i + 1) [some (.str ls), some (.ref a), some (.ref T), some (.int (i : Nat)), some (.ref p)] (upd H4 T (.dK (putK kvs (.inr (placeOf d)) tv))) := fun tv G2 H4 g1 g2 g3 g4 g5 => by
            refine ⟨⟨_, _, rfl⟩, ⟨G2, kvs ++ [(.inr (placeOf d), tv)], s1.trans g1, g2, fun b o e => ?_, ?_, ?_⟩, hsc2⟩
            · rw [upd_ne (ne_of_none e g2)]
              exact g3 _ _ e
            · rw [putK_new tv hnone]
              exact upd_same
            · rw [et]
              exact (tb.mono g1).snoc g5
          rcases hsq with hl | ⟨ht, htd⟩
          · refine ⟨V.ref p, rfl, p, _, rfl, .inl ⟨.inl (.inl (sG3 _ _ hl)), fun l nl => ?_⟩⟩
            have gl : G l = none := sG3.free nl
            have nTl : T ≠ l := fun z => by
              rw [← z, hT3] at nl
              cases nl
            refine ⟨V.ref T, rfl, V.ref p, rfl, hix _ (sG3.trans (upd_new nl)) _ ⟨T, _, rfl, DPut.k (k := (.inr (placeOf d) : Key)) ((upd_ne nTl).trans hT3) hkl, ?_⟩⟩
            refine fin (.ref l) (upd G l (.tup _)) (upd H3 l (.tup _)) (upd_new gl) ((upd_ne nTl).trans n1) (fun b o e => ?_) ((upd_ne nTl).trans hT3) (.tup upd_same (de_monoAll (upd_new gl) _ _ hG))
            by_cases hb : b = l
            · subst hb
              rw [upd_same] at e ⊢
              exact e
            · rw [upd_ne hb] at e ⊢
              exact sG3 _ _ e
          · refine ⟨V.ref p, rfl, p, _, rfl, .inr ⟨.inl (.inl (sG3 _ _ ht)), ?_⟩⟩
            refine ⟨V.ref T, rfl, V.ref p, rfl, hix _ sG3 _ ⟨T, _, rfl, DPut.k (k := (.inr (placeOf d) : Key)) hT3 hkl, ?_⟩⟩
            exact fin (.ref p) G H3 (Same.refl G) n1 sG3 hT3 htd
end
end SK
namespace SK
open PySem PySem.Spec PyProof.Rows L2 LamX NdefX
open K0 (De DeAll XCl spX withX)
/-! ### the letters below each place -/
def initS (p : Str) : Str := ⟨p.cps.toList.dropLast.toArray⟩
theorem cut_init (p : Str) : cutS p none (some (-1)) = initS p := by
  have e : HT.sIx p.length p.length (some (-1)) = p.length - 1 := by
    show (if (-1 : Int) < 0 then (-1 + (p.length : Int)).toNat else min (-1 : Int).toNat p.length) = _
    rw [if_pos (by decide)]
    omega
  unfold cutS initS
  rw [e, HT.sIx_none, List.drop_zero, Nat.sub_zero, List.dropLast_eq_take]
  have z : p.length = p.cps.toList.length := by simp [Str.length]
  rw [z]
theorem at_last {p : Str} (h : p ≠ Str.ofString "") : ∃ c, atI p.cps.toList (-1) = some c := by
  have hn : p.cps.toList ≠ [] := fun z => h (by
    have e : p.cps = #[] := by simpa using z
    obtain ⟨cps⟩ := p
    have e : cps = #[] := e
    rw [e]
    decide +kernel)
  have hp : 0 < p.cps.toList.length := List.length_pos_iff.mpr hn
  have e : ixN p.cps.toList.length (-1) = some (p.cps.toList.length - 1) := by
    unfold ixN
    rw [if_neg (by decide), if_pos (by omega)]
    congr 1
    omega
  exact ⟨_, by unfold atI; rw [e]; exact List.getElem?_eq_getElem (by omega)⟩
def isLone (ps : List Str) (p : Str) : Bool := decide (p ≠ Str.ofString "") && !decide (initS p ∈ ps)
def lone (ps : List Str) : Option Str := ps.find? (isLone ps)
def Keys (kvs : List (Key × V)) (ps : List Str) : Prop := kvs.map Prod.fst = ps.map fun p => (Sum.inr p : Key)
theorem Keys.has {kvs : List (Key × V)} {ps : List Str} (t : Keys kvs ps) (x : Str) : (valV kvs (.inr x)).isSome = decide (x ∈ ps) := by
  rw [← valV_any]
  have e : (kvs.any fun kv => decide (kv.1 = (.inr x : Key))) = (kvs.map Prod.fst).any fun k => decide (k = (.inr x : Key)) := by
    rw [List.any_map]
    rfl
  rw [e, t, List.any_map]
  by_cases h : x ∈ ps
  · rw [decide_eq_true h]
    exact List.any_eq_true.mpr ⟨x, h, by simp⟩
  · rw [decide_eq_false h, List.any_eq_false]
    intro d hd
    simp only [Function.comp, decide_eq_true_eq]
    intro z
    injection z with z
    exact h (z ▸ hd)
theorem Keys.len {kvs : List (Key × V)} {ps : List Str} (t : Keys kvs ps) : kvs.length = ps.length := by
  have z := congrArg List.length t
  simpa using z
theorem Keys.put {kvs : List (Key × V)} {ps : List Str} {x : Str} {v : V} (t : Keys kvs ps) (h : x ∈ ps) : Keys (putK kvs (.inr x) v) ps := by
  have e : (kvs.any fun kv => decide (kv.1 = (.inr x : Key))) = true := by
    rw [valV_any, t.has, decide_eq_true h]
  unfold putK
  rw [if_pos e]
  unfold Keys
  rw [List.map_map, ← t]
  refine List.map_congr_left fun kv _ => ?_
  show (if kv.1 = _ then (kv.1, v) else kv).1 = kv.1
  split <;> rfl
def spBelow (C : Addr) : Sp := fun vs H Q E => ∃ (a : Addr) (ps : List Str), vs = [.ref a] ∧ H a = some (.lst (ps.map V.str)) ∧ ps.Nodup ∧ (∀ p ∈ ps, p.cps.size ≤ 200) ∧ ps.length ≤ 5000 ∧
  (lone ps = none → ∀ (H' : Hp) (B : Addr) (kvs : List (Key × V)), Same H H' → H B = none → H' B = some (.dK kvs) → Keys kvs ps → Q (.ref B) H') ∧ (∀ p, lone ps = some p → Thrown E C H [("place", .str p)])
structure BLoop (a B : Addr) (H : Hp) (ps : List Str) (i : Nat) (σ : St) (H1 : Hp) : Prop where
  sl : ∃ x2 x3, σ = [some (.ref a), some (.ref B), x2, x3]
  hp : ∃ kvs : List (Key × V), Same H H1 ∧ H1 B = some (.dK kvs) ∧ Keys kvs ps ∧ ∀ kv ∈ kvs, ∃ z : Str, kv.2 = .str z ∧ z.length ≤ i
  no : ∀ j p, j < i → ps[j]? = some p → isLone ps p = false
theorem valV_mem {kvs : List (Key × V)} {k : Key} {v : V} (h : valV kvs k = some v) : ∃ kv ∈ kvs, kv.2 = v := by
  unfold valV at h
  cases e : kvs.find? (fun kv => decide (kv.1 = k)) with
  | none =>
    rw [e] at h
    cases h
  | some kv =>
    rw [e] at h
    exact ⟨kv, List.mem_of_find?_eq_some e, Option.some.inj h⟩
theorem lone_none {ps : List Str} (h : ∀ j p, j < ps.length → ps[j]? = some p → isLone ps p = false) : lone ps = none := by
  unfold lone
  rw [List.find?_eq_none]
  intro p hp
  obtain ⟨j, hj⟩ := List.mem_iff_getElem?.mp hp
  rw [h j p (List.getElem?_eq_some_iff.mp hj).1 hj]
  exact Bool.false_ne_true
theorem lone_first {ps : List Str} {i : Nat} {p : Str} (h : ∀ j q, j < i → ps[j]? = some q → isLone ps q = false) (hi : ps[i]? = some p) (hl : isLone ps p = true) : lone ps = some p := by
  unfold lone
  have hlt := (List.getElem?_eq_some_iff.mp hi).1
  have e : ps = ps.take i ++ p :: ps.drop (i + 1) := by
    have z := List.drop_eq_getElem_cons hlt
    have e2 : ps[i] = p := by
      rw [List.getElem?_eq_getElem hlt] at hi
      exact Option.some.inj hi
    rw [e2] at z
    rw [← z, List.take_append_drop]
  generalize hp : isLone ps = P at h hl ⊢
  rw [e, List.find?_append]
  have n : (ps.take i).find? P = none := by
    rw [List.find?_eq_none]
    intro q hq
    obtain ⟨j, hj⟩ := List.mem_iff_getElem?.mp hq
    have hji : j < i := by
      have z := (List.getElem?_eq_some_iff.mp hj).1
      rw [List.length_take] at z
      omega
    rw [List.getElem?_take_of_lt hji] at hj
    rw [h j q hji hj]
    exact Bool.false_ne_true
  rw [n]
  simp [List.find?_cons, hl]
section
variable {P : Program} {w : World} {K : PySem.W.Frag} {mg : Str → Option Value} {base : Heap} {f C : Addr} {fd : FuncData}
theorem sc20 : FnScope ["places", "below", "place", "parent"] ["places"] (defScope (top 20)) := ⟨rfl, rfl, rfl, by decide +kernel, rfl, by decide +kernel, by decide +kernel⟩
theorem ok_below (F : Fun K "letters_below" "letters_below" (top 20) f fd) (D : XR P w K mg base "Lone" C ["place"]) : FnOk P w K mg base (L2.CX P w) 3 f fd ["places"] (spBelow C) := by
  refine F.okX sc20 (fun vs H Q E h => ?_) (fun cdv A outer s H vs Q E hr h => ?_)
  · obtain ⟨a, ps, rfl, _⟩ := h
    rfl
  · obtain ⟨a, ps, rfl, ha, nd, h200, hz, k1, k2⟩ := h
    obtain ⟨fi, fdi, iC, tI, F1, b1⟩ := D.ini
    have hu := hu_of hr
    refine ⟨_, pss_cons (ps_setDc (i := 1) (own := [("place", 2)]) (g := gName 2) (tt := tYes) rfl sc20.nd rfl rfl (swD_true rfl rfl rfl (by decide +kernel)) (pi_list (pv 0)) (blkOk_by (N := ["places", "below", "place", "parent"]) (sc := defScope (top 20)) (by decide +kernel))
        (fun _ _ _ _ _ => pg_name (i := 2) sc20.nd rfl (Or.inl rfl)) (fun _ _ _ _ _ => pts_nil) (fun _ _ _ _ _ => pv 2) (fun _ _ _ _ _ => pe_str))
      (pss_cons (ps_for (passes_of rfl) rfl (pi_list (pv 0)) (pg_name (i := 2) sc20.nd rfl (Or.inl rfl))
        (pss_one (ps_if (pt_cmpR op_ne (pv 2) pe_str (nomark _)) (pss_cons (ps_set (i := 3) sc20.nd rfl (Or.inl rfl) (pe_slice sl_str (pv 2) po_none (po_some (pe_un un_neg pe_int))))
          (pss_cons (ps_if (pt_cmp (pc_dnotin hu (pv 3) (pv 1))) (pss_one (ps_raise rfl (takes_of rfl rfl rfl rfl) (pmk_oex D.cl.T iC tI F1 hr b1 .nil pass0 (by rfl) D.gC (pa_cons (pv 2) pa_nil)))) pss_nil)
          (pss_one (ps_daug hu (pv 1) (pv 3) (pe_ix ix_str (pv 2) (pe_un un_neg pe_int) (fun _ _ => rfl)) in_addS (fun _ _ _ => rfl))))) pss_nil)))
      (pss_one (ps_ret (pv 1)))), ?_⟩
    refine ⟨V.ref a, rfl, a, rfl, ⟨_, .inl (.inl ha)⟩, fun B nB => dc_it (walk_list (K := K) (xs := ps.map V.str)) (fun i H1 => ∃ kvs : List (Key × V), Same H H1 ∧ H1 B = some (.dK kvs) ∧ Keys kvs (ps.take i) ∧ ∀ kv ∈ kvs, kv.2 = .str "")
      ⟨[], upd_new nB, upd_same, rfl, fun kv h => absurd h (by simp)⟩ (fun i H1 _ ⟨kvs, sm, _⟩ => .inl (.inl (sm _ _ ha))) ?_ ?_⟩
    · rintro i x H1 H2 hi ⟨kvs, sm, hB, hk, hv⟩ ⟨rfl, hx⟩
      obtain ⟨p, hp, rfl⟩ : ∃ p, ps[i]? = some p ∧ V.str p = x := by
        rw [List.getElem?_map] at hx
        cases q : ps[i]? with
        | none =>
          rw [q] at hx
          cases hx
        | some p =>
          rw [q] at hx
          exact ⟨p, rfl, Option.some.inj hx⟩
      have et : ps.take (i + 1) = ps.take i ++ [p] := by
        rw [List.take_add_one, hp]
        rfl
      have hnone : valV kvs (.inr p) = none := by
        have z := hk.has p
        have nm : p ∉ ps.take i := fun hm => by
          obtain ⟨j, hj⟩ := List.mem_iff_getElem?.mp hm
          have hji : j < i := by
            have z := (List.getElem?_eq_some_iff.mp hj).1
            rw [List.length_take] at z
            omega
          rw [List.getElem?_take_of_lt hji] at hj
          have := nd_ix nd hj hp
          omega
        rw [decide_eq_false nm] at z
        cases q : valV kvs (.inr p) with
        | none => rfl
        | some v =>
          rw [q] at z
          cases z
      refine ⟨rfl, V.str p, rfl, kvs, .inr p, rfl, hB, ?_, kvs ++ [(.inr p, .str "")], fun b o e => ?_, ?_, ?_, fun kv hkv => ?_⟩
      · have z := hk.len
        rw [List.length_take] at z
        have z2 : (5000 : Nat) < sizeLine := by decide
        omega
      · rw [upd_ne (ne_of_none e nB)]
        exact sm _ _ e
      · rw [putK_new _ hnone]
        exact upd_same
      · unfold Keys
        rw [et, List.map_append, List.map_append]
        have z : kvs.map Prod.fst = _ := hk
        rw [z]
        rfl
      · rcases List.mem_append.mp hkv with z | z
        · exact hv kv z
        · rw [List.mem_singleton.mp z]
    rintro H1 ⟨kvs, sm, hB, hk, hv⟩
    rw [List.length_map, List.take_length] at hk
    refine ⟨V.ref a, rfl, a, rfl, ⟨_, .inl (.inl (sm _ _ ha))⟩, for_it (walk_list (K := K) (xs := ps.map V.str)) (BLoop a B H ps) ⟨⟨none, none, rfl⟩, ⟨kvs, sm, hB, hk, fun kv h => ⟨"", hv kv h, by decide +kernel⟩⟩, fun j p h => absurd h (Nat.not_lt_zero _)⟩
      (fun i σ H2 _ q => by
        obtain ⟨_, s2, _⟩ := q.hp
        exact .inl (.inl (s2 _ _ ha))) ?_ ?_⟩
    · rintro i x σ H2 H3 hi ⟨⟨x2, x3, rfl⟩, ⟨kvs, sm, hB, hk, hv⟩, hno⟩ ⟨rfl, hx⟩
      obtain ⟨p, hp, rfl⟩ : ∃ p, ps[i]? = some p ∧ V.str p = x := by
        rw [List.getElem?_map] at hx
        cases q : ps[i]? with
        | none =>
          rw [q] at hx
          cases hx
        | some p =>
          rw [q] at hx
          exact ⟨p, rfl, Option.some.inj hx⟩
      have hp2 := h200 p (List.mem_of_getElem? hp)
      have hpl : p.length ≤ sizeLine := Nat.le_trans hp2 (by decide)
      have next : ∀ (kvs2 : List (Key × V)) (H4 : Hp) (y2 y3 : Option V), isLone ps p = false → Same H H4 → H4 B = some (.dK kvs2) → Keys kvs2 ps → (∀ kv ∈ kvs2, ∃ z : Str, kv.2 = .str z ∧ z.length ≤ i + 1) → BLoop a B H ps (i + 1) [some (.ref a), some (.ref B), y2, y3] H4 := fun kvs2 H4 y2 y3 nl s4 h4 k4 v4 =>
        ⟨⟨_, _, rfl⟩, ⟨kvs2, s4, h4, k4, v4⟩, fun j q hj hq => by
          by_cases hji : j = i
          · subst hji
            rw [hp] at hq
            obtain rfl := Option.some.inj hq
            exact nl
          · exact hno j q (by omega) hq⟩
      refine ⟨V.str p, rfl, rfl, _, rfl, ?_⟩
      by_cases he : p = Str.ofString ""
      · have hd : (!decide (V.str p = V.str (Str.ofString ""))) = false := by
          rw [he]
          simp
        rw [hd]
        refine iteF (next kvs _ _ _ ?_ sm hB hk fun kv h => ?_)
        · unfold isLone
          rw [he]
          simp
        · obtain ⟨z, h1, h2⟩ := hv kv h
          exact ⟨z, h1, by omega⟩
      · have hd : (!decide (V.str p = V.str (Str.ofString ""))) = true := by
          have z : ¬ V.str p = V.str (Str.ofString "") := fun z => he (by injection z)
          rw [decide_eq_false z]
          rfl
        rw [hd]
        refine iteT ⟨V.str p, rfl, 1, rfl, (-1 : Int), rfl, p, rfl, hpl, ?_⟩
        rw [cut_init]
        refine ⟨V.str (initS p), rfl, V.ref B, rfl, B, _, rfl, DGet.k (k := (.inr (initS p) : Key)) hB, _, rfl, ?_⟩
        rw [hk.has]
        by_cases hm : initS p ∈ ps
        · rw [decide_eq_true hm]
          have hnl : isLone ps p = false := by
            unfold isLone
            rw [decide_eq_true hm]
            simp
          refine iteF ?_
          obtain ⟨v, hvv⟩ : ∃ v, valV kvs (.inr (initS p)) = some v := by
            have z := hk.has (initS p)
            rw [decide_eq_true hm] at z
            exact Option.isSome_iff_exists.mp z
          obtain ⟨kv, hkv, hkv2⟩ := valV_mem hvv
          obtain ⟨zz, hz1, hz2⟩ := hv kv hkv
          rw [hkv2] at hz1
          subst hz1
          obtain ⟨cc, hcc⟩ := at_last he
          have dg := DGet.k (k := (.inr (initS p) : Key)) hB
          rw [hvv] at dg
          have hkl : kvs.length < sizeLine := by
            have z := hk.len
            have z2 : (5000 : Nat) < sizeLine := by decide
            omega
          have hil : i < ps.length := by simpa using hi
          refine ⟨V.ref B, rfl, V.str (initS p), rfl, B, _, rfl, dg, V.str p, rfl, 1, rfl, p, (-1 : Int), cc, rfl, rfl, hpl, hcc, zz, ⟨#[cc]⟩, rfl, rfl, ?_, _, DPut.k (k := (.inr (initS p) : Key)) hB hkl, next _ _ _ _ hnl (fun b o e => ?_) upd_same (hk.put hm) fun kv2 hkv2 => ?_⟩
          · have z2 : (5001 : Nat) ≤ sizeLine := by decide
            show zz.length + 1 ≤ sizeLine
            omega
          · rw [upd_ne (ne_of_none e nB)]
            exact sm _ _ e
          · unfold putK at hkv2
            split at hkv2
            · obtain ⟨kv0, h0, rfl⟩ := List.mem_map.mp hkv2
              obtain ⟨z0, z1, z2⟩ := hv kv0 h0
              by_cases hk0 : kv0.1 = (.inr (initS p) : Key)
              · rw [if_pos hk0]
                exact ⟨_, rfl, by rw [PySem.Str.length_append]; show zz.length + 1 ≤ i + 1; omega⟩
              · rw [if_neg hk0]
                exact ⟨z0, z1, by omega⟩
            · rcases List.mem_append.mp hkv2 with h0 | h0
              · obtain ⟨z0, z1, z2⟩ := hv kv2 h0
                exact ⟨z0, z1, by omega⟩
              · rw [List.mem_singleton.mp h0]
                exact ⟨_, rfl, by rw [PySem.Str.length_append]; show zz.length + 1 ≤ i + 1; omega⟩
        · rw [decide_eq_false hm]
          have hil : isLone ps p = true := by
            unfold isLone
            rw [decide_eq_false hm, decide_eq_true he]
            rfl
          refine iteT ⟨V.str p, rfl, rd_mk rfl (by show 1 ≤ 1000; decide) fun dx H' s' n q => ((k2 p (lone_first hno hp hil)).mono sm) H' dx s' n q⟩
    · rintro σ H2 ⟨⟨x2, x3, rfl⟩, ⟨kvs, sm, hB, hk, hv⟩, hno⟩
      rw [List.length_map] at hno
      exact ⟨V.ref B, rfl, k1 (lone_none hno) H2 B kvs sm nB hB hk⟩
end
end SK
namespace SK
open PySem PySem.Spec PyProof.Rows L2 LamX NdefX
open K0 (De DeAll XCl spX withX)
/-! ### a tree is made, or refused -/
theorem okL_of {x : Str} (h : okLb x = true) : OkL x := by
  simp only [okLb, Bool.and_eq_true, decide_eq_true_eq, List.all_eq_true] at h
  refine ⟨h.1.1, h.1.2, h.2.1, fun c hc => ?_⟩
  have z : ∀ c ∈ alpha.cps.toList, 97 ≤ c ∧ c < 123 := by decide +kernel
  exact z c (h.2.2 c hc)
theorem scan_none {ls : Str} : ∀ {ds : List PyData} {seen : List Str} {i : Nat}, scan ls seen i ds = none → (∀ d ∈ ds, okR ls d = true ∧ placeOf d ∉ seen) ∧ (ds.map placeOf).Nodup
  | [], _, _, _ => ⟨fun d h => absurd h (by simp), by simp⟩
  | d :: r, seen, i, h => by
    have h' : (if okR ls d = true ∧ placeOf d ∉ seen then scan ls (seen ++ [placeOf d]) (i + 1) r else some i) = none := h
    by_cases c : okR ls d = true ∧ placeOf d ∉ seen
    · rw [if_pos c] at h'
      obtain ⟨h1, h2⟩ := scan_none h'
      refine ⟨fun e he => ?_, ?_⟩
      · rcases List.mem_cons.mp he with rfl | he
        · exact c
        · exact ⟨(h1 e he).1, fun z => (h1 e he).2 (List.mem_append_left _ z)⟩
      · rw [List.map_cons, List.nodup_cons]
        refine ⟨fun z => ?_, h2⟩
        obtain ⟨e, he, e2⟩ := List.mem_map.mp z
        exact (h1 e he).2 (by rw [e2]; simp)
    · rw [if_neg c] at h'
      cases h'
theorem sortW_perm (ls : Str) (ws : List Str) : (sortW ls ws).Perm ws := List.mergeSort_perm _ _
def ThrownN (E : XK) (C : Addr) (H : Hp) (gs : List (Str × V)) (T : List (Addr × Str)) : Prop := ∀ (H' : Hp) (d : Addr), ExtN H H' → Tabs T H' → H' d = some (.xd gs) → E (.ref C) (some d) H'
theorem ThrownN.to {E : XK} {C : Addr} {H H1 : Hp} {gs : List (Str × V)} {T : List (Addr × Str)} (t : ThrownN E C H gs T) (e : ExtN H H1) (tb : Tabs T H1) : Thrown E C H1 gs := fun H' d s n q => t H' d (e.trans (ExtN.of s)) (tb.ext s) q
/-- how a tree is refused -/
inductive Way where
  | letters
  | places (n : Nat)
  | row (i : Nat)
  | lone (p : Str)
  | fine
def strOf : PyData → Str
  | .str x => x
  | _ => Str.empty
def way (L : PyData) (ds : List PyData) : Way := if okLd L = true then (if 1 ≤ ds.length ∧ ds.length ≤ 2000 then (match scan (strOf L) [] 0 ds with
  | some i => .row i
  | none => match lone (sortW (strOf L) (ds.map placeOf)) with
    | some p => .lone p
    | none => .fine) else .places ds.length) else .letters
/-- the four error classes -/
structure Cs where
  l : Addr
  m : Addr
  r : Addr
  o : Addr
def Refused (E : XK) (C : Cs) (vL : V) (H : Hp) (T : List (Addr × Str)) (w : Way) : Prop :=
  (w = .letters → ThrownN E C.l H [("letters", vL)] T) ∧ (∀ n : Nat, w = .places n → ThrownN E C.m H [("most", .int 2000), ("many", .int n), ("what", .str "places")] T) ∧
  (∀ i : Nat, w = .row i → ThrownN E C.r H [("number", .int i)] T) ∧ (∀ p, w = .lone p → ThrownN E C.o H [("place", .str p)] T)
def spInit (K : PySem.W.Frag) (CT : Addr) (C : Cs) (T : List (Addr × Str)) : Sp := fun vs H Q E => ∃ (x dx a : Addr) (vL : V) (L : PyData) (xs : List V) (ds : List PyData), vs = [.ref x, vL, .ref a] ∧ H x = some (.ins CT dx []) ∧ De K H vL L ∧ (∀ z, L = .str z → z.cps.all (· < 128) = true ∧ z.cps.size ≤ 1000) ∧
  Rows H a xs ∧ DeAll K H xs ds ∧ (∀ d ∈ ds, Fit d) ∧ xs.length ≤ 5000 ∧ Tabs T H ∧ Refused E C vL H T (way L ds) ∧
  (way L ds = .fine → ∀ (H' : Hp) (fs : List (Str × V)), (∀ b o, b ≠ x → H b = some o → (∀ ps, o ≠ .tbl ps) → H' b = some o) → Tabs T H' → H' x = some (.ins CT dx fs) → Q .non H')
theorem Tabs.but {T : List (Addr × Str)} {H H' : Hp} {x CT dx : Addr} {fs : List (Str × V)} (t : Tabs T H) (hx : H x = some (.ins CT dx fs)) (e : ∀ b o, b ≠ x → H b = some o → H' b = some o) : Tabs T H' := fun p hp => by
  obtain ⟨ps, h1, h2, h3⟩ := t p hp
  refine ⟨ps, e _ _ (fun z => by rw [z, hx] at h1; cases h1) h1, h2, fun pos cv hc => ?_⟩
  obtain ⟨c, e1, e2⟩ := h3 pos cv hc
  refine ⟨c, e1, e _ _ (fun z => ?_) e2⟩
  rw [z, hx] at e2
  unfold CodeO at e2
  cases e2
theorem putF_le (f : Str) (y : V) (fs : List (Str × V)) : (putF f y fs).length ≤ fs.length + 1 := by
  induction fs with
  | nil => exact Nat.le_refl _
  | cons g r ih =>
    obtain ⟨g, v⟩ := g
    unfold putF
    split
    · simp
    · simp only [List.length_cons]
      omega
theorem Rows.mono {H H' : Hp} {a : Addr} {xs : List V} (r : Rows H a xs) (e : ExtN H H') : Rows H' a xs := r.elim (fun h => .inl (e _ _ h fun ps z => nomatch z)) fun h => .inr (e _ _ h fun ps z => nomatch z)
theorem Rows.seq {K : PySem.W.Frag} {H : Hp} {a : Addr} {xs : List V} (r : Rows H a xs) : SqL K H a xs ∨ SqT K H a xs := r.elim (fun h => .inl (.inl (.inl h))) fun h => .inr (.inl (.inl h))
section
variable {P : Program} {w : World} {K : PySem.W.Frag} {mg : Str → Option Value} {base : Heap} {f fCL fCP fT fO fB CT : Addr} {fd fdCL fdCP fdT fdO fdB : FuncData} {C : Cs} {T : List (Addr × Str)}
theorem sc24 : FnScope ["self", "letters", "rows", "table", "places", "place"] ["self", "letters", "rows"] (defScope (inClass (top 24) 0)) := ⟨rfl, rfl, rfl, by decide +kernel, rfl, by decide +kernel, by decide +kernel⟩
theorem ok_init (F : Fun K "__init__" "Tree.__init__" (inClass (top 24) 0) f fd) (cT : Cls K CT) (no : ∀ g ∈ (["_below", "_table", "letters", "rows", "size", "height"] : List Str), NoAttr K CT g)
    (gN : mg "len" = none) (gLs : mg "list" = none) (gTu : mg "tuple" = none) (gM : mg "max" = none)
    (gCL : mg "check_letters" = some (.ref fCL)) (kCL : PySem.W.keepIn K (.ref fCL) = true) (GCL : FnOk P w K mg base (L2.CX P w) 3 fCL fdCL ["letters"] (spCheckL K C.l)) (bCL : Binds K fdCL ["letters"] [])
    (gCP : mg "check_places" = some (.ref fCP)) (kCP : PySem.W.keepIn K (.ref fCP) = true) (GCP : FnOk P w K mg base (L2.CX P w) 3 fCP fdCP ["many"] (spCheckP C.m)) (bCP : Binds K fdCP ["many"] [])
    (gT : mg "table_of" = some (.ref fT)) (kT : PySem.W.keepIn K (.ref fT) = true) (GT : FnOk P w K mg base (L2.CX P w) 3 fT fdT ["letters", "rows"] (spTable K C.r)) (bT : Binds K fdT ["letters", "rows"] [])
    (gO : mg "in_order" = some (.ref fO)) (kO : PySem.W.keepIn K (.ref fO) = true) (GO : FnOk P w K mg base CX0 5 fO fdO ["letters", "words"] (spOrder K T)) (bO : Binds K fdO ["letters", "words"] [])
    (gB : mg "letters_below" = some (.ref fB)) (kB : PySem.W.keepIn K (.ref fB) = true) (GB : FnOk P w K mg base (L2.CX P w) 3 fB fdB ["places"] (spBelow C.o)) (bB : Binds K fdB ["places"] []) :
    FnOk P w K mg base (L2.CX P w) 6 f fd ["self", "letters", "rows"] (spInit K CT C T) := by
  refine F.okX sc24 (fun vs H Q E h => ?_) (fun cdv A outer s H vs Q E hr h => ?_)
  · obtain ⟨x, dx, a, vL, L, xs, ds, rfl, _⟩ := h
    rfl
  · obtain ⟨x, dx, a, vL, L, xs, ds, rfl, hx, hL, hasc, hrows, hda, hfit, hz, hT, hbad, kk⟩ := h
    have hu := hu_of hr
    have hlen := deAll_len hda
    refine ⟨_, pss_cons (ps_expr (pe_call GCL (hr.mono (by decide)) (by rfl) gCL kCL bCL .nil (passes_call (takes_of rfl rfl rfl rfl) (fun _ _ _ _ h => h)) (pa_cons (pv 1) pa_nil)))
      (pss_cons (ps_expr (pe_call GCP (hr.mono (by decide)) (by rfl) gCP kCP bCP .nil (passes_call (takes_of rfl rfl rfl rfl) (fun _ _ _ _ h => h)) (pa_cons (pe_callB call_len_seq (by rfl) gN PySem.boot_len (pa_cons (pv 2) pa_nil)) pa_nil)))
      (pss_cons (ps_set (i := 3) sc24.nd rfl (Or.inr rfl) (pe_call GT (hr.mono (by decide)) (by rfl) gT kT bT .nil (passes_call (takes_of rfl rfl rfl rfl) (fun _ _ _ _ h => h)) (pa_cons (pv 1) (pa_cons (pv 2) pa_nil))))
      (pss_cons (ps_set (i := 4) sc24.nd rfl (Or.inl rfl) (pe_call GO hr (by rfl) gO kO bO .nil pass0 (pa_cons (pv 1) (pa_cons (pe_callTy (call_list_dK rfl) (by rfl) gLs PyProof.Rows.boot_list (pa_cons (pv 3) pa_nil)) pa_nil))))
      (pss_cons (ps_fld (pv 0) (pe_call GB (hr.mono (by decide)) (by rfl) gB kB bB .nil (passes_call (takes_of rfl rfl rfl rfl) (fun _ _ _ _ h => h)) (pa_cons (pv 4) pa_nil)) rfl)
      (pss_cons (ps_fld (pv 0) (pv 3) rfl)
      (pss_cons (ps_fld (pv 0) (pv 1) rfl)
      (pss_cons (ps_fld (pv 0) (pe_callTy call_tuple_of (by rfl) gTu PyProof.Rows.boot_tuple (pa_cons (pe_lc (own := [("place", 5)]) (g := gName 5) (tt := tYes) rfl sc24.nd (pi_list (pv 4)) (blkOk_by (N := ["self", "letters", "rows", "table", "places", "place"]) (sc := defScope (inClass (top 24) 0)) (by decide +kernel))
          (fun _ _ _ _ _ => pg_name (i := 5) sc24.nd rfl (Or.inl rfl)) (fun _ _ _ _ _ => pts_nil) (fun _ _ _ _ _ => pe_dget hu (pv 3) (pv 5) (fun _ _ => rfl))) pa_nil)) rfl)
      (pss_cons (ps_fld (pv 0) (pe_callB call_len_seq (by rfl) gN PySem.boot_len (pa_cons (pv 4) pa_nil)) rfl)
      (pss_one (ps_fld (pv 0) (pe_callB (cr_max rfl) (by rfl) gM PyProof.Rows.boot_max (pa_cons (pe_lc (own := [("place", 5)]) (g := gName 5) (tt := tYes) rfl sc24.nd (pi_list (pv 4)) (blkOk_by (N := ["self", "letters", "rows", "table", "places", "place"]) (sc := defScope (inClass (top 24) 0)) (by decide +kernel))
          (fun _ _ _ _ _ => pg_name (i := 5) sc24.nd rfl (Or.inl rfl)) (fun _ _ _ _ _ => pts_nil) (fun _ _ _ _ _ => pe_callB call_len_str (by rfl) gN PySem.boot_len (pa_cons (pv 5) pa_nil))) pa_nil)) rfl)))))))))), ?_⟩
    obtain ⟨bad1, bad2, bad3, bad4⟩ := hbad
    refine ⟨vL, rfl, vL, L, rfl, hL, hasc, fun okL H1 s1 => ?_, fun no => (bad1 (by unfold way; rw [no]; rfl)).to (ExtN.refl H) hT⟩
    obtain ⟨ls, rfl⟩ : ∃ ls, L = .str ls := by
      cases L with
      | str z => exact ⟨z, rfl⟩
      | _ => cases okL
    cases hL
    have hoL := okL_of okL
    have w1 : way (.str ls) ds = (if 1 ≤ ds.length ∧ ds.length ≤ 2000 then (match scan ls [] 0 ds with
      | some i => .row i
      | none => match lone (sortW ls (ds.map placeOf)) with
        | some p => .lone p
        | none => .fine) else .places ds.length) := by
      unfold way
      rw [if_pos okL]
      rfl
    have e1 := ExtN.of s1
    refine ⟨V.ref a, rfl, a, xs, rfl, (hrows.mono e1).seq, xs.length, rfl, fun hn => ?_, fun hn => (bad2 xs.length (by rw [w1, ← hlen, if_neg hn])).to e1 (hT.ext s1)⟩
    rw [hlen] at hn
    rw [if_pos hn] at w1
    refine ⟨V.str ls, rfl, V.ref a, rfl, ls, a, xs, ds, rfl, hrows.mono e1, de_monoAll s1 _ _ hda, hfit, hz, fun hsc H2 Tb kvs s2 nT hTb tb => ?_, fun i e => (bad3 i (by rw [w1, e])).to e1 (hT.ext s1)⟩
    rw [hsc] at w1
    have w2 : way (.str ls) ds = (match lone (sortW ls (ds.map placeOf)) with
        | some p => .lone p
        | none => .fine) := w1
    obtain ⟨hall, hnd⟩ := scan_none hsc
    have e2 := ExtN.of (s1.trans s2)
    have T2 := hT.ext (s1.trans s2)
    have hkeys : (kvs.map fun kv => kV kv.1) = (ds.map placeOf).map V.str := by
      have z := congrArg (List.map kV) tb.1
      rw [List.map_map, List.map_map] at z
      rw [List.map_map]
      exact z
    refine ⟨V.str ls, rfl, V.ref Tb, rfl, Tb, kvs, rfl, hTb, fun q nq => ?_⟩
    have s3 : Same H2 (upd H2 q (.lst (kvs.map fun kv => kV kv.1))) := upd_new nq
    have hq : upd H2 q (.lst (kvs.map fun kv => kV kv.1)) q = some (.lst (kvs.map fun kv => kV kv.1)) := upd_same
    generalize upd H2 q (.lst (kvs.map fun kv => kV kv.1)) = H3 at s3 hq
    rw [hkeys] at hq
    refine ⟨ls, q, ds.map placeOf, rfl, hoL, .inl (.inl hq), fun y hy => ?_, T2.ext s3, fun H4 p eN T4 h4 => ?_⟩
    · obtain ⟨d, hd, rfl⟩ := List.mem_map.mp hy
      obtain ⟨z, b, c, _, _, h3, h4, h5⟩ := okR_elems (hall d hd).1
      rw [h3]
      exact ⟨h4, h5⟩
    have pm := sortW_perm ls (ds.map placeOf)
    have e4 : ExtN H H4 := (e2.trans (ExtN.of s3)).trans eN
    have hTb4 : H4 Tb = some (.dK kvs) := eN _ _ (s3 _ _ hTb) fun ps z => nomatch z
    have hx4 : H4 x = some (.ins CT dx []) := e4 _ _ hx fun ps z => nomatch z
    have p200 : ∀ y ∈ sortW ls (ds.map placeOf), y.cps.size ≤ 200 := fun y hy => by
      obtain ⟨d, hd, rfl⟩ := List.mem_map.mp (pm.mem_iff.mp hy)
      obtain ⟨z, b, c, _, _, h3, h4, h5⟩ := okR_elems (hall d hd).1
      rw [h3]
      exact h4
    have plen : (sortW ls (ds.map placeOf)).length = ds.length := by rw [pm.length_eq, List.length_map]
    have vals : ∀ y ∈ sortW ls (ds.map placeOf), ∃ v, valV kvs (.inr y) = some v := fun y hy => by
      have z := tb.has y
      rw [decide_eq_true (pm.mem_iff.mp hy)] at z
      exact Option.isSome_iff_exists.mp z
    generalize hps : sortW ls (ds.map placeOf) = ps at *
    refine ⟨V.ref p, rfl, p, ps, rfl, h4, pm.nodup_iff.mpr hnd, p200, by omega, fun lo H5 B kv2 s5 nB hB hk => ?_, fun y e => (bad4 y (by rw [w2, e])).to e4 T4⟩
    rw [lo] at w2
    have e5 : ExtN H H5 := e4.trans (ExtN.of s5)
    have T5 := T4.ext s5
    have hx5 := s5 _ _ hx4
    have hT5 := s5 _ _ hTb4
    have hp5 := s5 _ _ h4
    have nxp : p ≠ x := fun z => by
      rw [z, hx5] at hp5
      cases hp5
    have nxT : Tb ≠ x := fun z => by
      rw [z, hx5] at hT5
      cases hT5
    have keep : ∀ (G : Hp) (f : Str) (y : V) (fs : List (Str × V)), (∀ b o, b ≠ x → H5 b = some o → G b = some o) → ∀ b o, b ≠ x → H5 b = some o → upd G x (.ins CT dx (putF f y fs)) b = some o := fun G f y fs g b o hb e => by
      rw [upd_ne hb]
      exact g b o hb e
    have memP : ∀ {i : Nat} {z : V}, (ps.map V.str)[i]? = some z → ∃ y, ps[i]? = some y ∧ V.str y = z := fun {i z} hz => by
      rw [List.getElem?_map] at hz
      cases q : ps[i]? with
      | none =>
        rw [q] at hz
        cases hz
      | some y =>
        rw [q] at hz
        exact ⟨y, rfl, Option.some.inj hz⟩
    have psz : ps.length ≤ 5000 := by omega
    refine ⟨V.ref x, rfl, x, CT, dx, _, rfl, hx5, cT, no _ (by simp), (by decide), ?_⟩
    have g1 := keep H5 "_below" (.ref B) [] (fun b o _ e => e)
    have x1 : upd H5 x (.ins CT dx (putF "_below" (.ref B) [])) x = some (.ins CT dx (putF "_below" (.ref B) [])) := upd_same
    have l1 := putF_le "_below" (.ref B) []
    generalize putF "_below" (V.ref B) [] = f1 at g1 x1 l1 ⊢
    generalize upd H5 x (.ins CT dx f1) = G1 at g1 x1 ⊢
    refine ⟨V.ref Tb, rfl, V.ref x, rfl, x, CT, dx, _, rfl, x1, cT, no _ (by simp), (by simp at l1; omega), ?_⟩
    have g2 := keep G1 "_table" (.ref Tb) f1 g1
    have x2 : upd G1 x (.ins CT dx (putF "_table" (.ref Tb) f1)) x = some (.ins CT dx (putF "_table" (.ref Tb) f1)) := upd_same
    have l2 := putF_le "_table" (.ref Tb) f1
    generalize putF "_table" (V.ref Tb) f1 = f2 at g2 x2 l2 ⊢
    generalize upd G1 x (.ins CT dx f2) = G2 at g2 x2 ⊢
    refine ⟨V.str ls, rfl, V.ref x, rfl, x, CT, dx, _, rfl, x2, cT, no _ (by simp), (by simp at l1; omega), ?_⟩
    have g3 := keep G2 "letters" (.str ls) f2 g2
    have x3 : upd G2 x (.ins CT dx (putF "letters" (.str ls) f2)) x = some (.ins CT dx (putF "letters" (.str ls) f2)) := upd_same
    have l3 := putF_le "letters" (.str ls) f2
    generalize putF "letters" (V.str ls) f2 = f3 at g3 x3 l3 ⊢
    generalize upd G2 x (.ins CT dx f3) = G3 at g3 x3 ⊢
    refine ⟨V.ref p, rfl, p, rfl, ⟨_, .inl (.inl (g3 _ _ nxp hp5))⟩, fun D nD => lc_it (walk_list (K := K) (xs := ps.map V.str)) (fun i G => Same G3 G ∧ ∃ acc : List V, G D = some (.lst acc) ∧ acc.length ≤ i) ⟨upd_new nD, [], upd_same, Nat.le_refl _⟩ (fun i G _ q => .inl (.inl (q.1 _ _ (g3 _ _ nxp hp5)))) ?_ ?_⟩
    · rintro i z G G' hi ⟨sG, acc, hD, hl⟩ ⟨rfl, hz2⟩
      obtain ⟨y, hy, rfl⟩ := memP hz2
      obtain ⟨v, hv⟩ := vals y (List.mem_of_getElem? hy)
      have dg := DGet.k (k := (.inr y : Key)) (sG _ _ (g3 _ _ nxT hT5))
      rw [hv] at dg
      have hil : i < ps.length := by simpa using hi
      have z2 : (5000 : Nat) < sizeLine := by decide
      refine ⟨rfl, V.ref Tb, rfl, V.str y, rfl, Tb, v, rfl, dg, acc, hD, by omega, fun b o e => ?_, _, upd_same, by rw [List.length_append]; simp; omega⟩
      rw [upd_ne (ne_of_none e nD)]
      exact sG _ _ e
    rintro G4 ⟨s4, acc, hD4, hl4⟩
    refine ⟨D, acc, rfl, .inl ⟨.inl (.inl hD4), fun l nl => ?_⟩⟩
    have s5' := s4.trans (upd_new (o := .tup acc) nl)
    generalize upd G4 l (.tup acc) = G5 at s5'
    have g5 : ∀ b o, b ≠ x → H5 b = some o → G5 b = some o := fun b o hb e => s5' _ _ (g3 b o hb e)
    refine ⟨V.ref x, rfl, x, CT, dx, _, rfl, s5' _ _ x3, cT, no _ (by simp), (by simp at l1; omega), ?_⟩
    have g6 := keep G5 "rows" (.ref l) f3 g5
    have x6 : upd G5 x (.ins CT dx (putF "rows" (.ref l) f3)) x = some (.ins CT dx (putF "rows" (.ref l) f3)) := upd_same
    have l6 := putF_le "rows" (.ref l) f3
    generalize putF "rows" (V.ref l) f3 = f6 at g6 x6 l6 ⊢
    generalize upd G5 x (.ins CT dx f6) = G6 at g6 x6 ⊢
    refine ⟨V.ref p, rfl, p, ps.map V.str, rfl, .inl (.inl (.inl (g6 _ _ nxp hp5))), V.ref x, rfl, x, CT, dx, _, rfl, x6, cT, no _ (by simp), (by simp at l1; omega), ?_⟩
    have g7 := keep G6 "size" (.int (ps.map V.str).length) f6 g6
    have x7 : upd G6 x (.ins CT dx (putF "size" (.int (ps.map V.str).length) f6)) x = some (.ins CT dx (putF "size" (.int (ps.map V.str).length) f6)) := upd_same
    have l7 := putF_le "size" (.int (ps.map V.str).length) f6
    generalize putF "size" (V.int (ps.map V.str).length) f6 = f7 at g7 x7 l7 ⊢
    generalize upd G6 x (.ins CT dx f7) = G7 at g7 x7 ⊢
    refine ⟨V.ref p, rfl, p, rfl, ⟨_, .inl (.inl (g7 _ _ nxp hp5))⟩, fun D2 nD2 => lc_it (walk_list (K := K) (xs := ps.map V.str)) (fun i G => Same G7 G ∧ G D2 = some (.lst (((ps.take i).map fun y => (y.length : Int)).map V.int))) ⟨upd_new nD2, upd_same⟩ (fun i G _ q => .inl (.inl (q.1 _ _ (g7 _ _ nxp hp5)))) ?_ ?_⟩
    · rintro i z G G' hi ⟨sG, hD⟩ ⟨rfl, hz2⟩
      obtain ⟨y, hy, rfl⟩ := memP hz2
      have hil : i < ps.length := by simpa using hi
      have z2 : (5000 : Nat) < sizeLine := by decide
      have et : ps.take (i + 1) = ps.take i ++ [y] := by
        rw [List.take_add_one, hy]
        rfl
      refine ⟨rfl, V.str y, rfl, y, rfl, Nat.le_trans (p200 y (List.mem_of_getElem? hy)) (by decide), _, hD, by rw [List.length_map, List.length_map, List.length_take]; omega, fun b o e => ?_, ?_⟩
      · rw [upd_ne (ne_of_none e nD2)]
        exact sG _ _ e
      · rw [et, List.map_append, List.map_append]
        exact upd_same
    rintro G8 ⟨s8, hD8⟩
    have etk : ps.take (ps.map V.str).length = ps := List.take_of_length_le (by simp)
    rw [etk] at hD8
    refine ⟨D2, _, rfl, .inl (.inl hD8), by rw [List.length_map]; omega, fun m _ _ => ?_⟩
    refine ⟨V.ref x, rfl, x, CT, dx, _, rfl, s8 _ _ x7, cT, no _ (by simp), (by simp at l1; omega), ?_⟩
    have g9 := keep G8 "height" (.int m) f7 (fun b o hb e => s8 _ _ (g7 b o hb e))
    exact kk w2 _ _ (fun b o hb e ht => g9 b o hb (e5 b o e ht)) (Tabs.but T5 hx5 g9) upd_same
end
end SK
/-! ### several except clauses, each with a name -/
namespace SK
open PySem PySem.Spec PyProof.Rows L2 LamX NdefX
abbrev Cl := Value × (Addr → Value → Option Addr → TS)
/-- what the clauses wish; i is the slot of their name -/
def wAsM (K : PySem.W.Frag) (Wout : WX) (i : Nat) (D : Ends) : List Cl → WX
  | [] => Wout
  | (c, ts) :: r => wAs K c i ts (wAsM K Wout i D r) D
inductive HdsAs (X : Cx) (n : Str) : List ExceptHandler → List Cl → Prop
  | nil : HdsAs X n [] []
  | cons {x : Str} {c : Value} {ts : Addr → Value → Option Addr → TS} {b₀ : Stmt} {suite : List Stmt} {np pos' : Pos} {hds : List ExceptHandler} {l : List Cl} (hc : Names X x c)
      (hsu : ∀ (a : Addr) (oe : Obj) (cls : Value) (d : Option Addr) (pn : List (Addr × Obj)), Zc cls d oe → (∃ vs, oe.data = .fields vs) → PSs (X.suite a ((a, oe) :: pn)) (b₀ :: suite) (ts a cls d)) (r : HdsAs X n hds l) :
      HdsAs X n (.ExceptHandler (some (.Name x np)) (some n) (b₀ :: suite) pos' :: hds) ((c, ts) :: l)
section
variable {X : Cx} {n : Str} {i : Nat} {body : List Stmt} {h₀ : ExceptHandler} {hds : List ExceptHandler} {l : List Cl} {pos : Pos} {tb : WX → TS} {Wout : WX}
theorem ps_try_asM (hs : X.stack = X.env :: X.outer) (hf : X.env.frame = some X.env.locals) (hN : X.N.Nodup) (hi : X.N[i]? = some n) (hln : X.env.kindOf n = some .local) (tk : Takes X Wout)
    (hb : ∀ (W : WX) (pn : List (Addr × Obj)) (xe : Value → Shared → Prop), Takes (X.tr pn xe) W → PassesOwn (model X.prog X.w) X.A X.env xe → PSs (X.tr pn xe) body (tb W))
    (hh : HdsAs X n (h₀ :: hds) l) : PS X (.Try body (h₀ :: hds) [] [] pos) (fun D σ H => tb (wAsM X.K Wout i D l) D σ H) := by
  refine ⟨fun pins s σ H D I h => ?_⟩
  have ok := I.ok
  have hfr : X.A.frames = some (X.env :: X.outer) := by rw [ok.frames, hs]
  have hloc : Loc X.env.scope n := .inl hln
  refine wpAny_Try_except ?_
  refine wpAny_mono ((hb (wAsM X.K Wout i D l) (X.pn ++ pins) (fun e s₁ => wpAny (model X.prog X.w) X.A (noteFrame e X.env) (fun _ s₂ => wpAny (model X.prog X.w) X.A (setFlight e none) (fun _ s₃ =>
    wpAny (model X.prog X.w) X.A (handleBy e X.env (h₀ :: hds)) (SP X pins D) X.xe s₃) X.xe s₂) X.xe s₁) (fun u s' xx => ?_) PassesOwn.looking).run [] s σ H D (I.toTry _) h) (fun f s1 hsp => ?_) (fun e s1 he => he)
  · obtain ⟨a, B, sI, pins', σ', H', cls, d, rfl, J', nb, up, sky, na, os, ag, w⟩ := xx
    have J : Inv X pins σ' H' sI := J'.ofTry ok
    have sky' : Sky B (X.env :: X.outer) a (Zc cls d) X.env.locals s'.heap := by rw [← hs]; exact sky
    show wpAny (model X.prog X.w) X.A (noteFrame (.ref a) X.env) _ _ _
    refine Sky.land Zc.steady hfr hf sky' fun h3 fl3 up3 => ?_
    have J3 : Inv X pins σ' H' { s' with heap := h3 } := J.landed nb fl3.1 (up.trans up3) os ag
    obtain ⟨oe3, vs3, he3, hz3, hd3⟩ := fl3.there
    have apart : ∀ {h : Heap} {o : Obj} {vs : Array Value}, h.FunFrames B (X.env :: X.outer) → h.get? a = some o → o.data = .fields vs → a ∉ frs (X.env :: X.outer) := fun {h o vs} ff e dd hm => by
      obtain ⟨_, o', e', hnf⟩ := ff.mem hm
      rw [e] at e'
      cases e'
      exact hnf _ dd
    have nfr := apart fl3.2.2.1 he3 hd3
    have nL : a ≠ X.env.locals := fun z => nfr (List.mem_filterMap.mpr ⟨X.env, List.mem_cons_self, by rw [hf, z]⟩)
    have nF : a ∉ X.fs := fun hm => by
      obtain ⟨e, he, q⟩ := List.mem_filterMap.mp hm
      exact nfr (List.mem_filterMap.mpr ⟨e, List.mem_cons_of_mem _ he, q⟩)
    have S3 := J3.suite he3 hd3 na nL nF
    have go : ∀ {hds' : List ExceptHandler} {l' : List Cl}, HdsAs X n hds' l' → wAsM X.K Wout i D l' cls d σ' H' → wpAny (model X.prog X.w) X.A (handleBy (.ref a) X.env hds') (SP X pins D) X.xe { s' with heap := h3 } := by
      intro hds' l' hk
      induction hk with
      | nil =>
        intro w
        refine wpAny_handleBy_nil ?_
        obtain ⟨k1, k2, k3, oe, vs, T, oT, ts', he, hz, hd, h1, hr⟩ := id fl3
        unfold PySem.passOn
        refine wpAny_bind (wpAny_field he hd h1 ?_)
        rw [if_neg (show ¬ ((Value.ref T == Value.none) = true) from by simp)]
        have fin : wpAny (model X.prog X.w) X.A (setFlight (.ref a) X.env.frame) (fun _ s4 => wpAny (model X.prog X.w) X.A (throw (.ref a) : Sem Flow) (SP X pins D) X.xe s4) X.xe { s' with heap := h3 } := by
          rw [hf]
          refine HandSPX.setFlight_upZ fl3 fun h4 hh4 up4 => wpAny_throw (tk _ _ ?_)
          exact ⟨a, B, sI, pins, σ', H', cls, d, rfl, J, nb, (up.trans up3).trans up4, .inr (.inr (by rw [hs]; exact hh4)), na, os, ag, w⟩
        first
          | exact wpAny_bind (wpAny_pure (wpAny_bind fin))
          | exact wpAny_bind fin
      | @cons x c ts b₀ suite np pos' hds2 l2 hc hsu r ih =>
        intro w
        obtain ⟨b, hb1, hyes, hno⟩ := w
        refine wpAny_handleBy_cons (codeAny_handlers_test ?_) (by intro q; cases q)
        have LT : PySem.W.Looks (model X.prog X.w) h3 (typeOf (.ref a)) cls := fun A Q E s k q => wpAny_typeOf_ref (k _ _ he3) (by rw [hz3.1]; exact q)
        have LM := PySem.W.exm_one (M := model X.prog X.w) (J3.kIn) LT hb1
        have test : ∀ {Q : Value → Shared → Prop} {E : Value → Shared → Prop}, Q c { s' with heap := h3 } → wpAny (model X.prog X.w) (X.A.mark (some (.ref a))) (eval (.Name x np) X.env) Q E { s' with heap := h3 } := fun {Q E} q => by
          obtain ⟨hg, hdbg, hm | ⟨hm, hv, hnn⟩⟩ := hc
          · exact ld_glob (X := X.suite a ((a, oe3) :: (X.pn ++ pins))) S3 hg hm q hdbg
          · exact ld_blt (X := X.suite a ((a, oe3) :: (X.pn ++ pins))) S3 hg hm hv q hnn hdbg
        refine test (LM.here ?_)
        cases b with
        | true =>
          refine codeAny_handlers_suite_as ?_
          refine HandSPX.lands_againZ fl3 fun h4 fl4 up4 => ?_
          have J4 : Inv X pins σ' H' { s' with heap := h4 } := J.landed nb fl4.1 ((up.trans up3).trans up4) os ag
          obtain ⟨oe4, vs4, he4, hz4, hd4⟩ := fl4.there
          have S4 := J4.suite he4 hd4 na nL nF
          refine store_ok (X := X.suite a ((a, oe4) :: (X.pn ++ pins))) (v := .ref a) S4 hN hi hloc rfl (fun s5 S5 => ?_) (.inr hln)
          refine wpAny_mono ((hsu a oe4 cls d (X.pn ++ pins) hz4 ⟨_, hd4⟩).run [] s5 _ H' _ S5 (hyes rfl a na)) (fun f s6 hsp => ?_) (fun _ _ z => False.elim z)
          have ends : ∀ {σ6 : St} {H6 : Hp} {Q : Shared → Prop}, Inv (X.suite a ((a, oe4) :: (X.pn ++ pins))) [] σ6 H6 s6 → (∀ s7, Inv X pins (σ6.set i none) H6 s7 → Q s7) →
              wpAny (model X.prog X.w) X.A (do bindName X.env n .none; unbindBehindTheSuite X.env n pos') (fun _ s7 => Q s7) X.xe s6 := fun {σ6 H6 Q} S6 hq => gone_ok (S6.unsuite ok) hN hi hln hq
          cases f with
          | next =>
            obtain ⟨σ6, H6, S6, q6⟩ := hsp
            exact ends S6 fun s7 J7 => ⟨_, _, J7, q6⟩
          | brk =>
            obtain ⟨σ6, H6, S6, q6⟩ := hsp
            exact ends S6 fun s7 J7 => ⟨_, _, J7, q6⟩
          | cont =>
            obtain ⟨σ6, H6, S6, q6⟩ := hsp
            exact ends S6 fun s7 J7 => ⟨_, _, J7, q6⟩
          | ret u =>
            obtain ⟨v6, σ6, H6, S6, r6, q6⟩ := hsp
            exact ends S6 fun s7 J7 => ⟨_, _, _, J7, r6, q6⟩
        | false =>
          show wpAny _ X.A (handleBy (.ref a) X.env hds2) _ _ _
          exact ih (hno rfl)
    exact go hh w
  · cases f with
    | next =>
      obtain ⟨σ', H', J', q⟩ := hsp
      exact wpAny_execs_nil ⟨σ', H', J'.ofTry ok, q⟩
    | brk =>
      obtain ⟨σ', H', J', q⟩ := hsp
      exact ⟨σ', H', J'.ofTry ok, q⟩
    | cont =>
      obtain ⟨σ', H', J', q⟩ := hsp
      exact ⟨σ', H', J'.ofTry ok, q⟩
    | ret u =>
      obtain ⟨v, σ', H', J', r, q⟩ := hsp
      exact ⟨v, σ', H', J'.ofTry ok, r, q⟩
end
/-- isinstance(e, c), e the exception that the suite holds, with fields -/
def rIsD (K : PySem.W.Frag) (a : Addr) (cls : Value) (d : Option Addr) : List V → Hp → VK → Prop := fun xs H Q => ∃ (D dx : Addr) (fs : List (Str × V)), cls = .ref D ∧ d = some dx ∧ ExcC K D ∧ H dx = some (.xd fs) ∧ rIsE K D a xs H Q
theorem call_isD {X : Cx} {a : Addr} {cls : Value} {d : Option Addr} {oe : Obj} {pn : List (Addr × Obj)} (hz : Zc cls d oe) (hf : ∃ vs, oe.data = .fields vs) : CallR (X.suite a ((a, oe) :: pn)) (.builtin "isinstance") (rIsD X.K a cls d) := by
  intro pins s σ H xs us Q I r h
  obtain ⟨D, dx, fs, rfl, rfl, C, hdx, c, cv, b, rfl, hcv, e, q⟩ := h
  obtain ⟨u1, u2, rfl, r1, r2⟩ := vals2 r
  obtain rfl : u1 = Value.ref a := r1
  obtain rfl := hcv _ r2
  obtain ⟨hget, _⟩ := I.pin (a, oe) (List.mem_append.mpr (.inl List.mem_cons_self))
  obtain ⟨vs, hv⟩ := hf
  have hx : ObjOk X.prog X.w H s.heap dx (.xd fs) := I.hok dx _ hdx
  obtain ⟨mA, hns, hr⟩ := hx
  obtain ⟨od, ho, hl⟩ := lookIn_ns hns
  have J : PySem.W.InstAt s.heap a oe D (some od) := ⟨hget, hz.1, by unfold PySem.W.notCls; rw [hv] <;> rfl, by rw [hz.2]; exact ho⟩
  have hc : (PySem.W.clsIn X.K D).isSome = true := by
    obtain ⟨cd, hcd, _⟩ := PySem.W.any_some C.hd
    rw [hcd]
    rfl
  exact PySem.W.kia_one (PySem.W.kitx_exc (ox := oe) (od := some od) hc C.hg C.hk C.hs C.ha C.hn C.ht C.hm) I.kIn J e (fun z => nomatch z) fun tk => ⟨.bl b, H, I.kept (t' := tk) fun _ _ z => z, rfl, q⟩
end SK
namespace SK
open PySem PySem.Spec PyProof.Rows L2 LamX NdefX
open K0 (De DeAll XCl spX withX)
/-! ### defs that are called where no repr is under way -/
structure FnG (P : Program) (w : World) (K : PySem.W.Frag) (mg : Str → Option Value) (base : Heap) (CX : CXT) (k : Nat) (f : Addr) (fd : FuncData) (ps : List Str) (sp : Sp) : Prop where
  len : ∀ vs H Q E, sp vs H Q E → vs.length = ps.length
  run : ∀ (A : Around) (outer : List Env) (s : Shared) (H : Hp) (args : Args) (us : List Value) (vs : List V) (Q : VK) (E : XK), A.guards = some [] → Room k A → Env0 P w K mg base A outer s H → BindsTo s fd args (ps.zip us) → Vals vs us → sp vs H Q E →
    codeAny (model P w) A (.call (.ref f) args) (CR CX outer P w H s Q E) s
theorem FnG.ok {P : Program} {w : World} {K : PySem.W.Frag} {mg : Str → Option Value} {base : Heap} {x qual : Str} {st : Stmt} {f : Addr} {fd : FuncData} {N ps : List Str} {k : Nat} {sp : Sp} (F : Fun K x qual st f fd) (S : FnScope N ps (defScope st)) (len : ∀ vs H Q E, sp vs H Q E → vs.length = ps.length)
    (hbody : ∀ (cdv : Value) (A : Around) (outer : List Env) (s : Shared) (H : Hp) (vs : List V) (Q : VK) (E : XK), (A.deeper (envOfC qual (defScope st) s.heap.objs.size f cdv)).guards = some [] → Room k (A.deeper (envOfC qual (defScope st) s.heap.objs.size f cdv)) → sp vs H Q E →
      ∃ t, PSs (cxOf CX0 P w K mg base N qual (defScope st) f cdv A outer s H E).nox (defBody st) t ∧ t { nx := fun _ H' => Q .non H', rt := Q } (start N vs) H) : FnG P w K mg base CX0 (k + 1) f fd ps sp := by
  obtain ⟨oc, od, kV, doc, pm, an, cdv, ct, osl, rfl, lk, hcd⟩ := F.ex
  refine ⟨len, fun A outer s H args us vs Q E hg hr e0 hb r hsp => run_ofS lk hcd S hr e0 hb r (len _ _ _ _ hsp) fun hr' => ?_⟩
  obtain ⟨t, h, q⟩ := hbody cdv A outer s H vs Q E hg hr' hsp
  exact ⟨t, h.nox, q⟩
def tCallG (sp : Sp) (E : XK) (t : TA) : TE := fun σ H Q => t σ H fun vs H1 => sp vs H1 Q E
section
variable {X : Cx} {CX : CXT} {k : Nat} {f C : Addr} {fd : FuncData} {ps : List Str} {ds : List Value} {dvs : List V} {sp : Sp} {E : XK} {x : Str} {p pos : Pos} {e : Expr} {es : List Expr} {t : TA}
theorem run_fnG {pins : List (Addr × Obj)} {σ : St} {H : Hp} {s : Shared} {Q : VK} {us : List Value} {vs : List V} (F : FnG X.prog X.w X.K X.mg X.base CX k f fd ps sp) (hgd : X.A.guards = some []) (hr : Room k X.A) (hb : Binds X.K fd ps []) (hx : Passes CX X E) (I : Inv X pins σ H s) (r : Vals vs us)
    (h : sp vs H Q E) : wpAny (model X.prog X.w) X.A (call (.ref f) us) (EP X pins σ Q) X.xe s := by
  have hl : us.length = ps.length := by
    rw [← r.length]
    exact F.len _ _ _ _ h
  have b := hb s us I.kIn (by rw [List.append_nil]; exact hl)
  rw [List.append_nil] at b
  refine wpAny_call (codeAny_mono (F.run X.A X.stack s H ⟨us, []⟩ us vs Q E hgd hr I.env0 b r h) fun r s' hq => ?_)
  cases r with
  | error e => exact hx pins σ H s e s' I hq
  | ok fl =>
    cases fl with
    | ret u => exact I.after hq
    | next => exact False.elim hq
    | brk => exact False.elim hq
    | cont => exact False.elim hq
theorem pe_callG (F : FnG X.prog X.w X.K X.mg X.base CX k f fd ps sp) (hgd : X.A.guards = some []) (hr : Room k X.A) (hg : Gl X x) (hm : X.mg x = some (.ref f)) (hk : PySem.W.keepIn X.K (.ref f) = true) (hb : Binds X.K fd ps []) (hx : Passes CX X E)
    (ha : PA X (e :: es) t) (hdb : (x == ("__debug__" : Str)) = false := by decide) (he : starEach (e :: es) X.env = (false, eval e X.env) :: starEach es X.env := by rfl) (hpl : (backTo pos (starEach es X.env)).any (·.1) = false := by rfl) :
    PE X (.Call (.Name x p) (e :: es) [] pos) (tCallG sp E t) := by
  refine ⟨fun pins s σ H Q I h => ?_⟩
  refine wpAny_Call_Name_kw (ld_glob I hg hm ?_ hdb)
  refine PySem.W.callWith_K (h₀ := X.base) I.ok.mod.kin hk (thn (ha.run pos pins s σ H _ I h) fun us s1 ⟨vs, H1, I1, r, q⟩ => ⟨I1.kIn, ?_⟩) he hpl
  exact run_fnG F hgd hr hb hx I1 r q
/-- C(..), what is raised wished for at the caller's slots -/
def tMakeS (C : Addr) (sp : Sp) (E : St → XK) (t : TA) : TE := fun σ H Q => t σ H fun vs H1 => ∀ x dx, H1 x = none → H1 dx = none → dx ≠ x → sp (.ref x :: vs) (upd (upd H1 dx (.own x)) x (.ins C dx [])) (fun v H2 => v = .non ∧ Q (.ref x) H2) (E σ)
theorem pe_makeS {E : St → XK} (M : Mk X.K C f) (F : FnOk X.prog X.w X.K X.mg X.base CX k f fd ps sp) (hr : Room (k + 1) X.A) (hg : Gl X x) (hm : X.mg x = some (.ref C)) (hb : Binds X.K fd ps []) (hx : ∀ σ, PassesAt CX X σ (E σ)) (ha : PA X (e :: es) t)
    (hdb : (x == ("__debug__" : Str)) = false := by decide) (he : starEach (e :: es) X.env = (false, eval e X.env) :: starEach es X.env := by rfl) (hpl : (backTo pos (starEach es X.env)).any (·.1) = false := by rfl) :
    PE X (.Call (.Name x p) (e :: es) [] pos) (tMakeS C sp E t) := by
  refine ⟨fun pins s σ H Q I h => ?_⟩
  refine wpAny_Call_Name_kw (ld_glob I hg hm ?_ hdb)
  refine PySem.W.callWith_K (h₀ := X.base) I.ok.mod.kin M.kp (thn (ha.run pos pins s σ H _ I h) fun us s1 ⟨vs, H1, I1, r, q⟩ => ⟨I1.kIn, ?_⟩) he hpl
  have hq := q (s1.heap.objs.size + 1) s1.heap.objs.size (I1.hok.fresh (Nat.le_succ _)) (I1.hok.fresh (Nat.le_refl _)) (Nat.ne_of_lt (Nat.lt_succ_self _))
  have I2 := Inv.made (C := C) I1
  have r2 : Vals (V.ref (s1.heap.objs.size + 1) :: vs) (Value.ref (s1.heap.objs.size + 1) :: us) := .cons rfl r
  have hl : (Value.ref (s1.heap.objs.size + 1) :: us).length = ps.length := by
    have z := r2.length
    rw [F.len _ _ _ _ hq] at z
    exact z.symm
  have b := hb _ (Value.ref (s1.heap.objs.size + 1) :: us) I2.kIn (by rw [List.append_nil]; exact hl)
  rw [List.append_nil] at b
  show wpAny _ _ (call (.ref C) us) _ _ _
  refine wpAny_call (make_map (f := f) I1.kIn M.makes M.init (beq_iff_eq.mp M.fn) (codeAny_mono (F.run _ X.stack _ _ ⟨Value.ref (s1.heap.objs.size + 1) :: us, []⟩ (Value.ref (s1.heap.objs.size + 1) :: us) _ _ (E σ) (hr.make C us [])
    (I2.env0.make C us []) b r2 hq) fun r s' hq' => ?_))
  cases r with
  | error er => exact hx σ pins _ _ er s' I2 hq'
  | ok fl =>
    cases fl with
    | ret u =>
      obtain ⟨v, H', I3, rv, ev, q3⟩ := I2.after hq'
      subst ev
      exact ⟨rv, ⟨V.ref (s1.heap.objs.size + 1), H', I3, rfl, q3⟩⟩
    | next => exact False.elim hq'
    | brk => exact False.elim hq'
    | cont => exact False.elim hq'
/-- repr(x), x any data -/
def rRepD (K : PySem.W.Frag) : List V → Hp → VK → Prop := fun xs H Q => ∃ (v : V) (d : PyData), xs = [v] ∧ De K H v d ∧ d.showable = true ∧ d.depth ≤ 8 ∧ d.shown.length ≤ sizeLine ∧ Q (.str d.shown) H
theorem call_repD (hg : X.A.guards = some []) (hu : X.A.units + 64 < cLine) (hsys : ∃ o, X.K.lookup sysModules = some o) : CallR X (.builtin "repr") (rRepD X.K) := by
  intro pins s σ H xs us Q I r h
  obtain ⟨v, d, rfl, hd, hsh, hdp, hz, q⟩ := h
  cases hd with
  | non =>
    obtain ⟨u, rfl, ru⟩ := vals1 r
    obtain rfl : u = Value.none := ru
    exact PySem.P.repr_of_none ⟨.str _, H, I.tok _, ⟨_, rfl⟩, q⟩
  | bl b =>
    obtain ⟨u, rfl, ru⟩ := vals1 r
    obtain rfl : u = Value.bool b := ru
    exact PySem.P.repr_of_bool ⟨.str _, H, I.tok _, ⟨_, rfl⟩, by cases b <;> exact q⟩
  | int i =>
    obtain ⟨u, rfl, t, rfl⟩ := vals1 r
    refine PySem.P.repr_of_int (by simpa [PyData.showable] using hsh) ⟨.str _, H, I.tok _, ⟨_, rfl⟩, q⟩
  | str x =>
    obtain ⟨u, rfl, t, rfl⟩ := vals1 r
    exact PySem.P.repr_of_str ⟨.str _, H, I.tok _, ⟨_, rfl⟩, q⟩ hz
  | @lst a vs ds ha hds => exact K0.call_rep hg hu hsys pins s σ H _ us Q I r ⟨a, _, rfl, .lst ha hds, hsh, hdp, hz, q⟩
  | @tup a vs ds ha hds => exact K0.call_rep hg hu hsys pins s σ H _ us Q I r ⟨a, _, rfl, .tup ha hds, hsh, hdp, hz, q⟩
  | @dic a ha => exact K0.call_rep hg hu hsys pins s σ H _ us Q I r ⟨a, _, rfl, .dic ha, hsh, hdp, hz, q⟩
end
end SK
namespace SK
open PySem PySem.Spec PyProof.Rows L2 LamX NdefX
open K0 (De DeAll XCl spX withX)
/-! ### how a tree is met -/
/-- what is told of the four error classes together -/
structure Excs (P : Program) (w : World) (K : PySem.W.Frag) (mg : Str → Option Value) (base : Heap) (C : Cs) (tE : Addr) : Prop where
  dl : XR P w K mg base "BadLetters" C.l ["letters"]
  dm : XR P w K mg base "TooMany" C.m ["what", "many", "most"]
  dr : XR P w K mg base "BadRow" C.r ["number"]
  dn : XR P w K mg base "Lone" C.o ["place"]
  gX : mg "TreesError" = some (.ref tE)
  ll : PySem.W.exmOne K (.ref C.l) (.ref C.l) = some true
  ml : PySem.W.exmOne K (.ref C.m) (.ref C.l) = some false
  mm : PySem.W.exmOne K (.ref C.m) (.ref C.m) = some true
  rl : PySem.W.exmOne K (.ref C.r) (.ref C.l) = some false
  rm : PySem.W.exmOne K (.ref C.r) (.ref C.m) = some false
  rr : PySem.W.exmOne K (.ref C.r) (.ref C.r) = some true
  ol : PySem.W.exmOne K (.ref C.o) (.ref C.l) = some false
  om : PySem.W.exmOne K (.ref C.o) (.ref C.m) = some false
  or : PySem.W.exmOne K (.ref C.o) (.ref C.r) = some false
  oo : PySem.W.exmOne K (.ref C.o) (.ref C.o) = some true
  kr : PySem.W.kitOne K (.ref C.r) (.ref tE) = some true
theorem xf_of {K : PySem.W.Frag} {C : Addr} (c : XCl K C) : XfC K C := ⟨c.ga, c.gg, c.T.exC, c.hd⟩
theorem ec_of {K : PySem.W.Frag} {C : Addr} (c : XCl K C) : ExcC K C := ⟨c.ga, c.gg, c.T.exC, c.hd, c.ha, c.hn, c.ht, c.hm⟩
/-- the answer, by the way -/
def ansV (L : PyData) : Way → List V
  | .letters => [.str "letters", .str L.shown]
  | .places n => [.str "places", .int n, .int 2000]
  | .row i => [.str "row", .int i, .bl true]
  | .lone p => [.str "lone", .str p]
  | .fine => []
structure Small (d : PyData) : Prop where
  sh : d.showable = true
  dp : d.depth ≤ 8
  ln : d.shown.length ≤ 5000
/-- what is asked of letters and rows -/
structure Asked (K : PySem.W.Frag) (T : List (Addr × Str)) (H : Hp) (vL : V) (a : Addr) (L : PyData) (xs : List V) (ds : List PyData) : Prop where
  let_ : De K H vL L
  asc : ∀ z, L = .str z → z.cps.all (· < 128) = true ∧ z.cps.size ≤ 1000
  sm : Small L
  rows : Rows H a xs
  all : DeAll K H xs ds
  fit : ∀ d ∈ ds, Fit d
  len : xs.length ≤ 5000
  tab : Tabs T H
theorem lk3 {n : Nat} (j : Nat) : ([(("most" : Str), V.int 2000), ("many", V.int n), ("what", V.str "places")] : List (Str × V)).lookup ((["most", "many", "what"] : List Str).getD j "most") = some (([V.int 2000, V.int n, V.str "places"] : List V).getD j (V.int 2000)) := by
  match j with
  | 0 => simp [List.lookup]
  | 1 => simp [List.lookup, show ((("many" : Str)) == ("most" : Str)) = false from by decide +kernel]
  | 2 => simp [List.lookup, show ((("what" : Str)) == ("most" : Str)) = false from by decide +kernel, show ((("what" : Str)) == ("many" : Str)) = false from by decide +kernel]
  | j + 3 => simp [List.lookup]
mutual
theorem de_ext {K : PySem.W.Frag} {H H' : Hp} (m : ExtN H H') : ∀ {d : PyData} {v : V}, De K H v d → De K H' v d
  | _, _, .non => .non
  | _, _, .bl b => .bl b
  | _, _, .int i => .int i
  | _, _, .str x => .str x
  | _, _, .lst ha hd => .lst (m _ _ ha fun ps z => nomatch z) (de_extAll m hd)
  | _, _, .tup ha hd => .tup (m _ _ ha fun ps z => nomatch z) (de_extAll m hd)
  | _, _, .dic ha => .dic (m _ _ ha fun ps z => nomatch z)
theorem de_extAll {K : PySem.W.Frag} {H H' : Hp} (m : ExtN H H') : ∀ {ds : List PyData} {vs : List V}, DeAll K H vs ds → DeAll K H' vs ds
  | _, _, .nil => .nil
  | _, _, .cons h1 h2 => .cons (de_ext m h1) (de_extAll m h2)
end
def spMet (K : PySem.W.Frag) (T : List (Addr × Str)) : Sp := fun vs H Q _ => ∃ (vL : V) (a : Addr) (L : PyData) (xs : List V) (ds : List PyData), vs = [vL, .ref a] ∧ Asked K T H vL a L xs ds ∧
  ∀ (H' : Hp) (t : Addr), ExtN H H' → Tabs T H' → H' t = some (.tup (ansV L (way L ds))) → Q (.ref t) H'
section
variable {P : Program} {w : World} {K : PySem.W.Frag} {mg : Str → Option Value} {base : Heap} {f fI CT tE : Addr} {fd fdI : FuncData} {C : Cs} {T : List (Addr × Str)}
theorem sc35 : FnScope ["letters", "rows", "e"] ["letters", "rows"] (defScope (top 35)) := ⟨rfl, rfl, rfl, by decide +kernel, rfl, by decide +kernel, by decide +kernel⟩
theorem ok_met (F : Fun K "_law_met" "_law_met" (top 35) f fd) (X4 : Excs P w K mg base C tE) (gR : mg "repr" = none) (gI : mg "isinstance" = none) (hsys : ∃ o, K.lookup sysModules = some o)
    (gT : mg "Tree" = some (.ref CT)) (M : Mk K CT fI) (GI : FnOk P w K mg base (L2.CX P w) 6 fI fdI ["self", "letters", "rows"] (spInit K CT C T)) (bI : Binds K fdI ["self", "letters", "rows"] []) :
    FnG P w K mg base CX0 8 f fd ["letters", "rows"] (spMet K T) := by
  refine FnG.ok F sc35 (fun vs H Q E h => ?_) (fun cdv A outer s H vs Q E hg hr h => ?_)
  · obtain ⟨vL, a, L, xs, ds, rfl, _⟩ := h
    rfl
  · obtain ⟨vL, a, L, xs, ds, rfl, ⟨hL, hasc, hsm, hrows, hall, hfit, hlen, hT⟩, kk⟩ := h
    have hu64 := hr.units
    refine ⟨_, pss_cons (ps_try_asM (i := 2) rfl rfl sc35.nd rfl rfl L2.takes0
      (fun W pn xe tk _ => pss_one (ps_expr (pe_makeS M GI (hr.mono (by decide)) (by rfl) gT bI (fun σ => passAt tk σ) (pa_cons (pv 0) (pa_cons (pv 1) pa_nil)))))
      (HdsAs.cons (c := .ref C.l) ⟨rfl, by decide, .inl X4.dl.gC⟩ (fun a oe cls d pn hz hf => pss_one (ps_ret (pe_tup (pa_cons pe_str (pa_cons (pe_callB (r := rRepD K) (call_repD hg hu64 hsys) (by rfl) gR PyProof.Rows.boot_repr (pa_cons (pe_xf (xf_of X4.dl.cl) (X4.dl.no _ (by simp)) hz hf (pv 2)) pa_nil)) pa_nil)))))
      (HdsAs.cons (c := .ref C.m) ⟨rfl, by decide, .inl X4.dm.gC⟩ (fun a oe cls d pn hz hf => pss_one (ps_ret (pe_tup (pa_cons (pe_xf (xf_of X4.dm.cl) (X4.dm.no _ (by simp)) hz hf (pv 2)) (pa_cons (pe_xf (xf_of X4.dm.cl) (X4.dm.no _ (by simp)) hz hf (pv 2)) (pa_cons (pe_xf (xf_of X4.dm.cl) (X4.dm.no _ (by simp)) hz hf (pv 2)) pa_nil))))))
      (HdsAs.cons (c := .ref C.r) ⟨rfl, by decide, .inl X4.dr.gC⟩ (fun a oe cls d pn hz hf => pss_one (ps_ret (pe_tup (pa_cons pe_str (pa_cons (pe_xf (xf_of X4.dr.cl) (X4.dr.no _ (by simp)) hz hf (pv 2)) (pa_cons (pe_callB (r := rIsD K a cls d) (call_isD hz hf) (by rfl) gI PyProof.Rows.boot_isinstance (pa_cons (pv 2) (pa_cons (pe_glob (v := V.ref tE) (by rfl) X4.gX rfl) pa_nil))) pa_nil))))))
      (HdsAs.cons (c := .ref C.o) ⟨rfl, by decide, .inl X4.dn.gC⟩ (fun a oe cls d pn hz hf => pss_one (ps_ret (pe_tup (pa_cons pe_str (pa_cons (pe_xf (xf_of X4.dn.cl) (X4.dn.no _ (by simp)) hz hf (pv 2)) pa_nil))))) HdsAs.nil)))))
      (pss_one (ps_ret (pe_tup pa_nil))), ?_⟩
    have hRep : L.shown.length ≤ sizeLine := Nat.le_trans hsm.ln (by decide)
    refine ⟨vL, rfl, V.ref a, rfl, fun x dx nx nd ne => ?_⟩
    have s0 : Same H (upd (upd H dx (.own x)) x (.ins CT dx [])) := fun b o e => by
      rw [upd_ne (ne_of_none e nx), upd_ne (ne_of_none e nd)]
      exact e
    have hx0 : upd (upd H dx (.own x)) x (.ins CT dx []) x = some (.ins CT dx []) := upd_same
    generalize upd (upd H dx (.own x)) x (.ins CT dx []) = H0 at s0 hx0 ⊢
    have tup : ∀ (zs : List V) (H1 : Hp), zs.length ≤ 1000 → ExtN H0 H1 → Tabs T H1 → ansV L (way L ds) = zs → zs.length ≤ sizeLine ∧ ∀ p, H1 p = none → Q (.ref p) (upd H1 p (.tup zs)) := fun zs H1 hz e1 t1 ez =>
      ⟨Nat.le_trans hz (by decide), fun p np => kk _ p ((ExtN.of s0).trans (e1.trans (ExtN.of (upd_new np)))) (t1.ext (upd_new np)) (by rw [upd_same, ez])⟩
    refine ⟨x, dx, a, vL, L, xs, ds, rfl, hx0, de_mono s0 _ _ hL, hasc, hrows.mono (ExtN.of s0), de_monoAll s0 _ _ hall, hfit, hlen, hT.ext s0, ⟨fun ew => ?_, fun n ew => ?_, fun i ew => ?_, fun p ew => ?_⟩, fun ew H1 fs g1 t1 hx1 => ⟨rfl, ?_⟩⟩
    · intro H1 d e1 t1 hd
      refine ⟨true, X4.ll, fun _ q nq => ?_, fun z => nomatch z⟩
      refine ⟨V.ref q, rfl, rfl, rfl, d, _, vL, rfl, hd, by simp [List.lookup], vL, L, rfl, de_ext e1 (de_mono s0 _ _ hL), hsm.sh, hsm.dp, hRep, tup _ H1 (by show 2 ≤ 1000; decide) e1 t1 (by rw [ew]; rfl)⟩
    · intro H1 d e1 t1 hd
      refine ⟨false, X4.ml, (fun z => nomatch z), fun _ => ⟨true, X4.mm, fun _ q nq => ?_, fun z => nomatch z⟩⟩
      refine ⟨V.ref q, rfl, rfl, rfl, d, _, .str "places", rfl, hd, lk3 2, V.ref q, rfl, rfl, rfl, d, _, .int n, rfl, hd, lk3 1, V.ref q, rfl, rfl, rfl, d, _, .int 2000, rfl, hd, lk3 0, tup _ H1 (by show 3 ≤ 1000; decide) e1 t1 (by rw [ew]; rfl)⟩
    · intro H1 d e1 t1 hd
      refine ⟨false, X4.rl, (fun z => nomatch z), fun _ => ⟨false, X4.rm, (fun z => nomatch z), fun _ => ⟨true, X4.rr, fun _ q nq => ?_, fun z => nomatch z⟩⟩⟩
      refine ⟨V.ref q, rfl, rfl, rfl, d, _, .int i, rfl, hd, by simp [List.lookup], V.ref q, rfl, C.r, d, _, rfl, rfl, ec_of X4.dr.cl, hd, .ref tE, .ref tE, true, rfl, fun u z => z, X4.kr, tup _ H1 (by show 3 ≤ 1000; decide) e1 t1 (by rw [ew]; rfl)⟩
    · intro H1 d e1 t1 hd
      refine ⟨false, X4.ol, (fun z => nomatch z), fun _ => ⟨false, X4.om, (fun z => nomatch z), fun _ => ⟨false, X4.or, (fun z => nomatch z), fun _ => ⟨true, X4.oo, fun _ q nq => ?_, fun z => nomatch z⟩⟩⟩⟩
      refine ⟨V.ref q, rfl, rfl, rfl, d, _, .str p, rfl, hd, by simp [List.lookup], tup _ H1 (by show 2 ≤ 1000; decide) e1 t1 (by rw [ew]; rfl)⟩
    · have e1 : ExtN H H1 := fun b o e ht => g1 b o (ne_of_none e nx) (s0 _ _ e) ht
      exact ⟨Nat.zero_le _, fun p np => kk _ p (e1.trans (ExtN.of (upd_new np))) (t1.ext (upd_new np)) (by rw [upd_same, ew]; rfl)⟩
end
end SK
namespace SK
open PySem PySem.Spec PyProof.Rows L2 LamX NdefX
open K0 (De DeAll XCl spX withX)
/-! ### the law's own look at a row -/
inductive Plain : PyData → Prop
  | non : Plain .none
  | bl (b : Bool) : Plain (.bool b)
  | zero : Plain (.int 0)
  | one : Plain (.int 1)
  | tr : Plain (.str "True")
def FitP (d : PyData) : Prop := ∀ a b c, elems d = [a, b, c] → Plain b ∧ Plain c
theorem plain_shown {d : PyData} (h : Plain d) : isB d = inV (.str d.shown) [.str "True", .str "False"] := by
  cases h with
  | bl b => cases b <;> decide +kernel
  | _ => decide +kernel
theorem plain_ok {d : PyData} (h : Plain d) : d.showable = true ∧ d.shown.length ≤ sizeLine := by
  cases h with
  | bl b => cases b <;> exact ⟨by decide +kernel, by decide +kernel⟩
  | _ => exact ⟨by decide +kernel, by decide +kernel⟩
section
variable {X : Cx}
/-- repr(x), x plain -/
def rRepP (K : PySem.W.Frag) : List V → Hp → VK → Prop := fun xs H Q => ∃ (v : V) (d : PyData), xs = [v] ∧ De K H v d ∧ Plain d ∧ Q (.str d.shown) H
theorem call_repP : CallR X (.builtin "repr") (rRepP X.K) := by
  intro pins s σ H xs us Q I r h
  obtain ⟨v, d, rfl, hd, hp, q⟩ := h
  obtain ⟨hsh, hz⟩ := plain_ok hp
  cases hd with
  | non =>
    obtain ⟨u, rfl, ru⟩ := vals1 r
    obtain rfl : u = Value.none := ru
    exact PySem.P.repr_of_none ⟨.str _, H, I.tok _, ⟨_, rfl⟩, q⟩
  | bl b =>
    obtain ⟨u, rfl, ru⟩ := vals1 r
    obtain rfl : u = Value.bool b := ru
    exact PySem.P.repr_of_bool ⟨.str _, H, I.tok _, ⟨_, rfl⟩, by cases b <;> exact q⟩
  | int i =>
    obtain ⟨u, rfl, t, rfl⟩ := vals1 r
    refine PySem.P.repr_of_int (by simpa [PyData.showable] using hsh) ⟨.str _, H, I.tok _, ⟨_, rfl⟩, q⟩
  | str x =>
    obtain ⟨u, rfl, t, rfl⟩ := vals1 r
    exact PySem.P.repr_of_str ⟨.str _, H, I.tok _, ⟨_, rfl⟩, q⟩ hz
  | _ => cases hp
end
def spRowL (K : PySem.W.Frag) : Sp := fun vs H Q _ => ∃ (ls : Str) (v : V) (d : PyData), vs = [.str ls, v] ∧ De K H v d ∧ Fit d ∧ FitP d ∧ ∀ H', Same H H' → Q (.bl (okR ls d)) H'
section
variable {P : Program} {w : World} {K : PySem.W.Frag} {mg : Str → Option Value} {base : Heap} {f : Addr} {fd : FuncData}
theorem sc37 : FnScope ["letters", "row", "sign"] ["letters", "row"] (defScope (top 37)) := ⟨rfl, rfl, rfl, by decide +kernel, rfl, by decide +kernel, by decide +kernel⟩
theorem ok_rowL (F : Fun K "_law_is_row" "_law_is_row" (top 37) f fd) (gI : mg "isinstance" = none) (gT : mg "tuple" = none) (gLs : mg "list" = none) (gS : mg "str" = none) (gL : mg "len" = none) (gAl : mg "all" = none) (gR : mg "repr" = none) :
    FnOk P w K mg base CX0 1 f fd ["letters", "row"] (spRowL K) := by
  refine F.ok sc37 (fun vs H Q E h => ?_) (fun cdv A outer s H vs Q E hr h => ?_)
  · obtain ⟨ls, v, d, rfl, _⟩ := h
    rfl
  · obtain ⟨ls, v, d, rfl, hd, hF, hP, k⟩ := h
    refine ⟨_, pss_cons (ps_if (pw_or (pt_not (pt_val (pe_callB call_isiT (by rfl) gI PyProof.Rows.boot_isinstance (pa_cons (pv 1) (pa_cons (pe_tup (pa_cons (pe_bltn (v := .ty "tuple") (by rfl) gT PyProof.Rows.boot_tuple rfl) (pa_cons (pe_bltn (v := .ty "list") (by rfl) gLs PyProof.Rows.boot_list rfl) pa_nil))) pa_nil)))))
        (pw_or (pt_cmpR op_ne (pe_callB call_len_seq (by rfl) gL PySem.boot_len (pa_cons (pv 1) pa_nil)) pe_int (nomark _))
        (pw_or (pt_not (pt_val (pe_callB call_isi (by rfl) gI PyProof.Rows.boot_isinstance (pa_cons (pe_ix ix_seq (pv 1) pe_int (fun _ _ => rfl)) (pa_cons (pe_bltn (v := .ty "str") (by rfl) gS PyProof.Rows.boot_str rfl) pa_nil)))))
        (pw_or1 (pt_cmpR op_gt (pe_callB call_len_str (by rfl) gL PySem.boot_len (pa_cons (pe_ix ix_seq (pv 1) pe_int (fun _ _ => rfl)) pa_nil)) pe_int (nomark _)))))).pt (pss_one (ps_ret pe_bl)) pss_nil)
      (pss_cons (ps_if (pt_not (pt_val (pe_callB (cr_all rfl) (by rfl) gAl PyProof.Rows.boot_all (pa_cons (pe_lc (own := [("sign", 2)]) (g := gName 2) (tt := tYes) rfl sc37.nd (pi_str (pe_ix ix_seq (pv 1) pe_int (fun _ _ => rfl))) (blkOk_by (N := ["letters", "row", "sign"]) (sc := defScope (top 37)) (by decide +kernel))
          (fun _ _ _ _ _ => pg_name (i := 2) sc37.nd rfl (Or.inl rfl)) (fun _ _ _ _ _ => pts_nil) (fun _ _ _ _ _ => pe_cmpR op_in_sign (pv 2) (pv 0) (by rfl))) pa_nil)))) (pss_one (ps_ret pe_bl)) pss_nil)
      (pss_one (ps_ret (pe_and (pe_cmpR op_in_seq (pe_callB call_repP (by rfl) gR PyProof.Rows.boot_repr (pa_cons (pe_ix ix_seq (pv 1) pe_int (fun _ _ => rfl)) pa_nil)) (pe_tup (pa_cons pe_str (pa_cons pe_str pa_nil))) (by rfl))
        (pe_one (pe_cmpR op_in_seq (pe_callB call_repP (by rfl) gR PyProof.Rows.boot_repr (pa_cons (pe_ix ix_seq (pv 1) pe_int (fun _ _ => rfl)) pa_nil)) (pe_tup (pa_cons pe_str (pa_cons pe_str pa_nil))) (by rfl))))))), ?_⟩
    refine ⟨v, rfl, (by show 2 ≤ sizeLine; decide), fun tp hp => ?_⟩
    have s1 := upd_new (o := .tup [.ty "tuple", .ty "list"]) hp
    have t1 : upd H tp (.tup [.ty "tuple", .ty "list"]) tp = some (.tup [.ty "tuple", .ty "list"]) := upd_same
    generalize upd H tp (.tup [.ty "tuple", .ty "list"]) = H1 at s1 t1
    have hd1 := de_mono s1 d v hd
    obtain ⟨T, tx, _, _, b1, b2, k1, k2, kk⟩ := ty_of hd1
    refine ⟨v, tp, [.ty "tuple", .ty "list"], .type T, [.type "tuple", .type "list"], isTL d, rfl, t1, .cons (.ty _) (.cons (.ty _) .nil), tx, (by rw [← kk]; exact kit_two k1 k2), _, rfl, ?_⟩
    have shape : (isTL d = false ∧ okR ls d = false) ∨ ∃ (p : Addr) (vs : List V) (ds : List PyData), v = .ref p ∧ DeAll K H1 vs ds ∧ (SqL K H1 p vs ∨ SqT K H1 p vs) ∧
        (∀ H2, Same H1 H2 → ∀ (j : Nat) (x : V), vs[j]? = some x → ∀ R : VK, R x H2 → rIx K (.ref p) (.int (j : Int)) H2 R) ∧ isTL d = true ∧ okR ls d = okR3 ls ds ∧ (∀ x, PyData.str x ∈ ds → x.cps.size ≤ 1000) ∧ ds = elems d := by
      cases hd1 with
      | @lst a vs ds ha hds => exact .inr ⟨a, vs, ds, rfl, hds, .inl (.inl (.inl ha)), fun H2 s2 j x hx R q => .inl ⟨a, vs, _, x, rfl, rfl, .inl (.inl (s2 _ _ ha)), atI_nat hx, q⟩, rfl, rfl, hF ds (.inr rfl), rfl⟩
      | @tup a vs ds ha hds => exact .inr ⟨a, vs, ds, rfl, hds, .inr (.inl (.inl ha)), fun H2 s2 j x hx R q => .inr (.inl ⟨a, vs, _, x, rfl, rfl, .inl (.inl (s2 _ _ ha)), atI_nat hx, q⟩), rfl, rfl, hF ds (.inl rfl), rfl⟩
      | _ => exact .inl ⟨rfl, rfl⟩
    rcases shape with ⟨e1, e2⟩ | ⟨p, vs, ds, rfl, hda, hsq, hix, e1, e2, hfit, eds⟩
    · rw [e1]
      refine iteT (iteT ?_)
      have z := k H1 s1
      rw [e2] at z
      exact z
    rw [e1]
    have hl := deAll_len hda
    refine iteF ⟨V.ref p, rfl, p, vs, rfl, hsq, rfl, _, rfl, ?_⟩
    have no : ∀ H2, Same H1 H2 → okR3 ls ds = false → Q (.bl false) H2 := fun H2 s2 e => by
      have z := k H2 (s1.trans s2)
      rw [e2, e] at z
      exact z
    by_cases c1 : vs.length = 3
    · have hd3 : (!decide (V.int (vs.length : Nat) = V.int 3)) = false := by
        rw [c1]
        decide
      rw [hd3]
      refine iteF ?_
      cases hda with
      | nil => cases c1
      | @cons v0 vs d0 ds h0 t0 =>
        cases t0 with
        | nil => cases c1
        | @cons v1 vs d1 ds h1 t1 =>
          cases t1 with
          | nil => cases c1
          | @cons v2 vs d2 ds h2 t2 =>
            cases t2 with
            | cons _ _ => simp at c1
            | nil =>
              obtain ⟨p1, p2⟩ := hP d0 d1 d2 eds.symm
              obtain ⟨T0, tx0, ks0, _⟩ := ty_of h0
              refine ⟨V.ref p, rfl, hix H1 (Same.refl H1) 0 v0 rfl _ ⟨v0, .ty "str", .type T0, .type "str", isS d0, rfl, .ty _, tx0, kit_ty ks0, _, rfl, ?_⟩⟩
              cases d0 with
              | str x =>
                cases h0
                have hz := hfit x (by simp)
                have hzs : x.length ≤ sizeLine := Nat.le_trans hz (by decide)
                have el : x.length = x.cps.size := rfl
                refine iteF ⟨V.ref p, rfl, hix H1 (Same.refl H1) 0 (.str x) rfl _ ⟨x, rfl, hzs, (x.length : Int), 200, rfl, rfl, _, rfl, ?_⟩⟩
                by_cases c2 : x.cps.size ≤ 200
                · have hd2 : decide ((x.length : Int) > 200) = false := decide_eq_false (by omega)
                  rw [hd2]
                  refine iteF ?_
                  show tCB (rAll K) (tCons (tLc (iStr (tOp (rIx K) (tVar 1) (tC (.int 0)))) (gName 2) tYes (tOp _ (tVar 2) (tVar 0)) [2]) tNil) _ H1 _
                  refine rd_all_text (fun c => decide (c ∈ ls.cps.toList)) hz (fun R h => ⟨V.ref p, rfl, hix H1 (Same.refl H1) 0 (.str x) rfl _ h⟩) (fun _ => rfl) (fun c H2 R h => ⟨_, rfl, _, rfl, c, ls, rfl, rfl, h⟩) fun H2 sm => ⟨_, rfl, ?_⟩
                  have okx : okW ls (.str x) = x.cps.toList.all fun c => decide (c ∈ ls.cps.toList) := by
                    simp only [okW, decide_eq_true c2, Bool.true_and]
                  cases c3 : x.cps.toList.all fun c => decide (c ∈ ls.cps.toList) with
                  | false => exact iteT (no H2 sm (by simp only [okR3, okx, c3, Bool.false_and]))
                  | true =>
                    refine iteF ⟨V.ref p, rfl, hix H2 sm 1 v1 rfl _ ⟨v1, d1, rfl, de_mono sm _ _ h1, p1, (by show 2 ≤ sizeLine; decide), fun t2 n2 => ⟨t2, [.str "True", .str "False"], rfl, .inr (.inl (.inl upd_same)), rfl, rfl, ?_⟩⟩⟩
                    refine ⟨_, rfl, ?_⟩
                    have sm2 := sm.trans (upd_new (o := .tup [.str "True", .str "False"]) n2)
                    generalize upd H2 t2 (.tup [.str "True", .str "False"]) = H3 at sm2 ⊢
                    have e1' : (if false = true then !inV (.str d1.shown) [.str "True", .str "False"] else inV (.str d1.shown) [.str "True", .str "False"]) = isB d1 := (plain_shown p1).symm
                    rw [e1']
                    cases c4 : isB d1 with
                    | false => exact iteF (no H3 sm2 (by simp only [okR3, c4, Bool.false_and, Bool.and_false]))
                    | true =>
                      refine iteT ⟨V.ref p, rfl, hix H3 sm2 2 v2 rfl _ ⟨v2, d2, rfl, de_mono sm2 _ _ h2, p2, (by show 2 ≤ sizeLine; decide), fun t3 n3 => ⟨t3, [.str "True", .str "False"], rfl, .inr (.inl (.inl upd_same)), rfl, rfl, ?_⟩⟩⟩
                      have sm3 := sm2.trans (upd_new (o := .tup [.str "True", .str "False"]) n3)
                      have e2' : (if false = true then !inV (.str d2.shown) [.str "True", .str "False"] else inV (.str d2.shown) [.str "True", .str "False"]) = isB d2 := (plain_shown p2).symm
                      rw [e2']
                      have z := k _ (s1.trans sm3)
                      rw [e2] at z
                      simp only [okR3, okx, c3, c4, Bool.true_and] at z
                      exact z
                · have hd2 : decide ((x.length : Int) > 200) = true := decide_eq_true (by omega)
                  rw [hd2]
                  exact iteT (no H1 (Same.refl H1) (by simp only [okR3, okW, decide_eq_false c2, Bool.false_and]))
              | _ => exact iteT (iteT (no H1 (Same.refl H1) (by rfl)))
    · have hd3 : (!decide (V.int (vs.length : Nat) = V.int 3)) = true := by
        have z : ¬ V.int (vs.length : Nat) = V.int 3 := fun z => c1 (by injection z with z; omega)
        rw [decide_eq_false z]
        rfl
      rw [hd3]
      refine iteT (iteT (no H1 (Same.refl H1) ?_))
      have n3 : ds.length ≠ 3 := by omega
      match ds, n3 with
      | [], _ => rfl
      | [_], _ => rfl
      | [_, _], _ => rfl
      | [_, _, _], n => exact absurd rfl n
      | _ :: _ :: _ :: _ :: _, _ => rfl
end
end SK
namespace SK
open PySem PySem.Spec PyProof.Rows L2 LamX NdefX
open K0 (De DeAll XCl spX withX)
theorem cnt_count (c : Nat) : ∀ l : List Nat, PyProof.Rows.cnt c l = (l.count c : Nat)
  | [] => by simp [PyProof.Rows.cnt_nil]
  | n :: r => by
    rw [PyProof.Rows.cnt_cons, cnt_count c r, List.count_cons]
    by_cases h : n = c
    · simp [h]
      omega
    · simp [h]
theorem all_once (x : Str) : (x.cps.toList.all fun c => decide (V.int (Txt.count x ⟨#[c]⟩) = V.int 1)) = decide x.cps.toList.Nodup := by
  have e : ∀ c, decide (V.int (Txt.count x ⟨#[c]⟩) = V.int 1) = decide (x.cps.toList.count c = 1) := fun c => by
    rw [PyProof.Rows.count_cnt, cnt_count]
    by_cases h : x.cps.toList.count c = 1
    · rw [decide_eq_true h, h]
      decide
    · rw [decide_eq_false h]
      refine decide_eq_false fun z => h ?_
      injection z with z
      omega
  simp only [e]
  by_cases nd : x.cps.toList.Nodup
  · rw [decide_eq_true nd, List.all_eq_true]
    intro c hc
    have h1 := List.nodup_iff_count.mp nd c
    have h2 := List.count_pos_iff.mpr hc
    exact decide_eq_true (by omega)
  · rw [decide_eq_false nd, Bool.eq_false_iff]
    intro z
    rw [List.all_eq_true] at z
    refine nd (List.nodup_iff_count.mpr fun c => ?_)
    by_cases hc : c ∈ x.cps.toList
    · have := of_decide_eq_true (z c hc)
      omega
    · rw [List.count_eq_zero_of_not_mem hc]
      omega
def rCount : V → List V → Hp → VK → Prop := fun x xs H Q => ∃ a b, x = .str a ∧ xs = [.str b] ∧ Q (.int (Txt.count a b)) H
section
variable {P : Program} {w : World} {K : PySem.W.Frag} {mg : Str → Option Value} {base : Heap} {f : Addr} {fd : FuncData}
theorem sc36 : FnScope ["value", "small", "sign"] ["value"] (defScope (top 36)) := ⟨rfl, rfl, rfl, by decide +kernel, rfl, by decide +kernel, by decide +kernel⟩
theorem ok_areL (F : Fun K "_law_are_letters" "_law_are_letters" (top 36) f fd) (gI : mg "isinstance" = none) (gS : mg "str" = none) (gL : mg "len" = none) (gAl : mg "all" = none) : FnOk P w K mg base CX0 1 f fd ["value"] (spLet K) := by
  refine F.ok sc36 (fun vs H Q E h => ?_) (fun cdv A outer s H vs Q E hr h => ?_)
  · obtain ⟨v, d, rfl, _⟩ := h
    rfl
  · obtain ⟨v, d, rfl, hd, hx, k⟩ := h
    refine ⟨_, pss_cons (ps_set (i := 1) sc36.nd rfl (Or.inr rfl) pe_str) (pss_cons (ps_if (pw_or (pt_not (pt_val (pe_callB call_isi (by rfl) gI PyProof.Rows.boot_isinstance (pa_cons (pv 0) (pa_cons (pe_bltn (v := .ty "str") (by rfl) gS PyProof.Rows.boot_str rfl) pa_nil)))))
        (pw_or (pt_not (pt_chain op_le op_le pe_int (pe_callB call_len_str (by rfl) gL PySem.boot_len (pa_cons (pv 0) pa_nil)) pe_int))
        (pw_or1 (pt_not (pt_val (pe_callB (cr_all rfl) (by rfl) gAl PyProof.Rows.boot_all (pa_cons (pe_lc (own := [("sign", 2)]) (g := gName 2) (tt := tYes) rfl sc36.nd (pi_str (pv 0)) (blkOk_by (N := ["value", "small", "sign"]) (sc := defScope (top 36)) (by decide +kernel))
          (fun _ _ _ _ _ => pg_name (i := 2) sc36.nd rfl (Or.inl rfl)) (fun _ _ _ _ _ => pts_nil) (fun _ _ _ _ _ => pe_cmpR op_in_sign (pv 2) (pv 1) (by rfl))) pa_nil))))))).pt (pss_one (ps_ret pe_bl)) pss_nil)
      (pss_one (ps_ret (pe_callB (cr_all rfl) (by rfl) gAl PyProof.Rows.boot_all (pa_cons (pe_lc (own := [("sign", 2)]) (g := gName 2) (tt := tYes) (te := tOp rEq (tBM K "str" rCount (tVar 0) (tCons (tVar 2) tNil)) (tC (.int 1))) rfl sc36.nd (pi_str (pv 0)) (blkOk_by (N := ["value", "small", "sign"]) (sc := defScope (top 36)) (by decide +kernel))
          (fun _ _ _ _ _ => pg_name (i := 2) sc36.nd rfl (Or.inl rfl)) (fun _ _ _ _ _ => pts_nil) (fun _ _ _ _ _ => pe_cmpR op_eq (pe_bm PySem.F.plainAttrs_str PySem.F.slot_str_count PySem.F.type_str_count mt_count (pv 0) (pa_cons (pv 2) pa_nil)) pe_int (nomark _))) pa_nil))))), ?_⟩
    obtain ⟨T, tx, k1, _⟩ := ty_of hd
    refine ⟨v, rfl, v, .ty "str", .type T, .type "str", isS d, rfl, .ty _, tx, kit_ty k1, _, rfl, ?_⟩
    cases d with
    | str x =>
      cases hd
      obtain ⟨hasc, hz⟩ := hx x rfl
      have hzs : x.length ≤ sizeLine := Nat.le_trans hz (by decide)
      have el : x.length = x.cps.size := rfl
      refine iteF ⟨V.str x, rfl, x, rfl, hzs, 2, (x.length : Int), rfl, rfl, _, rfl, ?_⟩
      have fin : ∀ H', Same H H' → okLb x = false → Q (.bl false) H' := fun H' sm e => by
        have z := k H' sm
        simp only [okLd, e] at z
        exact z
      refine ite2 (fun c1 => ?_) (fun c1 => ?_)
      · have c1' : 2 ≤ x.cps.size := by
          have z := of_decide_eq_true c1
          omega
        refine ⟨(x.length : Int), 26, rfl, rfl, _, rfl, ?_⟩
        by_cases c2 : x.cps.size ≤ 26
        · rw [decide_eq_true (show (x.length : Int) ≤ 26 by omega)]
          refine iteF ?_
          show tCB (rAll K) (tCons (tLc (iStr (tVar 0)) (gName 2) tYes (tOp _ (tVar 2) (tVar 1)) [2]) tNil) _ H _
          refine rd_all_text (fun c => decide (c ∈ alpha.cps.toList)) hz (fun R h => ⟨_, rfl, h⟩) (fun _ => rfl) (fun c H1 R h => ⟨_, rfl, _, rfl, c, alpha, rfl, rfl, h⟩) fun H1 sm => ⟨_, rfl, ?_⟩
          cases c3 : x.cps.toList.all fun c => decide (c ∈ alpha.cps.toList) with
          | false => exact iteT (fin H1 sm (by simp only [okLb, c3, Bool.and_false]))
          | true =>
            refine iteF ?_
            show tCB (rAll K) (tCons (tLc (iStr (tVar 0)) (gName 2) tYes (tOp rEq (tBM K "str" rCount (tVar 0) (tCons (tVar 2) tNil)) (tC (.int 1))) [2]) tNil) _ H1 _
            refine rd_all_text (fun c => decide (V.int (Txt.count x ⟨#[c]⟩) = V.int 1)) hz (fun R h => ⟨_, rfl, h⟩) (fun _ => rfl) (fun c H2 R h => ⟨V.str x, rfl, rfl, _, rfl, x, ⟨#[c]⟩, rfl, rfl, rfl, h⟩) fun H2 sm2 => ?_
            rw [all_once]
            have z := k H2 (sm.trans sm2)
            simp only [okLd, okLb, decide_eq_true c1', decide_eq_true c2, c3, Bool.true_and, Bool.and_true] at z
            exact z
        · rw [decide_eq_false (show ¬ (x.length : Int) ≤ 26 by omega)]
          refine iteT (iteT (fin H (Same.refl H) ?_))
          unfold okLb
          rw [decide_eq_false c2]
          simp
      · refine ⟨_, rfl, iteT (iteT (fin H (Same.refl H) ?_))⟩
        have c1' : ¬ 2 ≤ x.cps.size := fun z => c1 (decide_eq_true (by omega))
        unfold okLb
        rw [decide_eq_false c1']
        simp
    | _ => exact iteT (iteT (k H (Same.refl H)))
end
end SK
namespace SK
open PySem PySem.Spec PyProof.Rows L2 LamX NdefX
open K0 (De DeAll XCl spX withX)
/-! ### sorted of data, any length -/
def rSortE {β : Type} (K : PySem.W.Frag) (ad : β → Addr) (enc : β → PyData) : List V → Hp → VK → Prop := fun xs H Q => ∃ (a : Addr) (bs : List β), xs = [.ref a] ∧ SqL K H a (bs.map fun b => V.ref (ad b)) ∧ (∀ b ∈ bs, De K H (.ref (ad b)) (enc b)) ∧ PySem.W.AllAlike (bs.map enc) ∧ PySem.W.Sortable (bs.map enc) ∧ (∀ b ∈ bs, (enc b).depth ≤ 8) ∧
  ∀ p, H p = none → Q (.ref p) (upd H p (.lst ((bs.mergeSort (PySem.W.dataLe false enc)).map fun b => V.ref (ad b))))
theorem each_of {β : Type} {ad : β → Addr} : ∀ {us : List Value} {bs : List β}, Vals (bs.map fun b => V.ref (ad b)) us → PySem.W.EachIs (fun v b => v = Value.ref (ad b)) us bs
  | [], [], _ => .nil
  | _ :: _, [], h => by cases h
  | [], _ :: _, h => by cases h
  | u :: us, b :: bs, h => by
    cases h with
    | cons h1 h2 => exact .cons h1 (each_of h2)
theorem each_to {β : Type} {ad : β → Addr} : ∀ {us : List Value} {bs : List β}, PySem.W.EachIs (fun v b => v = Value.ref (ad b)) us bs → Vals (bs.map fun b => V.ref (ad b)) us
  | _, _, .nil => .nil
  | _, _, .cons h1 h2 => .cons h1 (each_to h2)
theorem cr_sortE {X : Cx} {β : Type} {ad : β → Addr} {enc : β → PyData} (hu : X.A.units + 64 < cLine) (hsys : ∃ o, X.K.lookup sysModules = some o) : CallR X (.builtin "sorted") (rSortE X.K ad enc) := by
  intro pins s σ H xs us Q I r h
  obtain ⟨a, bs, rfl, hS, hd, hal, hk, hdp, q⟩ := h
  obtain ⟨u, rfl, ru⟩ := vals1 r
  obtain rfl : u = Value.ref a := ru
  obtain ⟨oS, hoS⟩ := hsys
  have hs : H sysModules = none := (I.bs _ _ (I.ok.mod.kin _ _ hoS)).2
  obtain ⟨its, rv, hl, hz⟩ := I.list hS
  rw [List.length_map] at hz
  have e := each_of rv
  have er : PySem.W.EachIs (fun v b => ∃ as, Reads s.heap v (enc b) as) its bs := by
    have z : ∀ {us : List Value} {cs : List β}, PySem.W.EachIs (fun v b => v = Value.ref (ad b)) us cs → (∀ b ∈ cs, De X.K H (.ref (ad b)) (enc b)) → PySem.W.EachIs (fun v b => ∃ as, Reads s.heap v (enc b) as) us cs := fun {us cs} ee => by
      induction ee with
      | nil => exact fun _ => .nil
      | cons h1 h2 ih =>
        intro hh
        obtain ⟨as, hr, _⟩ := K0.de_reads I hs _ _ _ (hh _ (by simp)) (show RelV (V.ref (ad _)) _ from h1)
        exact .cons ⟨as, hr⟩ (ih fun b hb => hh b (List.mem_cons_of_mem _ hb))
    exact z e hd
  refine PySem.W.sorted_data (R := fun v b => v = Value.ref (ad b)) hl.isList e er hal hk hz (fun b hb => by have := hdp b hb; omega) fun out ho eo => ?_
  obtain ⟨ep, he'⟩ := PyProof.Rows.sortedAll_at s.heap its out.toArray
  have hlen : ((bs.mergeSort (PySem.W.dataLe false enc)).map fun b => V.ref (ad b)).length ≤ sizeLine := by
    rw [List.length_map, List.length_mergeSort]
    exact hz
  exact ⟨.ref _, upd H (s.heap.objs.size + 1) (.lst ((bs.mergeSort (PySem.W.dataLe false enc)).map fun b => V.ref (ad b))), I.laid (t' := s.toks) (fun _ _ => PyProof.Rows.sortedAll_old) (Nat.le_succ _) ⟨hlen, _, ep, each_to eo, he'⟩, rfl, q _ (I.hok.fresh (Nat.le_succ _))⟩
/-! ### the two orders are one -/
def ranks (ls w : Str) : List Int := w.cps.toList.map fun c => (rankOf ls c : Nat)
def encW (ls w : Str) : PyData := .tuple [.list ((ranks ls w).map PyData.int), .str w]
theorem lt_map (f : Nat → Int) (g : Nat → Nat) (hfg : ∀ a b, f a < f b ↔ g a < g b) (he : ∀ a b, f a = f b ↔ g a = g b) : ∀ x y : List Nat, x.map f < y.map f ↔ x.map g < y.map g
  | [], [] => by simp
  | [], _ :: _ => by simp
  | _ :: _, [] => by simp
  | a :: x, b :: y => by
    rw [List.map_cons, List.map_cons, List.map_cons, List.map_cons, List.cons_lt_cons_iff, List.cons_lt_cons_iff, hfg a b, he a b, lt_map f g hfg he x y]
theorem eqv_ints : ∀ xs ys : List Int, PyData.eqvAll (xs.map PyData.int) (ys.map PyData.int) = decide (xs = ys)
  | [], [] => by simp [PyData.eqvAll]
  | [], _ :: _ => by simp [PyData.eqvAll]
  | _ :: _, [] => by simp [PyData.eqvAll]
  | x :: xs, y :: ys => by
    simp only [List.map_cons, PyData.eqvAll, PyData.eqv, eqv_ints xs ys]
    by_cases h : x = y <;> by_cases h2 : xs = ys <;> simp [h, h2]
theorem ranks_inj {ls : Str} : ∀ x y : List Nat, (∀ c ∈ x, c ∈ ls.cps.toList) → (∀ c ∈ y, c ∈ ls.cps.toList) → (x.map fun c => ((rankOf ls c : Nat) : Int)) = (y.map fun c => ((rankOf ls c : Nat) : Int)) → x = y
  | [], [], _, _, _ => rfl
  | [], _ :: _, _, _, h => by simp at h
  | _ :: _, [], _, _, h => by simp at h
  | a :: x, b :: y, hx, hy, h => by
    rw [List.map_cons, List.map_cons] at h
    injection h with h1 h2
    have e1 : rankOf ls a = rankOf ls b := by omega
    have ha : ls.cps.toList.idxOf a < ls.cps.toList.length := List.idxOf_lt_length_of_mem (hx a (by simp))
    have hb : ls.cps.toList.idxOf b < ls.cps.toList.length := List.idxOf_lt_length_of_mem (hy b (by simp))
    have e2 : a = b := by
      have z1 : ls.cps.toList[ls.cps.toList.idxOf a] = a := List.getElem_idxOf ha
      have z2 : ls.cps.toList[ls.cps.toList.idxOf b] = b := List.getElem_idxOf hb
      unfold rankOf at e1
      rw [← z1, ← z2]
      simp only [e1]
    rw [e2, ranks_inj x y (fun c hc => hx c (List.mem_cons_of_mem _ hc)) (fun c hc => hy c (List.mem_cons_of_mem _ hc)) h2]
theorem lt_same {ls x y : Str} (hx : OverL ls x) (hy : OverL ls y) : PySem.W.dataLt (encW ls x) (encW ls y) = PySem.W.dataLt (.str (keyW ls x)) (.str (keyW ls y)) := by
  unfold encW
  rw [PySem.W.dataLt_pair (by simp [PySem.W.alike, PySem.W.alike_ints]) (by simp [PySem.W.alike])]
  have ek2 : PySem.W.dataLt (.str (keyW ls x)) (.str (keyW ls y)) = decide ((keyW ls x).cps.toList < (keyW ls y).cps.toList) := PySem.W.dataLt_str _ _
  have ek : (keyW ls x).cps.toList < (keyW ls y).cps.toList ↔ ranks ls x < ranks ls y := by
    unfold keyW ranks
    rw [List.toList_toArray, List.toList_toArray]
    exact (lt_map (fun c => ((rankOf ls c : Nat) : Int)) (fun c => 97 + rankOf ls c) (fun a b => by omega) (fun a b => by omega) _ _).symm
  have el : PySem.W.dataLt (.list ((ranks ls x).map PyData.int)) (.list ((ranks ls y).map PyData.int)) = decide (ranks ls x < ranks ls y) := by
    rw [PySem.W.dataLt_list]
    exact PySem.W.dataLt_ints _ _
  have ee : PyData.eqv (.list ((ranks ls x).map PyData.int)) (.list ((ranks ls y).map PyData.int)) = decide (ranks ls x = ranks ls y) := by
    simp only [PyData.eqv]
    exact eqv_ints _ _
  rw [ee, el]
  by_cases h : ranks ls x = ranks ls y
  · have hxy : x = y := by
      have z := ranks_inj _ _ hx.2 hy.2 h
      obtain ⟨a⟩ := x
      obtain ⟨b⟩ := y
      have z : a = b := by simpa using z
      rw [z]
    subst hxy
    rw [if_pos (by simp)]
    have e1 : PyData.eqv (.str x) (.str x) = true := by simp [PyData.eqv]
    rw [if_pos e1]
    have irr : ¬ ((keyW ls x).cps.toList < (keyW ls x).cps.toList) := List.lt_irrefl _
    rw [ek2]
    exact (decide_eq_false irr).symm
  · rw [if_neg (by simp [h]), ek2]
    exact decide_eq_decide.mpr ek.symm
theorem sort_same {ls : Str} {ws : List Str} (h : ∀ y ∈ ws, OverL ls y) : ws.mergeSort (PySem.W.dataLe false (encW ls)) = sortW ls ws := by
  have z := List.map_mergeSort (r := PySem.W.dataLe false (encW ls)) (s := PySem.W.dataLe false fun x => .str (keyW ls x)) (f := id) (l := ws) (fun a ha b hb => by
    rw [PySem.W.dataLe_eq, PySem.W.dataLe_eq]
    show (!PySem.W.dataLt (encW ls b) (encW ls a)) = !PySem.W.dataLt (.str (keyW ls b)) (.str (keyW ls a))
    rw [lt_same (h b hb) (h a ha)])
  unfold sortW
  simpa using z
theorem before_idx (c : Nat) : ∀ (l : List Nat) (i : Nat), i < l.idxOf c → l[i]? ≠ some c
  | [], i, _ => by simp
  | a :: l, 0, h => by
    rw [List.idxOf_cons] at h
    intro z
    simp at z
    subst z
    simp at h
  | a :: l, i + 1, h => by
    rw [List.idxOf_cons] at h
    by_cases e : a = c
    · subst e
      simp at h
    · have e2 : (a == c) = false := by simpa using e
      rw [e2] at h
      simp only [cond_false] at h
      rw [List.getElem?_cons_succ]
      exact before_idx c l i (by omega)
theorem index_of {ls : Str} {c : Nat} (h : c ∈ ls.cps.toList) : ∃ r, Builtin.Str.occurrences ls ⟨#[c]⟩ 0 ls.length 1 = rankOf ls c :: r := by
  have hlt : ls.cps.toList.idxOf c < ls.cps.toList.length := List.idxOf_lt_length_of_mem h
  have hat : StrLaws.At ls ⟨#[c]⟩ ls.length (rankOf ls c) := (StrLaws.subAt_one ls c _).mpr (by
    unfold rankOf
    rw [List.getElem?_eq_getElem hlt, List.getElem_idxOf])
  rcases StrLaws.occ_head ls ⟨#[c]⟩ 1 (Nat.le_refl 1) with ⟨_, hn⟩ | ⟨i, r, e, hi, hn⟩
  · exact absurd hat (hn _)
  · have hi' : ls.cps.toList[i]? = some c := (StrLaws.subAt_one ls c i).mp hi
    have e1 : i = rankOf ls c := by
      rcases Nat.lt_trichotomy i (rankOf ls c) with z | z | z
      · exact absurd hi' (before_idx c _ i z)
      · exact z
      · exact absurd hat (hn _ z)
    exact ⟨r, by rw [e, e1]⟩
end SK
namespace SK
open PySem PySem.Spec PyProof.Rows L2 LamX NdefX
open K0 (De DeAll XCl spX withX)
/-! ### the law's own order -/
def asE : Stmt → Expr
  | .Assign _ e _ => e
  | _ => .Name "" ⟨0, 0, 0, 0⟩
def argE : Expr → Expr
  | .Call _ (a :: _) _ _ => a
  | e => e
def lcSc : Expr → Scope
  | .ListComp _ _ s _ => s
  | _ => { kind := .function, names := [], isGenerator := false, isCoroutine := false, more := [] }
def rSIdx : V → List V → Hp → VK → Prop := fun x xs H Q => ∃ a b i rest, x = .str a ∧ xs = [.str b] ∧ Builtin.Str.occurrences a b 0 a.length 1 = i :: rest ∧ Q (.int (i : Nat)) H
def teI (K : PySem.W.Frag) : TE := tBM K "str" rSIdx (tVar 0) (tCons (tVar 4) tNil)
def teW (K : PySem.W.Frag) : TE := tTup (tCons (tLc (iStr (tVar 3)) (gName 4) tYes (teI K) [4]) (tCons (tVar 3) tNil))
def spOrdL (K : PySem.W.Frag) : Sp := fun vs H Q _ => ∃ (ls : Str) (a : Addr) (ws : List Str), vs = [.str ls, .ref a] ∧ SqL K H a (ws.map V.str) ∧ (∀ y ∈ ws, OverL ls y) ∧ ws.length ≤ 5000 ∧
  ∀ (H' : Hp) (p : Addr), Same H H' → H p = none → H' p = some (.lst ((sortW ls ws).map V.str)) → Q (.ref p) H'
/-- the tuple at b.1 is that of the word b.2 -/
def TupW (ls : Str) (D : Addr) (H : Hp) (b : Addr × Str) : Prop := ∃ l : Addr, H b.1 = some (.tup [.ref l, .str b.2]) ∧ H l = some (.lst ((ranks ls b.2).map V.int)) ∧ b.1 ≠ D ∧ l ≠ D
theorem TupW.mono {ls : Str} {D : Addr} {H H' : Hp} {b : Addr × Str} (t : TupW ls D H b) (s : ∀ c o, c ≠ D → H c = some o → H' c = some o) : TupW ls D H' b := by
  obtain ⟨l, h1, h2, n1, n2⟩ := t
  exact ⟨l, s _ _ n1 h1, s _ _ n2 h2, n1, n2⟩
theorem de_ints {K : PySem.W.Frag} {H : Hp} : ∀ ns : List Int, DeAll K H (ns.map V.int) (ns.map PyData.int)
  | [] => .nil
  | n :: r => .cons (.int n) (de_ints r)
theorem TupW.de {K : PySem.W.Frag} {ls : Str} {D : Addr} {H : Hp} {b : Addr × Str} (t : TupW ls D H b) : De K H (.ref b.1) (encW ls b.2) := by
  obtain ⟨l, h1, h2, _, _⟩ := t
  exact .tup h1 (.cons (.lst h2 (de_ints _)) (.cons (.str _) .nil))
def relabelS (scope sc : Scope) : Scope :=
  { scope with names := scope.names.map fun (n, k) => if (k == .free && sc.kind == .function && sc.names.lookup n == some .cell) then (n, .cell) else (n, k) }
theorem blkOk_in {N : List Str} {env : Env} {sc lc scope : Scope} {own : List (Str × Nat)} (hs : env.scope = sc) (h : blkC N (relabelS lc sc) scope own = true) : BlkOk N (relabel lc env) scope own := by
  subst hs
  exact blkOk_by h
theorem depth_ints : ∀ ns : List Int, PyData.depthAll (ns.map PyData.int) = 0
  | [] => rfl
  | n :: r => by
    rw [List.map_cons]
    simp [PyData.depthAll, PyData.depth, depth_ints r]
theorem depth_encW (ls w : Str) : (encW ls w).depth ≤ 8 := by
  unfold encW
  simp [PyData.depth, PyData.depthAll, depth_ints]
theorem alike_encW {ls x y : Str} : PySem.W.alike (encW ls x) (encW ls y) = true := by
  simp [encW, PySem.W.alike, PySem.W.alikeAll, PySem.W.alike_ints]
section
variable {P : Program} {w : World} {K : PySem.W.Frag} {mg : Str → Option Value} {base : Heap} {f : Addr} {fd : FuncData}
theorem sc32 : FnScope ["letters", "words", "rows", "word", "letter", "row"] ["letters", "words"] (defScope (top 32)) := ⟨rfl, rfl, rfl, by decide +kernel, rfl, by decide +kernel, by decide +kernel⟩
theorem ok_ordL (F : Fun K "_law_in_order" "_law_in_order" (top 32) f fd) (gS : mg "sorted" = none) (hsys : ∃ o, K.lookup sysModules = some o) : FnOk P w K mg base CX0 1 f fd ["letters", "words"] (spOrdL K) := by
  refine F.ok sc32 (fun vs H Q E h => ?_) (fun cdv A outer s H vs Q E hr h => ?_)
  · obtain ⟨ls, a, ws, rfl, _⟩ := h
    rfl
  · obtain ⟨ls, a, ws, rfl, hS, hW, hz, k⟩ := h
    have hu64 := hr.units
    refine ⟨_, pss_cons (ps_set (i := 2) sc32.nd rfl (Or.inl rfl) (pe_callB (r := rSortE K Prod.fst fun b : Addr × Str => encW ls b.2) (cr_sortE hu64 hsys) (by rfl) gS PyProof.Rows.boot_sorted (pa_cons
        (pe_lc (own := [("word", 3)]) (g := gName 3) (tt := tYes) (te := teW K) rfl sc32.nd (pi_list (pv 1)) (blkOk_by (N := ["letters", "words", "rows", "word", "letter", "row"]) (sc := defScope (top 32)) (by decide +kernel))
          (fun _ _ _ _ _ => pg_name (i := 3) sc32.nd rfl (Or.inl rfl)) (fun _ _ _ _ _ => pts_nil)
          (fun _ _ _ _ _ => pe_tup (pa_cons (pe_lc (own := [("letter", 4)]) (g := gName 4) (tt := tYes) (te := teI K) rfl sc32.nd (pi_str (pv 3)) (blkOk_in (N := ["letters", "words", "rows", "word", "letter", "row"]) (sc := defScope (top 32)) (lc := lcSc (argE (asE ((defBody (top 32)).getD 0 (.Pass ⟨0, 0, 0, 0⟩))))) rfl (by decide +kernel))
            (fun _ _ _ _ _ => pg_name (i := 4) sc32.nd rfl (Or.inl rfl)) (fun _ _ _ _ _ => pts_nil)
            (fun _ _ _ _ _ => pe_bm PySem.F.plainAttrs_str PySem.F.slot_str_index PySem.F.type_str_index mt_sindex (pv 0) (pa_cons (pv 4) pa_nil))) (pa_cons (pv 3) pa_nil)))) pa_nil)))
      (pss_one (ps_ret (pe_lc (own := [("row", 5)]) (g := gName 5) (tt := tYes) (te := tOp (rIxT K) (tVar 5) (tC (.int 1))) rfl sc32.nd (pi_list (pv 2)) (blkOk_by (N := ["letters", "words", "rows", "word", "letter", "row"]) (sc := defScope (top 32)) (by decide +kernel))
          (fun _ _ _ _ _ => pg_name (i := 5) sc32.nd rfl (Or.inl rfl)) (fun _ _ _ _ _ => pts_nil) (fun _ _ _ _ _ => pe_ix ix_tup (pv 5) pe_int (fun _ _ => rfl))))), ?_⟩
    refine ⟨V.ref a, rfl, a, rfl, ⟨_, hS⟩, fun D nD => lc_list (K := K) (a := a) (xs := ws.map V.str) (fun i H1 => Same H H1 ∧ ∃ bs : List (Addr × Str), bs.map Prod.snd = ws.take i ∧ H1 D = some (.lst (bs.map fun b => V.ref b.1)) ∧ ∀ b ∈ bs, TupW ls D H1 b)
      ⟨upd_new nD, [], rfl, upd_same, fun b hb => absurd hb (by simp)⟩ (fun i H1 _ p => p.1.seq hS) ?_ ?_⟩
    · rintro i x H1 hi ⟨s1, bs, e1, d1, t1⟩
      obtain ⟨w, hw, rfl⟩ : ∃ w, ws[i]? = some w ∧ V.str w = x := by
        rw [List.getElem?_map] at hi
        cases q : ws[i]? with
        | none =>
          rw [q] at hi
          cases hi
        | some w =>
          rw [q] at hi
          exact ⟨w, rfl, Option.some.inj hi⟩
      have hlt : i < ws.length := by
        have z := List.getElem?_eq_some_iff.mp hw
        exact z.1
      obtain ⟨hw1, hw2⟩ := hW w (List.mem_of_getElem? hw)
      refine ⟨rfl, V.str w, rfl, w, rfl, fun D2 nD2 => lc_it walk_str (fun j H' => Same H1 H' ∧ H' D2 = some (.lst ((w.cps.toList.take j).map fun c => V.int (rankOf ls c : Nat)))) ⟨upd_new nD2, upd_same⟩ (fun _ _ _ _ => trivial) ?_ ?_⟩
      · rintro j y H4 H5 hj ⟨s4, h4⟩ ⟨rfl, cc, hcc, rfl⟩
        have z : w.cps.toList[j]? = some cc := by simpa using hcc
        have hm : cc ∈ w.cps.toList := List.mem_of_getElem? z
        have et : w.cps.toList.take (j + 1) = w.cps.toList.take j ++ [cc] := by
          rw [List.take_add_one, z]
          rfl
        obtain ⟨r, er⟩ := index_of (hw2 cc hm)
        refine ⟨rfl, V.str ls, rfl, rfl, V.str ⟨#[cc]⟩, rfl, ls, ⟨#[cc]⟩, _, r, rfl, rfl, er, _, h4, ?_, fun b o e => ?_, ?_⟩
        · rw [List.length_map, List.length_take]
          have z : (200 : Nat) < sizeLine := by decide
          omega
        · rw [upd_ne (ne_of_none e nD2)]
          exact s4 _ _ e
        · rw [et, List.map_append]
          exact upd_same
      · rintro H4 ⟨s4, h4⟩
        have e2 : w.cps.toList.take w.cps.size = w.cps.toList := List.take_of_length_le (by simp)
        rw [e2] at h4
        have e3 : (w.cps.toList.map fun c => V.int (rankOf ls c : Nat)) = (ranks ls w).map V.int := by
          unfold ranks
          rw [List.map_map]
          rfl
        rw [e3] at h4
        refine ⟨V.str w, rfl, (by show 2 ≤ sizeLine; decide), fun q nq => ⟨_, (upd_new nq) _ _ (s4 _ _ d1), ?_, ?_, bs ++ [(q, w)], ?_, ?_, ?_⟩⟩
        · have z : bs.length = i := by
            have z := congrArg List.length e1
            rw [List.length_map, List.length_take] at z
            omega
          rw [List.length_map]
          have z : (5000 : Nat) < sizeLine := by decide
          omega
        · exact fun b o e => by
            rw [upd_ne (ne_of_none e nD)]
            exact upd_new nq _ _ (s4 _ _ (s1 _ _ e))
        · rw [List.map_append, e1, List.take_add_one, hw]
          rfl
        · rw [List.map_append]
          exact upd_same
        · have nqD : q ≠ D := fun z => by
            rw [z, s4 _ _ d1] at nq
            cases nq
          have nDD : D2 ≠ D := fun z => by
            rw [z, d1] at nD2
            cases nD2
          intro b hb
          rcases List.mem_append.mp hb with hb | hb
          · exact (t1 b hb).mono fun c o hc e => by
              rw [upd_ne hc]
              exact upd_new nq _ _ (s4 _ _ e)
          · obtain rfl : b = (q, w) := by simpa using hb
            have nDq : D2 ≠ q := fun z => by
              rw [← z, h4] at nq
              cases nq
            refine ⟨D2, ?_, ?_, nqD, nDD⟩
            · rw [upd_ne nqD]
              exact upd_same
            · rw [upd_ne nDD, upd_ne nDq]
              exact h4
    rintro H1 ⟨s1, bs, e1, d1, t1⟩
    rw [List.length_map, List.take_length] at e1
    have hl : bs.length ≤ 5000 := by
      have z := congrArg List.length e1
      rw [List.length_map] at z
      omega
    refine ⟨D, bs, rfl, .inl (.inl d1), fun b hb => (t1 b hb).de, ?_, .inl ?_, fun b _ => depth_encW ls b.2, fun p np => ?_⟩
    · intro d hd d' hd'
      obtain ⟨b, _, rfl⟩ := List.mem_map.mp hd
      obtain ⟨b', _, rfl⟩ := List.mem_map.mp hd'
      exact alike_encW
    · intro d hd
      obtain ⟨b, _, rfl⟩ := List.mem_map.mp hd
      exact ⟨_, _, rfl⟩
    have ew : (bs.mergeSort (PySem.W.dataLe false fun b => encW ls b.2)).map Prod.snd = sortW ls ws := by
      have z := List.map_mergeSort (r := PySem.W.dataLe false fun b : Addr × Str => encW ls b.2) (s := PySem.W.dataLe false (encW ls)) (f := Prod.snd) (l := bs) (fun a _ b _ => by
        rw [PySem.W.dataLe_eq, PySem.W.dataLe_eq])
      rw [z, e1]
      exact sort_same hW
    have em : ∀ b ∈ bs.mergeSort (PySem.W.dataLe false fun b => encW ls b.2), b ∈ bs := fun b hb => (List.mergeSort_perm _ _).mem_iff.mp hb
    generalize bs.mergeSort (PySem.W.dataLe false fun b => encW ls b.2) = cs at ew em
    have el : cs.length ≤ 5000 := by
      have z := congrArg List.length ew
      rw [List.length_map] at z
      have z2 : (sortW ls ws).length = ws.length := List.length_mergeSort _
      omega
    have h2 : (upd H1 p (.lst (cs.map fun b => V.ref b.1))) p = some (.lst (cs.map fun b => V.ref b.1)) := upd_same
    have s2 : Same H1 (upd H1 p (.lst (cs.map fun b => V.ref b.1))) := upd_new np
    generalize upd H1 p (.lst (cs.map fun b => V.ref b.1)) = H2 at h2 s2
    refine ⟨V.ref p, rfl, p, rfl, ⟨_, .inl (.inl h2)⟩, fun D3 nD3 => lc_list (K := K) (a := p) (xs := cs.map fun b => V.ref b.1) (fun i H3 => Same H2 H3 ∧ H3 D3 = some (.lst ((cs.take i).map fun b => V.str b.2)))
      ⟨upd_new nD3, upd_same⟩ (fun i H3 _ q => .inl (.inl (q.1 _ _ h2))) ?_ ?_⟩
    · rintro i x H3 hi ⟨s3, d3⟩
      obtain ⟨b, hb, rfl⟩ : ∃ b, cs[i]? = some b ∧ V.ref b.1 = x := by
        rw [List.getElem?_map] at hi
        cases q : cs[i]? with
        | none =>
          rw [q] at hi
          cases hi
        | some b =>
          rw [q] at hi
          exact ⟨b, rfl, Option.some.inj hi⟩
      have hlt : i < cs.length := (List.getElem?_eq_some_iff.mp hb).1
      obtain ⟨l, t, _⟩ := t1 b (em b (List.mem_of_getElem? hb))
      refine ⟨rfl, V.ref b.1, rfl, b.1, _, 1, V.str b.2, rfl, rfl, .inl (.inl (s3 _ _ (s2 _ _ t))), rfl, _, d3, ?_, fun c o e => ?_, ?_⟩
      · rw [List.length_map, List.length_take]
        have z : (5000 : Nat) < sizeLine := by decide
        omega
      · rw [upd_ne (ne_of_none e nD3)]
        exact s3 _ _ e
      · rw [List.take_add_one, hb, List.map_append]
        exact upd_same
    · rintro H3 ⟨s3, d3⟩
      rw [List.length_map, List.take_length] at d3
      have e4 : (cs.map fun b => V.str b.2) = (sortW ls ws).map V.str := by
        rw [← ew, List.map_map]
        rfl
      rw [e4] at d3
      have nH : H D3 = none := by
        cases q : H D3 with
        | none => rfl
        | some o =>
          rw [s2 _ _ (s1 _ _ q)] at nD3
          cases nD3
      exact k H3 D3 ((s1.trans s2).trans s3) nH d3
end
end SK
namespace SK
open PySem PySem.Spec PyProof.Rows L2 LamX NdefX
open K0 (De DeAll XCl spX withX)
/-! ### the pen -/
def pen (l : Addr) (k lf : Int) : List (Key × V) := [(Sum.inr "cells", V.ref l), (Sum.inr "next", V.int k), (Sum.inr "left", V.int lf)]
theorem pen_cells (l : Addr) (k lf : Int) : valV (pen l k lf) (Sum.inr "cells") = some (.ref l) := by kernel_rfl
theorem pen_next (l : Addr) (k lf : Int) : valV (pen l k lf) (Sum.inr "next") = some (.int k) := by kernel_rfl
theorem pen_left (l : Addr) (k lf : Int) : valV (pen l k lf) (Sum.inr "left") = some (.int lf) := by kernel_rfl
theorem pen_put_next (l : Addr) (k lf j : Int) : putK (pen l k lf) (Sum.inr "next") (.int j) = pen l j lf := by kernel_rfl
theorem pen_put_left (l : Addr) (k lf j : Int) : putK (pen l k lf) (Sum.inr "left") (.int j) = pen l k j := by kernel_rfl
theorem pen_merge (l : Addr) (k lf : Int) : mergeK [] (pen l k lf) = pen l k lf := by kernel_rfl
structure PenAt (H : Hp) (p l : Addr) (ns : List Int) (k lf : Int) : Prop where
  dc : H p = some (.dK (pen l k lf))
  ls : H l = some (.lst (ns.map V.int))
/-- all but p is as it was -/
def SameBut (p : Addr) (H H' : Hp) : Prop := ∀ b o, b ≠ p → H b = some o → H' b = some o
theorem SameBut.trans {p : Addr} {H H1 H2 : Hp} (a : SameBut p H H1) (b : SameBut p H1 H2) : SameBut p H H2 := fun c o n h => b c o n (a c o n h)
theorem SameBut.of {p : Addr} {H H' : Hp} (a : Same H H') : SameBut p H H' := fun c o _ h => a c o h
theorem cut63 {ns : List Int} (h : ns.length ≤ 63) : cutV (ns.map V.int) none (some 63) = ns.map V.int := by
  unfold cutV
  rw [HT.sIx_none, show ((63 : Int)) = ((63 : Nat) : Int) from rfl, HT.sIx_nat, List.drop_zero, List.length_map, Nat.min_eq_right h, Nat.sub_zero, List.take_of_length_le (by rw [List.length_map]; exact Nat.le_refl _)]
def spPen (K : PySem.W.Frag) : Sp := fun vs H Q _ => ∃ (a : Addr) (ns : List Int), vs = [.ref a] ∧ SqL K H a (ns.map V.int) ∧ ns.length ≤ 63 ∧ ∀ (H' : Hp) (p l : Addr), Same H H' → PenAt H' p l ns 0 0 → Q (.ref p) H'
section
variable {P : Program} {w : World} {K : PySem.W.Frag} {mg : Str → Option Value} {base : Heap} {f : Addr} {fd : FuncData}
theorem scPen : FnScope ["script"] ["script"] (defScope (top 26)) := ⟨rfl, rfl, rfl, by decide +kernel, rfl, by decide +kernel, by decide +kernel⟩
theorem ok_pen (F : Fun K "_law_pen_of" "_law_pen_of" (top 26) f fd) (gL : mg "list" = none) : FnOk P w K mg base CX0 1 f fd ["script"] (spPen K) := by
  refine F.ok scPen (fun vs H Q E h => ?_) (fun cdv A outer s H vs Q E hr h => ?_)
  · obtain ⟨a, ns, rfl, _⟩ := h
    rfl
  · obtain ⟨a, ns, rfl, hS, hn, k⟩ := h
    refine ⟨_, pss_one (ps_ret (pe_disp (pps_cons pe_str (pe_callTy call_list_of (by rfl) gL PyProof.Rows.boot_list (pa_cons (pe_slice sl_list (pv 0) po_none (po_some pe_int)) pa_nil)) (pps_cons pe_str pe_int (pps_cons pe_str pe_int pps_nil))) rfl rfl (by simp) (by decide))), ?_⟩
    intro p hp
    refine ⟨_, rfl, 63, rfl, a, ns.map V.int, rfl, ?_, fun q hq => ?_⟩
    · exact Same.seq (fun b o e => by rw [upd_ne (ne_of_none e hp)]; exact e) hS
    rw [cut63 hn]
    refine ⟨q, ns.map V.int, rfl, .inl (.inl (.inl upd_same)), fun l hl => ?_⟩
    have npq : p ≠ q := ne_of_none (H := upd H p (.dK [])) upd_same hq
    have npl : p ≠ l := ne_of_none (H := upd (upd H p (.dK [])) q (.lst (ns.map V.int))) (by rw [upd_ne npq, upd_same]) hl
    refine ⟨by rw [upd_ne npl, upd_ne npq, upd_same], pen l 0 0, rfl, (by show 3 ≤ 15; decide), ?_⟩
    rw [pen_merge]
    refine k _ p l (fun b o e => ?_) ⟨upd_same, ?_⟩
    · have n1 : b ≠ p := ne_of_none e hp
      have e1 : upd H p (.dK []) b = some o := by rw [upd_ne n1]; exact e
      have n2 : b ≠ q := ne_of_none e1 hq
      have e2 : upd (upd H p (.dK [])) q (.lst (ns.map V.int)) b = some o := by rw [upd_ne n2]; exact e1
      have n3 : b ≠ l := ne_of_none e2 hl
      rw [upd_ne n1, upd_ne n3]
      exact e2
    · rw [upd_ne npl.symm, upd_same]
theorem upd_but {p : Addr} {o : HO} (H : Hp) : SameBut p H (upd H p o) := fun c u n h => by
  rw [upd_ne n]
  exact h
/-- the draw: a number below the base; the pen's numbers may change -/
def spDraw : Sp := fun vs H Q _ => ∃ (p l : Addr) (ns : List Int) (k lf b : Int), vs = [.ref p, .int b] ∧ PenAt H p l ns k lf ∧ ns.length ≤ 63 ∧ 0 ≤ k ∧ k ≤ 100000 ∧ 0 ≤ lf ∧ 0 < b ∧ b ≤ 1000 ∧
  ∀ (H' : Hp) (k' lf' d : Int), k' ≤ k + 1 → 0 ≤ k' → 0 ≤ lf' → 0 ≤ d → d < b → SameBut p H H' → PenAt H' p l ns k' lf' → Q (.int d) H'
theorem scD : FnScope ["pen", "many", "digit", "index", "size", "cell", "mixed"] ["pen", "many"] (defScope (top 27)) := ⟨rfl, rfl, rfl, by decide +kernel, rfl, by decide +kernel, by decide +kernel⟩
theorem ok_draw (F : Fun K "_law_draw" "_law_draw" (top 27) f fd) (gI : mg "int" = none) (gN : mg "len" = none) (gA : mg "abs" = none) : FnOk P w K mg base CX0 1 f fd ["pen", "many"] spDraw := by
  refine F.ok scD (fun vs H Q E h => ?_) (fun cdv A outer s H vs Q E hr h => ?_)
  · obtain ⟨p, l, ns, k, lf, b, rfl, _⟩ := h
    rfl
  · obtain ⟨p, l, ns, k, lf, b, rfl, ⟨hd, hl⟩, hn, hk0, hk1, hf, hb0, hb1, kk⟩ := h
    have hu := hu_of hr
    have hu64 := hr.units
    refine ⟨_, pss_cons (ps_if (pt_cmpR op_gt (pe_dget hu (pv 0) pe_str (fun _ _ => rfl)) pe_int (nomark _)) (pss_cons (ps_set (i := 2) scD.nd rfl (Or.inl rfl) (pe_op op_mod (pe_callTy call_int1 (by rfl) gI PyProof.Rows.boot_int (pa_cons (pe_dget hu (pv 0) pe_str (fun _ _ => rfl)) pa_nil)) (pv 1))) (pss_cons (ps_dput hu (pv 0) pe_str (pe_op op_fdiv (pe_dget hu (pv 0) pe_str (fun _ _ => rfl)) (pv 1)) rfl) (pss_one (ps_ret (pv 2))))) pss_nil)
      (pss_cons (ps_par (i := 3) (j := 4) rfl scD.nd rfl rfl (by decide) rfl rfl (pa_cons (pe_dget hu (pv 0) pe_str (fun _ _ => rfl)) (pa_cons (pe_callB call_len_seq (by rfl) gN PySem.boot_len (pa_cons (pe_dget hu (pv 0) pe_str (fun _ _ => rfl)) pa_nil)) pa_nil)) rfl)
      (pss_cons (ps_dput hu (pv 0) pe_str (pe_op op_add (pv 3) pe_int) rfl)
      (pss_cons (ps_if (pt_cmpR op_eq (pv 4) pe_int (nomark _)) (pss_one (ps_ret (pe_op op_mod (pe_callTy call_int1 (by rfl) gI PyProof.Rows.boot_int (pa_cons (pe_op op_add (pe_op op_mul pe_int (pv 3)) pe_int) pa_nil)) (pv 1)))) pss_nil)
      (pss_cons (ps_set (i := 5) scD.nd rfl (Or.inl rfl) (pe_ix ix_list (pe_dget hu (pv 0) pe_str (fun _ _ => rfl)) (pe_op op_mod (pe_callTy call_int1 (by rfl) gI PyProof.Rows.boot_int (pa_cons (pv 3) pa_nil)) (pv 4)) (fun _ _ => rfl)))
      (pss_cons (ps_if ((pw_and (pt_cmpR op_lt (pv 3) (pv 4) (nomark _)) (pw_and1 (pt_cmpR op_ge (pe_callB call_abs (by rfl) gA PyProof.Rows.boot_abs (pa_cons (pv 5) pa_nil)) (pe_op op_pow pe_int pe_int) (nomark _)))).pt)
        (pss_cons (ps_dput hu (pv 0) pe_str (pe_op op_fdiv (pe_op op_sub (pe_callB call_abs (by rfl) gA PyProof.Rows.boot_abs (pa_cons (pv 5) pa_nil)) (pe_op op_pow pe_int pe_int)) (pv 1)) rfl) (pss_one (ps_ret (pe_op op_mod (pe_callTy call_int1 (by rfl) gI PyProof.Rows.boot_int (pa_cons (pe_op op_sub (pe_callB call_abs (by rfl) gA PyProof.Rows.boot_abs (pa_cons (pv 5) pa_nil)) (pe_op op_pow pe_int pe_int)) pa_nil)) (pv 1))))) pss_nil)
      (pss_cons (ps_set (i := 6) scD.nd rfl (Or.inl rfl) (pe_op op_add (pe_op op_mul (pe_op op_mod (pe_callTy call_int1 (by rfl) gI PyProof.Rows.boot_int (pa_cons (pv 5) pa_nil)) pe_int) pe_int) (pe_op op_mul (pe_op op_mul pe_int (pv 3)) (pv 3))))
      (pss_cons (ps_set (i := 6) scD.nd rfl (Or.inl rfl) (pe_op op_mod (pe_callTy call_int1 (by rfl) gI PyProof.Rows.boot_int (pa_cons (pe_op op_add (pe_op op_add (pv 6) (pe_op op_mul pe_int (pv 3))) pe_int) pa_nil)) pe_int))
      (pss_cons (ps_set (i := 6) scD.nd rfl (Or.inl rfl) (pe_op op_mod (pe_callTy call_int1 (by rfl) gI PyProof.Rows.boot_int (pa_cons (pe_op op_add (pe_op op_add (pe_op op_add (pe_op op_mul (pv 6) (pv 6)) (pe_op op_mul pe_int (pv 6))) (pe_op op_mul pe_int (pv 3))) pe_int) pa_nil)) pe_int))
      (pss_one (ps_ret (pe_op op_mod (pe_callTy call_int1 (by rfl) gI PyProof.Rows.boot_int (pa_cons (pe_op op_fdiv (pe_op op_mod (pe_callTy call_int1 (by rfl) gI PyProof.Rows.boot_int (pa_cons (pe_op op_mul (pv 6) (pe_op op_add (pv 6) pe_int)) pa_nil)) pe_int) pe_int) pa_nil)) (pv 1)))))))))))), ?_⟩
    have npl : p ≠ l := ne_of hd hl (by intro z; cases z)
    have gL : DGet H p (.str "left") (some (.int lf)) := by
      have z := DGet.k (k := Sum.inr "left") hd
      rw [pen_left] at z
      exact z
    have gO : DGet H p (.str "next") (some (.int k)) := by
      have z := DGet.k (k := Sum.inr "next") hd
      rw [pen_next] at z
      exact z
    have gC : DGet H p (.str "cells") (some (.ref l)) := by
      have z := DGet.k (k := Sum.inr "cells") hd
      rw [pen_cells] at z
      exact z
    have hlen : (ns.map V.int).length = ns.length := List.length_map _
    refine ⟨V.ref p, rfl, p, V.int lf, rfl, gL, lf, 0, rfl, rfl, _, rfl, ?_⟩
    refine ite2 (fun c => ?_) (fun c => ?_)
    · have c' : 0 < lf := of_decide_eq_true c
      refine ⟨V.ref p, rfl, p, V.int lf, rfl, gL, .inl ⟨lf, rfl, V.int b, rfl, lf, b, rfl, rfl, hb0, ?_⟩⟩
      refine ⟨V.ref p, rfl, p, V.int lf, rfl, gL, V.int b, rfl, lf, b, rfl, rfl, ⟨hb0, by omega⟩, V.ref p, rfl, p, _, rfl, DPut.k (k := Sum.inr "left") hd (by show 3 < sizeLine; decide), V.int (lf % b), rfl, ?_⟩
      rw [pen_put_left]
      exact kk _ k (lf / b) (lf % b) (by omega) hk0 (Int.ediv_nonneg hf (Int.le_of_lt hb0)) (Int.emod_nonneg _ (by omega)) (Int.emod_lt_of_pos _ hb0) (upd_but H) ⟨upd_same, by rw [upd_ne npl.symm]; exact hl⟩
    · refine ⟨V.ref p, rfl, p, V.int k, rfl, gO, V.ref p, rfl, p, V.ref l, rfl, gC, l, ns.map V.int, rfl, .inl (.inl (.inl hl)), V.int k, V.int (ns.length : Nat), by rw [hlen], ?_⟩
      refine ⟨V.int k, rfl, k, 1, rfl, rfl, V.ref p, rfl, p, _, rfl, DPut.k (k := Sum.inr "next") hd (by show 3 < sizeLine; decide), ?_⟩
      rw [pen_put_next]
      have s1 : SameBut p H (upd H p (.dK (pen l (k + 1) lf))) := upd_but H
      have hd1 : upd H p (.dK (pen l (k + 1) lf)) p = some (.dK (pen l (k + 1) lf)) := upd_same
      have hl1 : upd H p (.dK (pen l (k + 1) lf)) l = some (.lst (ns.map V.int)) := by
        rw [upd_ne npl.symm]
        exact hl
      generalize upd H p (.dK (pen l (k + 1) lf)) = H2 at s1 hd1 hl1
      have gC2 : DGet H2 p (.str "cells") (some (.ref l)) := by
        have z := DGet.k (k := Sum.inr "cells") hd1
        rw [pen_cells] at z
        exact z
      have S2 : SqL K H2 l (ns.map V.int) := .inl (.inl hl1)
      refine ⟨V.int (ns.length : Nat), rfl, rfl, _, rfl, ?_⟩
      refine ite2 (fun c2 => ?_) (fun c2 => ?_)
      · refine ⟨V.int k, rfl, 7, k, rfl, rfl, .inl ⟨by decide, by decide⟩, _, 3, rfl, rfl, .inl ⟨_, rfl, V.int b, rfl, _, b, rfl, rfl, hb0, ?_⟩⟩
        exact kk H2 (k + 1) lf _ (Int.le_refl _) (by omega) hf (Int.emod_nonneg _ (by omega)) (Int.emod_lt_of_pos _ hb0) s1 ⟨hd1, hl1⟩
      have hne : 0 < ns.length := by
        rcases Nat.eq_zero_or_pos ns.length with z | z
        · rw [z] at c2
          exact absurd (decide_eq_true rfl) c2
        · exact z
      have hi0 : 0 ≤ k % (ns.length : Int) := Int.emod_nonneg _ (by omega)
      have hi1 : k % (ns.length : Int) < (ns.length : Int) := Int.emod_lt_of_pos _ (by omega)
      obtain ⟨j, hj⟩ : ∃ j : Nat, k % (ns.length : Int) = (j : Int) := ⟨(k % (ns.length : Int)).toNat, (Int.toNat_of_nonneg hi0).symm⟩
      obtain ⟨c, hc⟩ : ∃ c, ns[j]? = some c := ⟨_, List.getElem?_eq_getElem (by omega)⟩
      have hcV : (ns.map V.int)[j]? = some (.int c) := by
        rw [List.getElem?_map, hc]
        all_goals rfl
      refine ⟨V.ref p, rfl, p, V.ref l, rfl, gC2, V.int k, rfl, .inl ⟨k, rfl, V.int (ns.length : Nat), rfl, k, _, rfl, rfl, (by omega), l, ns.map V.int, _, .int c, rfl, rfl, S2, at_of hj hcV, ?_⟩⟩
      refine ⟨V.int k, rfl, V.int (ns.length : Nat), rfl, k, _, rfl, rfl, _, rfl, ?_⟩
      refine ite2 (fun c3 => ?_) (fun c3 => iteF ?_)
      refine ⟨V.int c, rfl, c, rfl, 10, 18, rfl, rfl, ⟨by decide, by decide, by decide⟩, _, _, rfl, rfl, _, rfl, ?_⟩
      refine ite2 (fun c4 => ?_) (fun c4 => ?_)
      · have c4' := of_decide_eq_true c4
        refine ⟨V.int c, rfl, c, rfl, 10, 18, rfl, rfl, ⟨by decide, by decide, by decide⟩, _, _, rfl, rfl, V.int b, rfl, _, b, rfl, rfl, ⟨hb0, by omega⟩, V.ref p, rfl, p, _, rfl, DPut.k (k := Sum.inr "left") hd1 (by show 3 < sizeLine; decide), ?_⟩
        rw [pen_put_left]
        refine ⟨V.int c, rfl, c, rfl, 10, 18, rfl, rfl, ⟨by decide, by decide, by decide⟩, _, _, rfl, rfl, .inl ⟨_, rfl, V.int b, rfl, _, b, rfl, rfl, hb0, ?_⟩⟩
        exact kk _ (k + 1) _ _ (Int.le_refl _) (by omega) (Int.ediv_nonneg (by omega) (Int.le_of_lt hb0)) (Int.emod_nonneg _ (by omega)) (Int.emod_lt_of_pos _ hb0) (s1.trans (upd_but H2)) ⟨upd_same, by rw [upd_ne npl.symm]; exact hl1⟩
      all_goals
        refine ⟨V.int c, rfl, .inl ⟨c, rfl, c, 4294967197, rfl, rfl, (by show (0 : Int) < 4294967197; decide), _, 52711, rfl, rfl, .inr ⟨by decide, by decide⟩, ?_⟩⟩
        refine ⟨V.int k, rfl, 20353, k, rfl, rfl, .inl ⟨by decide, by decide⟩, V.int k, rfl, _, k, rfl, rfl, .inr ⟨by omega, by omega⟩, _, _, rfl, rfl, ?_⟩
        dsimp only
        generalize (c % 4294967197 * 52711 + 20353 * k * k) = e
        refine ⟨V.int e, rfl, V.int k, rfl, 1531, k, rfl, rfl, .inl ⟨by decide, by decide⟩, _, _, rfl, rfl, _, 11, rfl, rfl, .inl ⟨_, rfl, _, 4294967189, rfl, rfl, (by show (0 : Int) < 4294967189; decide), ?_⟩⟩
        dsimp only
        have a0 : 0 ≤ (e + 1531 * k + 11) % 4294967189 := Int.emod_nonneg _ (by decide)
        have a1 : (e + 1531 * k + 11) % 4294967189 < 4294967189 := Int.emod_lt_of_pos _ (by decide)
        generalize (e + 1531 * k + 11) % 4294967189 = m at a0 a1
        refine ⟨V.int m, rfl, V.int m, rfl, m, m, rfl, rfl, .inl ⟨by omega, by omega⟩, V.int m, rfl, 68903, m, rfl, rfl, .inl ⟨by decide, by decide⟩, _, _, rfl, rfl, ?_⟩
        refine ⟨V.int k, rfl, 23, k, rfl, rfl, .inl ⟨by decide, by decide⟩, _, _, rfl, rfl, _, 7, rfl, rfl, .inl ⟨_, rfl, _, 4294967161, rfl, rfl, (by show (0 : Int) < 4294967161; decide), ?_⟩⟩
        dsimp only
        have b0' : 0 ≤ (m * m + 68903 * m + 23 * k + 7) % 4294967161 := Int.emod_nonneg _ (by decide)
        have b1' : (m * m + 68903 * m + 23 * k + 7) % 4294967161 < 4294967161 := Int.emod_lt_of_pos _ (by decide)
        generalize (m * m + 68903 * m + 23 * k + 7) % 4294967161 = u at b0' b1'
        refine ⟨V.int u, rfl, V.int u, rfl, u, 57037, rfl, rfl, u, _, rfl, rfl, .inl ⟨by omega, by omega⟩, .inl ⟨_, rfl, _, 4294967143, rfl, rfl, (by show (0 : Int) < 4294967143; decide), _, 64, rfl, rfl, ⟨by decide, by decide⟩, .inl ⟨_, rfl, V.int b, rfl, _, b, rfl, rfl, hb0, ?_⟩⟩⟩
        exact kk H2 (k + 1) lf _ (Int.le_refl _) (by omega) hf (Int.emod_nonneg _ (by omega)) (Int.emod_lt_of_pos _ hb0) s1 ⟨hd1, hl1⟩
end
end SK
namespace SK
open PySem PySem.Spec PyProof.Rows L2 LamX NdefX
open K0 (De DeAll XCl spX withX)
/-! ### one of some things -/
theorem IxR.or {X : Cx} {r1 r2 : R2} (h1 : IxR X r1) (h2 : IxR X r2) : IxR X (fun x y H Q => r1 x y H Q ∨ r2 x y H Q) := by
  intro value slice pins s σ H x y v u Q I rx ry h hs
  rcases h with h | h
  · exact h1 value slice pins s σ H x y v u Q I rx ry h hs
  · exact h2 value slice pins s σ H x y v u Q I rx ry h hs
theorem CallR.or {X : Cx} {f : Value} {r1 r2 : List V → Hp → VK → Prop} (h1 : CallR X f r1) (h2 : CallR X f r2) : CallR X f (fun xs H Q => r1 xs H Q ∨ r2 xs H Q) := by
  intro pins s σ H xs us Q I r h
  rcases h with h | h
  · exact h1 pins s σ H xs us Q I r h
  · exact h2 pins s σ H xs us Q I r h
/-- a list or a text, and what stands in it -/
def Items (H : Hp) (v : V) (xs : List V) : Prop := (∃ a, v = .ref a ∧ H a = some (.lst xs)) ∨ ∃ z : Str, v = .str z ∧ xs = z.cps.toList.map fun c => V.str ⟨#[c]⟩
def spPick : Sp := fun vs H Q _ => ∃ (p l : Addr) (v : V) (ns : List Int) (k lf : Int) (xs : List V), vs = [.ref p, v] ∧ PenAt H p l ns k lf ∧ ns.length ≤ 63 ∧ 0 ≤ k ∧ k ≤ 100000 ∧ 0 ≤ lf ∧ Items H v xs ∧ 0 < xs.length ∧ xs.length ≤ 1000 ∧
  ∀ (H' : Hp) (k' lf' : Int) (y : V), k' ≤ k + 1 → 0 ≤ k' → 0 ≤ lf' → y ∈ xs → SameBut p H H' → PenAt H' p l ns k' lf' → Q y H'
section
variable {P : Program} {w : World} {K : PySem.W.Frag} {mg : Str → Option Value} {base : Heap} {f fD fP : Addr} {fd fdD fdP : FuncData}
theorem sc28 : FnScope ["pen", "items"] ["pen", "items"] (defScope (top 28)) := ⟨rfl, rfl, rfl, by decide +kernel, rfl, by decide +kernel, by decide +kernel⟩
theorem ok_pick (F : Fun K "_law_pick" "_law_pick" (top 28) f fd) (gN : mg "len" = none) (gD : mg "_law_draw" = some (.ref fD)) (kD : PySem.W.keepIn K (.ref fD) = true) (GD : FnOk P w K mg base CX0 1 fD fdD ["pen", "many"] spDraw)
    (bD : Binds K fdD ["pen", "many"] []) : FnOk P w K mg base CX0 2 f fd ["pen", "items"] spPick := by
  refine F.ok sc28 (fun vs H Q E h => ?_) (fun cdv A outer s H vs Q E hr h => ?_)
  · obtain ⟨p, l, v, ns, k, lf, xs, rfl, _⟩ := h
    rfl
  · obtain ⟨p, l, v, ns, k, lf, xs, rfl, hp, hn, hk0, hk1, hf, hv, h0, h1, kk⟩ := h
    refine ⟨_, pss_one (ps_ret (pe_ix (IxR.or ix_list ix_str) (pv 1) (pe_call GD hr (by rfl) gD kD bD .nil pass0 (pa_cons (pv 0) (pa_cons (pe_callB (CallR.or call_len_seq call_len_str) (by rfl) gN PySem.boot_len (pa_cons (pv 1) pa_nil)) pa_nil))) (fun _ _ => rfl))), ?_⟩
    rcases hv with ⟨a, rfl, ha⟩ | ⟨z, rfl, rfl⟩
    · have nap : a ≠ p := ne_of ha hp.dc (by intro z; cases z)
      refine ⟨V.ref a, rfl, V.ref p, rfl, V.ref a, rfl, .inl ⟨a, xs, rfl, .inl (.inl (.inl ha)), p, l, ns, k, lf, _, rfl, hp, hn, hk0, hk1, hf, by omega, by omega, fun H' k' lf' d e1 e2 e3 e4 e5 s5 P5 => ?_⟩⟩
      obtain ⟨j, hj⟩ : ∃ j : Nat, d = (j : Int) := ⟨d.toNat, (Int.toNat_of_nonneg e4).symm⟩
      obtain ⟨v, hv⟩ : ∃ v, xs[j]? = some v := ⟨_, List.getElem?_eq_getElem (by omega)⟩
      exact .inl ⟨a, xs, d, v, rfl, rfl, .inl (.inl (s5 _ _ nap ha)), at_of hj hv, kk H' k' lf' v e1 e2 e3 (List.mem_of_getElem? hv) s5 P5⟩
    · rw [List.length_map] at h0 h1
      have ez : z.length = z.cps.toList.length := by rw [Array.length_toList]; rfl
      have hz : z.length ≤ sizeLine := by
        have t : (1000 : Nat) < sizeLine := by decide
        omega
      refine ⟨V.str z, rfl, V.ref p, rfl, V.str z, rfl, .inr ⟨z, rfl, hz, p, l, ns, k, lf, _, rfl, hp, hn, hk0, hk1, hf, by omega, by omega, fun H' k' lf' d e1 e2 e3 e4 e5 s5 P5 => ?_⟩⟩
      obtain ⟨j, hj⟩ : ∃ j : Nat, d = (j : Int) := ⟨d.toNat, (Int.toNat_of_nonneg e4).symm⟩
      obtain ⟨c, hc⟩ : ∃ c, z.cps.toList[j]? = some c := ⟨_, List.getElem?_eq_getElem (by omega)⟩
      exact .inr ⟨z, d, c, rfl, rfl, hz, (by rw [hj]; exact atI_nat hc), kk H' k' lf' _ e1 e2 e3 (List.mem_map.mpr ⟨c, List.mem_of_getElem? hc, rfl⟩) s5 P5⟩
def six : List Str := ["ab", "ba", "cab", "zyxw", "qa", "abcdefghijklmnopqrstuvwxyz"]
def spSix : Sp := fun vs H Q _ => ∃ (p l : Addr) (ns : List Int) (k lf : Int), vs = [.ref p] ∧ PenAt H p l ns k lf ∧ ns.length ≤ 63 ∧ 0 ≤ k ∧ k ≤ 100000 ∧ 0 ≤ lf ∧
  ∀ (H' : Hp) (k' lf' : Int) (x : Str), k' ≤ k + 1 → 0 ≤ k' → 0 ≤ lf' → x ∈ six → SameBut p H H' → PenAt H' p l ns k' lf' → Q (.str x) H'
theorem sc30 : FnScope ["pen"] ["pen"] (defScope (top 30)) := ⟨rfl, rfl, rfl, by decide +kernel, rfl, by decide +kernel, by decide +kernel⟩
theorem ok_six (F : Fun K "_law_letters_of" "_law_letters_of" (top 30) f fd) (gP : mg "_law_pick" = some (.ref fP)) (kP : PySem.W.keepIn K (.ref fP) = true) (GP : FnOk P w K mg base CX0 2 fP fdP ["pen", "items"] spPick)
    (bP : Binds K fdP ["pen", "items"] []) : FnOk P w K mg base CX0 3 f fd ["pen"] spSix := by
  refine F.ok sc30 (fun vs H Q E h => ?_) (fun cdv A outer s H vs Q E hr h => ?_)
  · obtain ⟨p, l, ns, k, lf, rfl, _⟩ := h
    rfl
  · obtain ⟨p, l, ns, k, lf, rfl, hp, hn, hk0, hk1, hf, kk⟩ := h
    refine ⟨_, pss_one (ps_ret (pe_call GP hr (by rfl) gP kP bP .nil pass0 (pa_cons (pv 0) (pa_cons (pe_lst (pa_cons pe_str (pa_cons pe_str (pa_cons pe_str (pa_cons pe_str (pa_cons pe_str (pa_cons pe_str pa_nil))))))) pa_nil)))), ?_⟩
    refine ⟨V.ref p, rfl, (by show 6 ≤ sizeLine; decide), fun a na => ?_⟩
    refine ⟨p, l, .ref a, ns, k, lf, six.map V.str, rfl, ⟨upd_new na _ _ hp.dc, upd_new na _ _ hp.ls⟩, hn, hk0, hk1, hf, .inl ⟨a, rfl, upd_same⟩, by decide, by decide, fun H' k' lf' y e1 e2 e3 hy s5 P5 => ?_⟩
    obtain ⟨x, hx, rfl⟩ := List.mem_map.mp hy
    exact kk H' k' lf' x e1 e2 e3 hx ((SameBut.of (upd_new na)).trans s5) P5
end
end SK
namespace SK
open PySem PySem.Spec PyProof.Rows L2 LamX NdefX
open K0 (De DeAll XCl spX withX)
/-! ### in a drawn order -/
def IsRw (H : Hp) (x : V) : Prop := ∃ (t : Addr) (w : Str) (b c : Bool), x = .ref t ∧ H t = some (.tup [.str w, .bl b, .bl c]) ∧ w.cps.size ≤ 200 ∧ PyData.strOk w = true
theorem IsRw.mono {H H' : Hp} {x : V} {p : Addr} {kv : List (Key × V)} (h : IsRw H x) (hp : H p = some (.dK kv)) (s : SameBut p H H') : IsRw H' x := by
  obtain ⟨t, w, b, c, rfl, ht, hw⟩ := h
  exact ⟨t, w, b, c, rfl, s _ _ (ne_of ht hp (by intro z; cases z)) ht, hw⟩
def rwD : PyData → Prop := fun d => ∃ (w : Str) (b c : Bool), d = .tuple [.str w, .bool b, .bool c] ∧ w.cps.size ≤ 200 ∧ PyData.strOk w = true
theorem rw_data {K : PySem.W.Frag} {H : Hp} : ∀ {zs : List V}, (∀ z ∈ zs, IsRw H z) → ∃ ds, DpAll K H zs ds ∧ (∀ d ∈ ds, rwD d) ∧ ds.length = zs.length
  | [], _ => ⟨[], .nil, fun d h => absurd h (by simp), rfl⟩
  | z :: zs, h => by
    obtain ⟨ds, h1, h2, h3⟩ := rw_data (K := K) (zs := zs) fun y hy => h y (List.mem_cons_of_mem _ hy)
    obtain ⟨t, w, b, c, rfl, ht, hw⟩ := h z (by simp)
    refine ⟨.tuple [.str w, .bool b, .bool c] :: ds, .cons (.tup (.inl (.inl ht)) (.cons (.str w) (.cons (.bl b) (.cons (.bl c) .nil)))) h1, fun d hd => ?_, congrArg Nat.succ h3⟩
    rcases List.mem_cons.mp hd with rfl | hd
    · exact ⟨w, b, c, rfl, hw⟩
    · exact h2 d hd
theorem rw_lay : ∀ {ds : List PyData}, (∀ d ∈ ds, rwD d) → PyData.canLayAll0 ds = true ∧ PyData.depthAll ds ≤ 1
  | [], _ => ⟨by simp [PyData.canLayAll0], by simp [PyData.depthAll]⟩
  | d :: ds, h => by
    obtain ⟨h1, h2⟩ := rw_lay (ds := ds) fun y hy => h y (List.mem_cons_of_mem _ hy)
    obtain ⟨w, b, c, rfl, _, hw⟩ := h d (by simp)
    refine ⟨by simp [PyData.canLayAll0, PyData.canLay0, h1, hw], ?_⟩
    simp only [PyData.depthAll, PyData.depth]
    omega
theorem rw_shaped {ds : List PyData} (h : ∀ d ∈ ds, rwD d) : SeqAt.shaped (.list ds) = true := by
  obtain ⟨h1, h2⟩ := rw_lay h
  unfold SeqAt.shaped
  rw [Bool.and_eq_true, decide_eq_true_eq]
  refine ⟨by simp only [PyData.canLay0, h1], ?_⟩
  simp only [PyData.depth]
  omega
theorem eqv_nilD (ds : List PyData) : PyData.eqv (.list ds) (.list []) = ds.isEmpty := by
  cases ds with
  | nil => simp [PyData.eqv, PyData.eqvAll]
  | cons n r => simp [PyData.eqv, PyData.eqvAll]
def spShuf (K : PySem.W.Frag) : Sp := fun vs H Q _ => ∃ (p l a : Addr) (ns : List Int) (k lf : Int) (xs : List V), vs = [.ref p, .ref a] ∧ PenAt H p l ns k lf ∧ ns.length ≤ 63 ∧ 0 ≤ k ∧ k ≤ 90000 ∧ 0 ≤ lf ∧ SqL K H a xs ∧ xs.length ≤ 900 ∧ (∀ x ∈ xs, IsRw H x) ∧
  ∀ (H' : Hp) (k' lf' : Int) (b : Addr) (ys : List V), k' ≤ k + xs.length → 0 ≤ k' → 0 ≤ lf' → (∀ y ∈ ys, y ∈ xs) → ys.length = xs.length → SameBut p H H' → PenAt H' p l ns k' lf' → H' b = some (.lst ys) → Q (.ref b) H'
theorem seq_ix {d : Int} {j n : Nat} (h : d = (j : Int)) (hj : j < n) : seqIndex? d n = some j := by
  subst h
  unfold seqIndex?
  have h1 : ¬ ((j : Int) < 0) := by omega
  have h2 : (j : Int) < (n : Int) := by omega
  simp [h1, h2, hj]
section
variable {P : Program} {w : World} {K : PySem.W.Frag} {mg : Str → Option Value} {base : Heap} {f fD fP : Addr} {fd fdD fdP : FuncData}
theorem sc29 : FnScope ["pen", "items", "rest", "found"] ["pen", "items"] (defScope (top 29)) := ⟨rfl, rfl, rfl, by decide +kernel, rfl, by decide +kernel, by decide +kernel⟩
theorem ok_shuf (F : Fun K "_law_shuffled" "_law_shuffled" (top 29) f fd) (gN : mg "len" = none) (gL : mg "list" = none) (gD : mg "_law_draw" = some (.ref fD)) (kD : PySem.W.keepIn K (.ref fD) = true) (GD : FnOk P w K mg base CX0 1 fD fdD ["pen", "many"] spDraw)
    (bD : Binds K fdD ["pen", "many"] []) : FnOk P w K mg base CX0 2 f fd ["pen", "items"] (spShuf K) := by
  refine F.ok sc29 (fun vs H Q E h => ?_) (fun cdv A outer s H vs Q E hr h => ?_)
  · obtain ⟨p, l, a, ns, k, lf, xs, rfl, _⟩ := h
    rfl
  · obtain ⟨p, l, a, ns, k, lf, xs, rfl, hp, hn, hk0, hk1, hf, hS, hz, hx, kk⟩ := h
    have hu64 := hr.units
    refine ⟨_, pss_cons (ps_par (i := 2) (j := 3) rfl sc29.nd rfl rfl (by decide) rfl rfl (pa_cons (pe_callTy call_list_of (by rfl) gL PyProof.Rows.boot_list (pa_cons (pv 1) pa_nil)) (pa_cons (pe_lst pa_nil) pa_nil)) rfl)
      (pss_cons (ps_while PassesOwn.never (pt_cmpR (op_neD hu64) (pv 2) (pe_lst pa_nil) (nomark _)) (pss_one (ps_expr (pe_bm PySem.F.plainAttrs_list PySem.F.slot_list_append PySem.F.type_list_append mt_append (pv 3) (pa_cons
          (pe_bm PySem.F.plainAttrs_list PySem.F.slot_list_pop PySem.F.type_list_pop mt_popAt (pv 2) (pa_cons (pe_call GD hr (by rfl) gD kD bD .nil pass0 (pa_cons (pv 0) (pa_cons (pe_callB call_len_seq (by rfl) gN PySem.boot_len (pa_cons (pv 2) pa_nil)) pa_nil))) pa_nil)) pa_nil)))))
      (pss_one (ps_ret (pv 3)))), ?_⟩
    refine ⟨V.ref a, rfl, a, xs, rfl, .inl hS, fun r nr => ⟨Nat.zero_le _, fun b nb => ⟨V.ref r, V.ref b, rfl, ?_⟩⟩⟩
    have s0 : Same H (upd (upd H r (.lst xs)) b (.lst [])) := (upd_new nr).trans (upd_new nb)
    have r0 : upd (upd H r (.lst xs)) b (.lst []) r = some (.lst xs) := upd_new nb _ _ upd_same
    have b0 : upd (upd H r (.lst xs)) b (.lst []) b = some (.lst []) := upd_same
    have nrb : r ≠ b := fun z => by
      rw [← z, upd_same] at nb
      cases nb
    have nbH : H b = none := by
      rw [upd_ne (Ne.symm nrb)] at nb
      exact nb
    generalize upd (upd H r (.lst xs)) b (.lst []) = H0 at s0 r0 b0
    refine ⟨fun m σ H1 => ∃ (k1 lf1 : Int) (zs ys : List V), σ = [some (.ref p), some (.ref a), some (.ref r), some (.ref b)] ∧ zs.length = m ∧ zs.length + ys.length = xs.length ∧ k1 ≤ k + ys.length ∧ 0 ≤ k1 ∧ 0 ≤ lf1 ∧ PenAt H1 p l ns k1 lf1 ∧ SameBut p H H1 ∧
      H1 r = some (.lst zs) ∧ H1 b = some (.lst ys) ∧ (∀ z ∈ zs, z ∈ xs) ∧ ∀ y ∈ ys, y ∈ xs, ⟨xs.length, k, lf, xs, [], rfl, rfl, by simp, by simp, hk0, hf, ⟨s0 _ _ hp.dc, s0 _ _ hp.ls⟩, .of s0, r0, b0, fun z hz => hz, fun y hy => absurd hy (by simp)⟩, ?_⟩
    rintro m σ H1 ⟨k1, lf1, zs, ys, rfl, hm, hsum, e1, e2, e3, P1, s1, hr1, hb1, mz, my⟩
    refine ⟨V.ref r, rfl, Nat.zero_le _, fun q nq => ?_⟩
    have s2 := upd_new (o := .lst []) nq
    have hq2 : upd H1 q (.lst []) q = some (.lst []) := upd_same
    have P2 : PenAt (upd H1 q (.lst [])) p l ns k1 lf1 := ⟨s2 _ _ P1.dc, s2 _ _ P1.ls⟩
    have s02 := s1.trans (SameBut.of s2)
    have hr2 := s2 _ _ hr1
    have hb2 := s2 _ _ hb1
    generalize upd H1 q (.lst []) = H2 at s2 hq2 P2 s02 hr2 hb2
    obtain ⟨ds, d1, d2, d3⟩ := rw_data (K := K) (H := H2) (zs := zs) fun z hz => (hx z (mz z hz)).mono hp.dc s02
    refine ⟨.list ds, .list [], .lst (.inl (.inl hr2)) d1, .lst (.inl (.inl hq2)) .nil, rw_shaped d2, (by decide +kernel), _, rfl, ?_⟩
    rw [eqv_nilD]
    have npr : r ≠ p := ne_of hr2 P2.dc (by intro z; cases z)
    have npb : b ≠ p := ne_of hb2 P2.dc (by intro z; cases z)
    cases zs with
    | nil =>
      have z0 : ds = [] := List.eq_nil_of_length_eq_zero d3
      rw [z0]
      have hy : ys.length = xs.length := by
        have z : (0 : Nat) + ys.length = xs.length := hsum
        omega
      exact ⟨V.ref b, rfl, kk H2 k1 lf1 b ys (by omega) e2 e3 my hy s02 P2 hb2⟩
    | cons z0 zr =>
      have ed : ds.isEmpty = false := by
        cases ds with
        | nil => cases d3
        | cons _ _ => rfl
      rw [ed]
      generalize hzs : z0 :: zr = zs at *
      have hpos : 0 < zs.length := by rw [← hzs]; simp
      refine ⟨_, fun σ' H' q => q, ?_⟩
      refine ⟨V.ref b, rfl, .inl ⟨rfl, _, .inl (.inl hb2)⟩, V.ref r, rfl, .inl ⟨rfl, _, .inl (.inl hr2)⟩, V.ref p, rfl, V.ref r, rfl, r, zs, rfl, .inl (.inl (.inl hr2)), p, l, ns, k1, lf1, _, rfl, P2, hn, e2, by omega, e3, by omega, by omega, fun H3 k3 lf3 d g1 g2 g3 g4 g5 s3 P3 => ?_⟩
      obtain ⟨j, hj⟩ : ∃ j : Nat, d = (j : Int) := ⟨d.toNat, (Int.toNat_of_nonneg g4).symm⟩
      have hjl : j < zs.length := by omega
      obtain ⟨y, hy⟩ : ∃ y, zs[j]? = some y := ⟨_, List.getElem?_eq_getElem hjl⟩
      have hr3 := s3 _ _ npr hr2
      have hb3 := s3 _ _ npb hb2
      have b63 : (900 : Int) < 2 ^ 63 := by decide
      have b900 : (900 : Nat) < sizeLine := by decide
      refine ⟨r, zs, d, j, y, rfl, rfl, hr3, by omega, by omega, seq_ix hj hjl, hy, b, ys, y, rfl, rfl, (upd_ne (Ne.symm nrb)).trans hb3, by omega, ?_⟩
      refine ⟨(zs.eraseIdx j).length, ?_, k3, lf3, zs.eraseIdx j, ys ++ [y], rfl, rfl, ?_, ?_, g2, g3, ⟨?_, ?_⟩, ?_, ?_, upd_same, ?_, ?_⟩
      · rw [List.length_eraseIdx_of_lt hjl]
        omega
      · rw [List.length_eraseIdx_of_lt hjl, List.length_append]
        show zs.length - 1 + (ys.length + 1) = xs.length
        omega
      · rw [List.length_append]
        show k3 ≤ k + ((ys.length + 1 : Nat) : Int)
        omega
      · rw [upd_ne (Ne.symm npb), upd_ne (Ne.symm npr)]
        exact P3.dc
      · rw [upd_ne (ne_of_none hp.ls nbH), upd_ne (ne_of_none hp.ls nr)]
        exact P3.ls
      · intro c o hc e
        have n1 : c ≠ r := fun z => by
          rw [z] at e
          rw [e] at nr
          cases nr
        have n2 : c ≠ b := fun z => by
          rw [z] at e
          rw [e] at nbH
          cases nbH
        rw [upd_ne n2, upd_ne n1]
        exact s3 _ _ hc (s02 _ _ hc e)
      · rw [upd_ne nrb, upd_same]
      · exact fun z hz => mz z (List.mem_of_mem_eraseIdx hz)
      · intro z hz
        rcases List.mem_append.mp hz with hz | hz
        · exact my z hz
        · obtain rfl : z = y := by simpa using hz
          exact mz _ (List.mem_of_getElem? hy)
end
end SK
namespace SK
open PySem PySem.Spec PyProof.Rows L2 LamX NdefX
open K0 (De DeAll XCl spX withX)
/-! ### some words -/
def spSome : Sp := fun vs H Q _ => ∃ (p l : Addr) (ns : List Int) (k lf : Int) (ls : Str), vs = [.ref p, .str ls, .int 5, .int 4] ∧ PenAt H p l ns k lf ∧ ns.length ≤ 63 ∧ 0 ≤ k ∧ k ≤ 90000 ∧ 0 ≤ lf ∧ 0 < ls.cps.size ∧ ls.cps.size ≤ 26 ∧
  ∀ (H' : Hp) (k' lf' : Int) (b : Addr) (ws : List Str), k' ≤ k + 30 → 0 ≤ k' → 0 ≤ lf' → (∀ y ∈ ws, OverL ls y ∧ y.cps.size ≤ 4) → ws.length ≤ 5 → SameBut p H H' → PenAt H' p l ns k' lf' → H' b = some (.lst (ws.map V.str)) → Q (.ref b) H'
theorem cut3_mem {ls : Str} {c : Nat} (h : c ∈ (cutS ls none (some 3)).cps.toList) : c ∈ ls.cps.toList := by
  unfold cutS at h
  rw [List.toList_toArray] at h
  exact List.mem_of_mem_drop (List.mem_of_mem_take h)
theorem cut3_len {ls : Str} (h : 0 < ls.cps.size) : 0 < (cutS ls none (some 3)).cps.toList.length ∧ (cutS ls none (some 3)).cps.toList.length ≤ 1000 := by
  unfold cutS
  rw [List.toList_toArray, HT.sIx_none, show ((3 : Int)) = ((3 : Nat) : Int) from rfl, HT.sIx_nat, List.drop_zero, Nat.sub_zero, List.length_take, Array.length_toList]
  have e : ls.length = ls.cps.size := rfl
  omega
theorem flat_strs (ws : List Str) : (ws.map V.str).all flatV = true := by
  rw [List.all_map, List.all_eq_true]
  exact fun _ _ => rfl
section
variable {P : Program} {w : World} {K : PySem.W.Frag} {mg : Str → Option Value} {base : Heap} {f fD fP : Addr} {fd fdD fdP : FuncData}
theorem sc31 : FnScope ["pen", "letters", "many", "longest", "found", "k", "word", "j"] ["pen", "letters", "many", "longest"] (defScope (top 31)) := ⟨rfl, rfl, rfl, by decide +kernel, rfl, by decide +kernel, by decide +kernel⟩
theorem ok_some (F : Fun K "_law_some_words" "_law_some_words" (top 31) f fd) (gR : mg "range" = none) (gD : mg "_law_draw" = some (.ref fD)) (kD : PySem.W.keepIn K (.ref fD) = true) (GD : FnOk P w K mg base CX0 1 fD fdD ["pen", "many"] spDraw)
    (bD : Binds K fdD ["pen", "many"] []) (gP : mg "_law_pick" = some (.ref fP)) (kP : PySem.W.keepIn K (.ref fP) = true) (GP : FnOk P w K mg base CX0 2 fP fdP ["pen", "items"] spPick)
    (bP : Binds K fdP ["pen", "items"] []) : FnOk P w K mg base CX0 3 f fd ["pen", "letters", "many", "longest"] spSome := by
  refine F.ok sc31 (fun vs H Q E h => ?_) (fun cdv A outer s H vs Q E hr h => ?_)
  · obtain ⟨p, l, ns, k, lf, ls, rfl, _⟩ := h
    rfl
  · obtain ⟨p, l, ns, k, lf, ls, rfl, hp, hn, hk0, hk1, hf, hl0, hl1, kk⟩ := h
    have hr1 : Room 1 _ := hr.mono (by decide)
    refine ⟨_, pss_cons (ps_set (i := 4) sc31.nd rfl (Or.inl rfl) (pe_lst pa_nil)) (pss_cons (ps_for PassesOwn.never rfl (pi_range1 (by rfl) gR (pa_cons (pe_call GD hr1 (by rfl) gD kD bD .nil pass0 (pa_cons (pv 0) (pa_cons (pe_op op_add (pv 2) pe_int) pa_nil))) pa_nil)) (pg_name (i := 5) sc31.nd rfl (Or.inl rfl))
        (pss_cons (ps_set (i := 6) sc31.nd rfl (Or.inl rfl) (pe_bm PySem.F.plainAttrs_str PySem.F.slot_str_join PySem.F.type_str_join mt_join pe_str (pa_cons (pe_lc (own := [("j", 7)]) (g := gName 7) (tt := tYes) rfl sc31.nd
            (pi_range1 (by rfl) gR (pa_cons (pe_call GD hr1 (by rfl) gD kD bD .nil pass0 (pa_cons (pv 0) (pa_cons (pe_op op_add (pv 3) pe_int) pa_nil))) pa_nil))
            (blkOk_by (N := ["pen", "letters", "many", "longest", "found", "k", "word", "j"]) (sc := defScope (top 31)) (by decide +kernel))
            (fun _ _ _ _ _ => pg_name (i := 7) sc31.nd rfl (Or.inl rfl)) (fun _ _ _ _ _ => pts_nil) (fun _ _ _ _ _ => pe_call GP hr (by rfl) gP kP bP .nil pass0 (pa_cons (pv 0) (pa_cons (pe_slice sl_str (pv 1) po_none (po_some pe_int)) pa_nil)))) pa_nil)))
        (pss_one (ps_if (pt_cmpR op_notIn_seq (pv 6) (pv 4) (by rfl)) (pss_one (ps_expr (pe_bm PySem.F.plainAttrs_list PySem.F.slot_list_append PySem.F.type_list_append mt_append (pv 4) (pa_cons (pv 6) pa_nil)))) pss_nil))))
      (pss_one (ps_ret (pv 4)))), ?_⟩
    refine ⟨Nat.zero_le _, fun b nb => ?_⟩
    have s0 := upd_new (o := .lst []) nb
    have b0 : upd H b (.lst []) b = some (.lst []) := upd_same
    generalize upd H b (.lst []) = H0 at s0 b0
    refine ⟨V.ref p, rfl, V.int 5, rfl, 5, 1, rfl, rfl, p, l, ns, k, lf, 6, rfl, ⟨s0 _ _ hp.dc, s0 _ _ hp.ls⟩, hn, hk0, by omega, hf, by decide, by decide, fun H1 k1 lf1 d e1 e2 e3 e4 e5 s1 P1 => ?_⟩
    have b62 : (6 : Int) < 2 ^ 62 := by decide
    have bn : b ≠ p := ne_of b0 (s0 _ _ hp.dc) (by intro z; cases z)
    have hdn : d.toNat ≤ 5 := by omega
    refine ⟨d, rfl, by omega, by omega, for_it walk_range (fun i σ G => ∃ (x5 x6 : Option V) (kk lg : Int) (ws : List Str), σ = [some (.ref p), some (.str ls), some (.int 5), some (.int 4), some (.ref b), x5, x6, none] ∧ kk ≤ k + 1 + 5 * i ∧ 0 ≤ kk ∧ 0 ≤ lg ∧ PenAt G p l ns kk lg ∧ SameBut p H G ∧
      G b = some (.lst (ws.map V.str)) ∧ ws.length ≤ i ∧ ∀ y ∈ ws, OverL ls y ∧ y.cps.size ≤ 4) ⟨none, none, k1, lf1, [], rfl, by omega, e2, e3, P1, (SameBut.of s0).trans s1, s1 _ _ bn b0, Nat.le_refl _, fun y hy => absurd hy (by simp)⟩ (fun _ _ _ _ _ => trivial) ?_ ?_⟩
    · rintro i x σ G G2 hi ⟨x5, x6, kk1, lg, ws, rfl, f1, f2, f3, P2, s2, hb2, hw, hW⟩ ⟨rfl, rfl⟩
      refine ⟨rfl, V.ref p, rfl, V.int 4, rfl, 4, 1, rfl, rfl, p, l, ns, kk1, lg, 5, rfl, P2, hn, f2, by omega, f3, by decide, by decide, fun G3 k3 lf3 d3 g1 g2 g3 g4 g5 s3 P3 => ?_⟩
      refine ⟨d3, rfl, by omega, by omega, fun D2 nD2 => lc_it walk_range (fun j G4 => ∃ (k4 lf4 : Int) (cs : List Nat), k4 ≤ k3 + j ∧ 0 ≤ k4 ∧ 0 ≤ lf4 ∧ PenAt G4 p l ns k4 lf4 ∧ SameBut p G3 G4 ∧ G4 D2 = some (.lst ((cs.map fun c => (⟨#[c]⟩ : Str)).map V.str)) ∧ cs.length = j ∧ ∀ c ∈ cs, c ∈ ls.cps.toList)
        ⟨k3, lf3, [], by omega, g2, g3, ⟨upd_new nD2 _ _ P3.dc, upd_new nD2 _ _ P3.ls⟩, .of (upd_new nD2), upd_same, rfl, fun c hc => absurd hc (by simp)⟩ (fun _ _ _ _ => trivial) ?_ ?_⟩
      · rintro j x G4 G5 hj ⟨k4, lf4, cs, i1, i2, i3, P4, s4, h4, hcs, hC⟩ ⟨rfl, rfl⟩
        have hls : ls.length ≤ sizeLine := by
          have e : ls.length = ls.cps.size := rfl
          have t : (26 : Nat) < sizeLine := by decide
          omega
        obtain ⟨c1, c2⟩ := cut3_len hl0
        refine ⟨rfl, V.ref p, rfl, V.str ls, rfl, 3, rfl, ls, rfl, hls, p, l, .str (cutS ls none (some 3)), ns, k4, lf4, _, rfl, P4, hn, i2, by omega, i3, .inr ⟨_, rfl, rfl⟩, by rw [List.length_map]; exact c1, by rw [List.length_map]; exact c2, fun G6 k6 lf6 y j1 j2 j3 hy s6 P6 => ?_⟩
        obtain ⟨c, hc, rfl⟩ := List.mem_map.mp hy
        have nDp : D2 ≠ p := ne_of h4 P4.dc (by intro z; cases z)
        have hD6 := s6 _ _ nDp h4
        refine ⟨_, hD6, ?_, k6, lf6, cs ++ [c], ?_, j2, j3, ⟨?_, ?_⟩, ?_, ?_, ?_, ?_⟩
        · rw [List.length_map, List.length_map, hcs]
          have t : (5 : Nat) < sizeLine := by decide
          omega
        · have z : ((j + 1 : Nat) : Int) = (j : Int) + 1 := by omega
          omega
        · rw [upd_ne (Ne.symm nDp)]
          exact P6.dc
        · rw [upd_ne (ne_of_none P3.ls nD2)]
          exact P6.ls
        · intro c o hc e
          rw [upd_ne (ne_of_none e nD2)]
          exact s6 _ _ hc (s4 _ _ hc e)
        · rw [List.map_append, List.map_append]
          exact upd_same
        · rw [List.length_append, hcs]
          rfl
        · intro z hz
          rcases List.mem_append.mp hz with hz | hz
          · exact hC z hz
          · obtain rfl : z = c := by simpa using hz
            exact cut3_mem hc
      · rintro G4 ⟨k4, lf4, cs, i1, i2, i3, P4, s4, h4, hcs, hC⟩
        have hc4 : cs.length ≤ 4 := by omega
        refine ⟨"", D2, _, rfl, rfl, .inl (.inl (.inl h4)), ?_, ?_⟩
        · rw [sum_ones]
          have z : (Str.ofString "").length = 0 := by decide
          rw [z]
          omega
        rw [txt_join_chars]
        have hb4 := s4 _ _ bn (s3 _ _ bn hb2)
        have s04 := (s2.trans s3).trans s4
        have hov : OverL ls ⟨cs.toArray⟩ ∧ (⟨cs.toArray⟩ : Str).cps.size ≤ 4 := by
          refine ⟨⟨?_, fun c hc => hC c (by simpa using hc)⟩, ?_⟩
          · show cs.toArray.size ≤ 200
            rw [List.size_toArray]
            omega
          · show cs.toArray.size ≤ 4
            rw [List.size_toArray]
            omega
        refine ⟨V.str ⟨cs.toArray⟩, rfl, V.ref b, rfl, b, ws.map V.str, rfl, .inl (.inl (.inl hb4)), rfl, flat_strs ws, _, rfl, ?_⟩
        have b5 : (5 : Nat) < sizeLine := by decide
        have z : ((i + 1 : Nat) : Int) = (i : Int) + 1 := by omega
        refine ite2 (fun c => ?_) (fun c => ?_)
        · refine ⟨V.ref b, rfl, .inl ⟨rfl, _, .inl (.inl hb4)⟩, V.str ⟨cs.toArray⟩, rfl, b, _, _, rfl, rfl, hb4, by rw [List.length_map]; omega, _, _, k4, lf4, ws ++ [⟨cs.toArray⟩], rfl, by omega, i2, i3, ⟨?_, ?_⟩, ?_, ?_, ?_, ?_⟩
          · rw [upd_ne (Ne.symm bn)]
            exact P4.dc
          · rw [upd_ne (ne_of_none hp.ls nb)]
            exact P4.ls
          · intro c o hc e
            rw [upd_ne (ne_of_none e nb)]
            exact s04 _ _ hc e
          · rw [List.map_append]
            exact upd_same
          · rw [List.length_append]
            show ws.length + 1 ≤ i + 1
            omega
          · intro y hy
            rcases List.mem_append.mp hy with hy | hy
            · exact hW y hy
            · obtain rfl : y = ⟨cs.toArray⟩ := by simpa using hy
              exact hov
        · exact ⟨_, _, k4, lf4, ws, rfl, by omega, i2, i3, P4, s04, hb4, by omega, hW⟩
    · rintro σ G ⟨x5, x6, kk1, lg, ws, rfl, f1, f2, f3, P2, s2, hb2, hw, hW⟩
      exact ⟨V.ref b, rfl, kk G kk1 lg b ws (by omega) f2 f3 hW (by omega) s2 P2 hb2⟩
end
end SK
namespace SK
open PySem PySem.Spec PyProof.Rows L2 LamX NdefX
open K0 (De DeAll XCl spX withX)
/-! ### all beginnings; some rows -/
def Short (ls y : Str) : Prop := OverL ls y ∧ y.cps.size ≤ 4
theorem short_cut {ls y : Str} {hi : Option Int} (h : Short ls y) : Short ls (cutS y none hi) := by
  have e : (cutS y none hi).cps.toList = (y.cps.toList.drop (HT.sIx y.length 0 none)).take (HT.sIx y.length y.length hi - HT.sIx y.length 0 none) := by
    unfold cutS
    rw [List.toList_toArray]
  have z : (cutS y none hi).cps.size ≤ y.cps.size := by
    rw [← Array.length_toList, e, List.length_take, List.length_drop, Array.length_toList]
    omega
  refine ⟨⟨Nat.le_trans z h.1.1, fun c hc => ?_⟩, Nat.le_trans z h.2⟩
  rw [e] at hc
  exact h.1.2 c (List.mem_of_mem_drop (List.mem_of_mem_take hc))
theorem short_empty (ls : Str) : Short ls "" := ⟨⟨by decide, fun c hc => absurd hc (by rw [show (("" : Str)).cps.toList = [] from by decide +kernel]; simp)⟩, by decide⟩
def spBeg (K : PySem.W.Frag) : Sp := fun vs H Q _ => ∃ (ls : Str) (a : Addr) (ws : List Str), vs = [.str ls, .ref a] ∧ SqL K H a (ws.map V.str) ∧ (∀ y ∈ ws, Short ls y) ∧ ws.length ≤ 5 ∧
  ∀ (H' : Hp) (b : Addr) (fs : List Str), Same H H' → H' b = some (.lst (fs.map V.str)) → (∀ y ∈ fs, Short ls y) → fs.length ≤ 21 → Q (.ref b) H'
section
variable {P : Program} {w : World} {K : PySem.W.Frag} {mg : Str → Option Value} {base : Heap} {f fO fD fS fB : Addr} {fd fdO fdD fdS fdB : FuncData}
theorem sc33 : FnScope ["letters", "words", "found", "word", "size"] ["letters", "words"] (defScope (top 33)) := ⟨rfl, rfl, rfl, by decide +kernel, rfl, by decide +kernel, by decide +kernel⟩
theorem ok_beg (F : Fun K "_law_beginnings" "_law_beginnings" (top 33) f fd) (gR : mg "range" = none) (gN : mg "len" = none) (gO : mg "_law_in_order" = some (.ref fO)) (kO : PySem.W.keepIn K (.ref fO) = true) (GO : FnOk P w K mg base CX0 1 fO fdO ["letters", "words"] (spOrdL K))
    (bO : Binds K fdO ["letters", "words"] []) : FnOk P w K mg base CX0 2 f fd ["letters", "words"] (spBeg K) := by
  refine F.ok sc33 (fun vs H Q E h => ?_) (fun cdv A outer s H vs Q E hr h => ?_)
  · obtain ⟨ls, a, ws, rfl, _⟩ := h
    rfl
  · obtain ⟨ls, a, ws, rfl, hS, hW, hz, kk⟩ := h
    refine ⟨_, pss_cons (ps_set (i := 2) sc33.nd rfl (Or.inl rfl) (pe_lst (pa_cons pe_str pa_nil))) (pss_cons (ps_for PassesOwn.never rfl (pi_list (pv 1)) (pg_name (i := 3) sc33.nd rfl (Or.inl rfl))
        (pss_one (ps_for PassesOwn.never rfl (pi_range2 (by rfl) gR (pa_cons pe_int (pa_cons (pe_op op_add (pe_callB call_len_str (by rfl) gN PySem.boot_len (pa_cons (pv 3) pa_nil)) pe_int) pa_nil))) (pg_name (i := 4) sc33.nd rfl (Or.inl rfl))
          (pss_one (ps_if (pt_cmpR op_notIn_seq (pe_slice sl_str (pv 3) po_none (po_some (pv 4))) (pv 2) (by rfl)) (pss_one (ps_expr (pe_bm PySem.F.plainAttrs_list PySem.F.slot_list_append PySem.F.type_list_append mt_append (pv 2) (pa_cons (pe_slice sl_str (pv 3) po_none (po_some (pv 4))) pa_nil)))) pss_nil)))))
      (pss_one (ps_ret (pe_call GO hr (by rfl) gO kO bO .nil pass0 (pa_cons (pv 0) (pa_cons (pv 2) pa_nil)))))), ?_⟩
    refine ⟨(by show 1 ≤ sizeLine; decide), fun b nb => ?_⟩
    have s0 := upd_new (o := .lst [.str ""]) nb
    have b0 : upd H b (.lst [.str ""]) b = some (.lst [.str ""]) := upd_same
    generalize upd H b (.lst [.str ""]) = H0 at s0 b0
    refine ⟨V.ref a, rfl, a, rfl, ⟨_, s0.seq hS⟩, for_it (walk_list (K := K) (xs := ws.map V.str)) (fun i σ G => ∃ (x3 x4 : Option V) (fs : List Str), σ = [some (.str ls), some (.ref a), some (.ref b), x3, x4] ∧ Same H G ∧ G b = some (.lst (fs.map V.str)) ∧ (∀ y ∈ fs, Short ls y) ∧ fs.length ≤ 1 + 4 * i)
      ⟨none, none, [""], rfl, s0, b0, fun y hy => by
        obtain rfl : y = "" := by simpa using hy
        exact short_empty ls, Nat.le_refl _⟩ (fun i σ G _ q => ?_) ?_ ?_⟩
    · obtain ⟨x3, x4, fs, _, sm, _⟩ := q
      exact sm.seq hS
    · rintro i x σ G G2 hi ⟨x3, x4, fs, rfl, sm, hb, hF, hl⟩ ⟨rfl, hx⟩
      obtain ⟨y, hy, rfl⟩ : ∃ y, ws[i]? = some y ∧ V.str y = x := by
        rw [List.getElem?_map] at hx
        cases q : ws[i]? with
        | none =>
          rw [q] at hx
          cases hx
        | some y =>
          rw [q] at hx
          exact ⟨y, rfl, Option.some.inj hx⟩
      have hys := hW y (List.mem_of_getElem? hy)
      have hyz : y.length ≤ 4 := hys.2
      have b4 : (4 : Nat) < sizeLine := by decide
      have b62 : (6 : Int) < 2 ^ 62 := by decide
      refine ⟨V.str y, rfl, y, rfl, by omega, _, 1, rfl, rfl, 1, _, rfl, ⟨by decide, by decide, by omega, by omega⟩, for_it walk_range (fun j σ G3 => ∃ (x4 : Option V) (gs : List Str), σ = [some (.str ls), some (.ref a), some (.ref b), some (.str y), x4] ∧ Same H G3 ∧ G3 b = some (.lst (gs.map V.str)) ∧ (∀ y ∈ gs, Short ls y) ∧ gs.length ≤ 1 + 4 * i + j)
        ⟨x4, fs, rfl, sm, hb, hF, hl⟩ (fun _ _ _ _ _ => trivial) ?_ ?_⟩
      · rintro j x σ G3 G4 hj ⟨x4, gs, rfl, sm3, hb3, hF3, hl3⟩ ⟨rfl, rfl⟩
        have hc := short_cut (hi := some (1 + (j : Int))) hys
        have hyl : y.length ≤ sizeLine := by omega
        refine ⟨V.str y, rfl, V.int (1 + (j : Int)), rfl, _, rfl, y, rfl, hyl, V.ref b, rfl, b, gs.map V.str, rfl, .inl (.inl (.inl hb3)), rfl, flat_strs gs, _, rfl, ?_⟩
        refine ite2 (fun c => ?_) (fun c => ?_)
        · refine ⟨V.ref b, rfl, .inl ⟨rfl, _, .inl (.inl hb3)⟩, V.str y, rfl, V.int (1 + (j : Int)), rfl, _, rfl, y, rfl, hyl, b, _, _, rfl, rfl, hb3, ?_, _, gs ++ [cutS y none (some (1 + (j : Int)))], rfl, ?_, ?_, ?_, ?_⟩
          · have hws : (i : Nat) < 5 := by
              rw [List.length_map] at hi
              omega
            have t : (100 : Nat) < sizeLine := by decide
            rw [List.length_map]
            omega
          · exact fun c o e => by
              rw [upd_ne (ne_of_none e nb)]
              exact sm3 _ _ e
          · rw [List.map_append]
            exact upd_same
          · intro z hz
            rcases List.mem_append.mp hz with hz | hz
            · exact hF3 z hz
            · obtain rfl : z = cutS y none (some (1 + (j : Int))) := by simpa using hz
              exact hc
          · rw [List.length_append]
            show gs.length + 1 ≤ 1 + 4 * i + (j + 1)
            omega
        · exact ⟨_, gs, rfl, sm3, hb3, hF3, by omega⟩
      · rintro σ G3 ⟨x4, gs, rfl, sm3, hb3, hF3, hl3⟩
        exact ⟨_, x4, gs, rfl, sm3, hb3, hF3, by
          have e : (((y.length : Nat) : Int) + 1 - 1).toNat = y.length := by omega
          rw [e] at hl3
          omega⟩
    · rintro σ G ⟨x3, x4, fs, rfl, sm, hb, hF, hl⟩
      rw [List.length_map] at hl
      refine ⟨V.str ls, rfl, V.ref b, rfl, ls, b, fs, rfl, .inl (.inl hb), fun y hy => (hF y hy).1, by omega, fun G2 q sm2 nq hq => ?_⟩
      have hp := sortW_perm ls fs
      exact kk G2 q (sortW ls fs) (sm.trans sm2) hq (fun y hy => hF y (hp.mem_iff.mp hy)) (by rw [hp.length_eq]; omega)
end
end SK
namespace SK
open PySem PySem.Spec PyProof.Rows L2 LamX NdefX
open K0 (De DeAll XCl spX withX)
/-! ### some rows -/
def Asc (ls : Str) : Prop := 0 < ls.cps.size ∧ ls.cps.size ≤ 26 ∧ ∀ c ∈ ls.cps.toList, c < 128
theorem Asc.ok {ls y : Str} (h : Asc ls) (o : OverL ls y) : PyData.strOk y = true := by
  unfold PyData.strOk
  rw [← Array.all_toList, List.all_eq_true]
  intro c hc
  have z := h.2.2 c (o.2 c hc)
  exact decide_eq_true (by omega)
def spRws : Sp := fun vs H Q _ => ∃ (p l : Addr) (ns : List Int) (k lf : Int) (ls : Str), vs = [.ref p, .str ls] ∧ PenAt H p l ns k lf ∧ ns.length ≤ 63 ∧ 0 ≤ k ∧ k ≤ 80000 ∧ 0 ≤ lf ∧ Asc ls ∧
  ∀ (H' : Hp) (k' lf' : Int) (b : Addr) (xs : List V), k' ≤ k + 100 → 0 ≤ k' → 0 ≤ lf' → (∀ x ∈ xs, IsRw H' x) → xs.length ≤ 21 → SameBut p H H' → PenAt H' p l ns k' lf' → H' b = some (.lst xs) → Q (.ref b) H'
section
variable {P : Program} {w : World} {K : PySem.W.Frag} {mg : Str → Option Value} {base : Heap} {f fO fD fS fB : Addr} {fd fdO fdD fdS fdB : FuncData}
theorem sc34 : FnScope ["pen", "letters", "places", "place"] ["pen", "letters"] (defScope (top 34)) := ⟨rfl, rfl, rfl, by decide +kernel, rfl, by decide +kernel, by decide +kernel⟩
theorem ok_rws (F : Fun K "_law_some_rows" "_law_some_rows" (top 34) f fd) (gD : mg "_law_draw" = some (.ref fD)) (kD : PySem.W.keepIn K (.ref fD) = true) (GD : FnOk P w K mg base CX0 1 fD fdD ["pen", "many"] spDraw)
    (bD : Binds K fdD ["pen", "many"] []) (gS : mg "_law_some_words" = some (.ref fS)) (kS : PySem.W.keepIn K (.ref fS) = true) (GS : FnOk P w K mg base CX0 3 fS fdS ["pen", "letters", "many", "longest"] spSome)
    (bS : Binds K fdS ["pen", "letters", "many", "longest"] []) (gB : mg "_law_beginnings" = some (.ref fB)) (kB : PySem.W.keepIn K (.ref fB) = true) (GB : FnOk P w K mg base CX0 2 fB fdB ["letters", "words"] (spBeg K)) (bB : Binds K fdB ["letters", "words"] []) :
    FnOk P w K mg base CX0 4 f fd ["pen", "letters"] spRws := by
  refine F.ok sc34 (fun vs H Q E h => ?_) (fun cdv A outer s H vs Q E hr h => ?_)
  · obtain ⟨p, l, ns, k, lf, ls, rfl, _⟩ := h
    rfl
  · obtain ⟨p, l, ns, k, lf, ls, rfl, hp, hn, hk0, hk1, hf, hL, kk⟩ := h
    have hr1 : Room 1 _ := hr.mono (by decide)
    have hr2 : Room 2 _ := hr.mono (by decide)
    refine ⟨_, pss_cons (ps_set (i := 2) sc34.nd rfl (Or.inl rfl) (pe_call GB hr2 (by rfl) gB kB bB .nil pass0 (pa_cons (pv 1) (pa_cons (pe_call GS hr (by rfl) gS kS bS .nil pass0 (pa_cons (pv 0) (pa_cons (pv 1) (pa_cons pe_int (pa_cons pe_int pa_nil))))) pa_nil))))
      (pss_one (ps_ret (pe_lc (own := [("place", 3)]) (g := gName 3) (tt := tYes) rfl sc34.nd (pi_list (pv 2)) (blkOk_by (N := ["pen", "letters", "places", "place"]) (sc := defScope (top 34)) (by decide +kernel))
        (fun _ _ _ _ _ => pg_name (i := 3) sc34.nd rfl (Or.inl rfl)) (fun _ _ _ _ _ => pts_nil)
        (fun _ _ _ _ _ => pe_tup (pa_cons (pv 3) (pa_cons (pe_cmpR op_eq (pe_call GD hr1 (by rfl) gD kD bD .nil pass0 (pa_cons (pv 0) (pa_cons pe_int pa_nil))) pe_int (nomark _)) (pa_cons (pe_cmpR op_eq (pe_call GD hr1 (by rfl) gD kD bD .nil pass0 (pa_cons (pv 0) (pa_cons pe_int pa_nil))) pe_int (nomark _)) pa_nil))))))), ?_⟩
    refine ⟨V.str ls, rfl, V.ref p, rfl, V.str ls, rfl, p, l, ns, k, lf, ls, rfl, hp, hn, hk0, by omega, hf, hL.1, hL.2.1, fun H1 k1 lf1 a ws e1 e2 e3 hW hw s1 P1 ha => ?_⟩
    refine ⟨ls, a, ws, rfl, .inl (.inl ha), hW, hw, fun H2 b fs sm2 hb hF hl => ?_⟩
    have P2 : PenAt H2 p l ns k1 lf1 := ⟨sm2 _ _ P1.dc, sm2 _ _ P1.ls⟩
    have s2 := s1.trans (SameBut.of sm2)
    have nbp : b ≠ p := ne_of hb P2.dc (by intro z; cases z)
    refine ⟨V.ref b, rfl, b, rfl, ⟨_, .inl (.inl hb)⟩, fun D nD => lc_it (walk_list (K := K) (xs := fs.map V.str)) (fun i G => ∃ (k3 lf3 : Int) (xs : List V), k3 ≤ k1 + 2 * i ∧ 0 ≤ k3 ∧ 0 ≤ lf3 ∧ PenAt G p l ns k3 lf3 ∧ SameBut p H2 G ∧ G D = some (.lst xs) ∧ xs.length = i ∧ ∀ x ∈ xs, ∃ (t : Addr) (w : Str) (b c : Bool), x = .ref t ∧ G t = some (.tup [.str w, .bl b, .bl c]) ∧ w.cps.size ≤ 200 ∧ PyData.strOk w = true)
      ⟨k1, lf1, [], by omega, e2, e3, ⟨upd_new nD _ _ P2.dc, upd_new nD _ _ P2.ls⟩, .of (upd_new nD), upd_same, rfl, fun x hx => absurd hx (by simp)⟩ (fun i G _ q => ?_) ?_ ?_⟩
    · obtain ⟨k3, lf3, xs, _, _, _, _, s3, _⟩ := q
      exact .inl (.inl (s3 _ _ nbp hb))
    · rintro i x G G2 hi ⟨k3, lf3, xs, f1, f2, f3, P3, s3, hD, hxl, hX⟩ ⟨rfl, hx⟩
      obtain ⟨y, hy, rfl⟩ : ∃ y, fs[i]? = some y ∧ V.str y = x := by
        rw [List.getElem?_map] at hx
        cases q : fs[i]? with
        | none =>
          rw [q] at hx
          cases hx
        | some y =>
          rw [q] at hx
          exact ⟨y, rfl, Option.some.inj hx⟩
      have hys := hF y (List.mem_of_getElem? hy)
      rw [List.length_map] at hi
      refine ⟨rfl, V.str y, rfl, V.ref p, rfl, p, l, ns, k3, lf3, 2, rfl, P3, hn, f2, by omega, f3, by decide, by decide, fun G3 k4 lf4 d4 g1 g2 g3 g4 g5 s4 P4 => ⟨rfl, V.ref p, rfl, p, l, ns, k4, lf4, 3, rfl, P4, hn, g2, by omega, g3, by decide, by decide, fun G4 k5 lf5 d5 h1 h2 h3 h4 h5 s5 P5 => ⟨rfl, ?_⟩⟩⟩
      refine ⟨(by show 3 ≤ sizeLine; decide), fun q nq => ?_⟩
      have nDp : D ≠ p := ne_of hD P3.dc (by intro z; cases z)
      have s35 := s4.trans s5
      have hD5 := s35 _ _ nDp hD
      have s6 := upd_new (o := .tup [.str y, .bl (decide (V.int d4 = V.int 0)), .bl (decide (V.int d5 = V.int 0))]) nq
      have hq6 : upd G4 q (.tup [.str y, .bl (decide (V.int d4 = V.int 0)), .bl (decide (V.int d5 = V.int 0))]) q = some (.tup [.str y, .bl (decide (V.int d4 = V.int 0)), .bl (decide (V.int d5 = V.int 0))]) := upd_same
      generalize upd G4 q (.tup [.str y, .bl (decide (V.int d4 = V.int 0)), .bl (decide (V.int d5 = V.int 0))]) = G6 at s6 hq6
      have hD6 := s6 _ _ hD5
      have b100 : (100 : Nat) < sizeLine := by decide
      refine ⟨xs, hD6, by omega, k5, lf5, xs ++ [.ref q], ?_, h2, h3, ⟨?_, ?_⟩, ?_, upd_same, ?_, ?_⟩
      · have z : ((i + 1 : Nat) : Int) = (i : Int) + 1 := by omega
        omega
      · rw [upd_ne (Ne.symm nDp)]
        exact s6 _ _ P5.dc
      · rw [upd_ne (ne_of_none P2.ls nD)]
        exact s6 _ _ P5.ls
      · intro c o hc e
        rw [upd_ne (ne_of_none e nD)]
        exact s6 _ _ (s35 _ _ hc (s3 _ _ hc e))
      · rw [List.length_append, hxl]
        rfl
      · intro x hx
        rcases List.mem_append.mp hx with hx | hx
        · obtain ⟨t, w, b, c, rfl, ht, hw⟩ := hX x hx
          have ntp : t ≠ p := ne_of ht P3.dc (by intro z; cases z)
          have ntD : t ≠ D := ne_of ht hD (by intro z; cases z)
          exact ⟨t, w, b, c, rfl, by rw [upd_ne ntD]; exact s6 _ _ (s35 _ _ ntp ht), hw⟩
        · obtain rfl : x = .ref q := by simpa using hx
          have nqD : q ≠ D := ne_of hq6 hD6 (by intro z; cases z)
          exact ⟨q, y, _, _, rfl, by rw [upd_ne nqD]; exact hq6, hys.1.1, hL.ok hys.1⟩
    · rintro G ⟨k3, lf3, xs, f1, f2, f3, P3, s3, hD, hxl, hX⟩
      rw [List.length_map] at hxl f1
      exact kk G k3 lf3 D xs (by omega) f2 f3 hX (by omega) (s2.trans s3) P3 hD
end
end SK
namespace SK
open PySem PySem.Spec PyProof.Rows L2 LamX NdefX
open K0 (De DeAll XCl spX withX)
/-! ### how a tree is to be refused -/
theorem inV_strs (x : Str) (ws : List Str) : inV (.str x) (ws.map V.str) = decide (x ∈ ws) := by
  unfold inV
  rw [List.any_map]
  induction ws with
  | nil => simp
  | cons w r ih =>
    rw [List.any_cons, ih]
    have e : ((fun y => eqV y (V.str x)) ∘ V.str) w = decide (w = x) := by
      show eqV (V.str w) (V.str x) = _
      show (w == x) = _
      by_cases h : w = x
      · rw [decide_eq_true h, h]
        exact beq_self_eq_true x
      · rw [decide_eq_false h]
        exact beq_false_of_ne h
    rw [e]
    by_cases h : w = x
    · subst h
      simp
    · have h2 : ¬ x = w := fun z => h z.symm
      simp [h, h2]
/-- the place of a row -/
theorem row_at {K : PySem.W.Frag} {ls : Str} {H : Hp} {v : V} {d : PyData} (hd : De K H v d) (ok : okR ls d = true) : ∀ H2, Same H H2 → ∀ R : VK, R (.str (placeOf d)) H2 → rIx K v (.int 0) H2 R := by
  obtain ⟨px, pb, pc, he, hTL, hpl, _, _⟩ := okR_elems ok
  intro H2 sm R q
  cases hd with
  | @lst a1 vs ds1 ha1 hds =>
    have he' : ds1 = [.str px, pb, pc] := he
    subst he'
    cases hds with
    | @cons v0 vr _ _ h0 t0 =>
      cases h0
      rw [hpl] at q
      exact .inl ⟨a1, _, 0, _, rfl, rfl, .inl (.inl (sm _ _ ha1)), atI_nat (j := 0) rfl, q⟩
  | @tup a1 vs ds1 ha1 hds =>
    have he' : ds1 = [.str px, pb, pc] := he
    subst he'
    cases hds with
    | @cons v0 vr _ _ h0 t0 =>
      cases h0
      rw [hpl] at q
      exact .inr (.inl ⟨a1, _, 0, _, rfl, rfl, .inl (.inl (sm _ _ ha1)), atI_nat (j := 0) rfl, q⟩)
  | _ => cases hTL
def spDue (K : PySem.W.Frag) : Sp := fun vs H Q _ => ∃ (vL : V) (a : Addr) (L : PyData) (xs : List V) (ds : List PyData), vs = [vL, .ref a] ∧ De K H vL L ∧ (∀ z, L = .str z → z.cps.all (· < 128) = true ∧ z.cps.size ≤ 1000) ∧ Small L ∧
  H a = some (.lst xs) ∧ DeAll K H xs ds ∧ (∀ d ∈ ds, Fit d ∧ FitP d) ∧ xs.length ≤ 5000 ∧ ∀ (H' : Hp) (t : Addr), Same H H' → H' t = some (.tup (ansV L (way L ds))) → Q (.ref t) H'
theorem way_lone {ls : Str} {L : PyData} {ds : List PyData} (h1 : okLd L = true) (e : strOf L = ls) (h2 : 1 ≤ ds.length ∧ ds.length ≤ 2000) (h3 : scan ls [] 0 ds = none) : way L ds = (match lone (sortW ls (ds.map placeOf)) with
    | some p => .lone p
    | none => .fine) := by
  unfold way
  rw [if_pos h1, if_pos h2, e, h3]
  all_goals rfl
theorem way_row {ls : Str} {L : PyData} {ds : List PyData} {i : Nat} (h1 : okLd L = true) (e : strOf L = ls) (h2 : 1 ≤ ds.length ∧ ds.length ≤ 2000) (h3 : scan ls [] 0 ds = some i) : way L ds = .row i := by
  unfold way
  rw [if_pos h1, if_pos h2, e, h3]
structure DLoop (ls : Str) (a b : Addr) (H : Hp) (ds : List PyData) (i : Nat) (σ : St) (G : Hp) : Prop where
  sl : ∃ x3, σ = [some (.str ls), some (.ref a), some (.ref b), x3, none]
  sm : Same H G
  at_ : G b = some (.lst (((ds.take i).map placeOf).map V.str))
  sc : scan ls [] 0 ds = scan ls ((ds.take i).map placeOf) i (ds.drop i)
  ov : ∀ d ∈ ds.take i, OverL ls (placeOf d)
section
variable {P : Program} {w : World} {K : PySem.W.Frag} {mg : Str → Option Value} {base : Heap} {f fA fR fO : Addr} {fd fdA fdR fdO : FuncData}
theorem sc38 : FnScope ["letters", "rows", "places", "number", "place"] ["letters", "rows"] (defScope (top 38)) := ⟨rfl, rfl, rfl, by decide +kernel, rfl, by decide +kernel, by decide +kernel⟩
theorem ok_due (F : Fun K "_law_due" "_law_due" (top 38) f fd) (gRp : mg "repr" = none) (gN : mg "len" = none) (gRg : mg "range" = none) (hsys : ∃ o, K.lookup sysModules = some o)
    (gA : mg "_law_are_letters" = some (.ref fA)) (kA : PySem.W.keepIn K (.ref fA) = true) (GA : FnOk P w K mg base CX0 1 fA fdA ["value"] (spLet K)) (bA : Binds K fdA ["value"] [])
    (gR : mg "_law_is_row" = some (.ref fR)) (kR : PySem.W.keepIn K (.ref fR) = true) (GR : FnOk P w K mg base CX0 1 fR fdR ["letters", "row"] (spRowL K)) (bR : Binds K fdR ["letters", "row"] [])
    (gO : mg "_law_in_order" = some (.ref fO)) (kO : PySem.W.keepIn K (.ref fO) = true) (GO : FnOk P w K mg base CX0 1 fO fdO ["letters", "words"] (spOrdL K)) (bO : Binds K fdO ["letters", "words"] []) :
    FnG P w K mg base CX0 2 f fd ["letters", "rows"] (spDue K) := by
  refine FnG.ok F sc38 (fun vs H Q E h => ?_) (fun cdv A outer s H vs Q E hg hr h => ?_)
  · obtain ⟨vL, a, L, xs, ds, rfl, _⟩ := h
    rfl
  · obtain ⟨vL, a, L, xs, ds, rfl, hL, hasc, hsm, ha, hda, hfit, hz, kk⟩ := h
    have hu64 := hr.units
    refine ⟨_, pss_cons (ps_if (pt_not (pt_val (pe_call GA hr (by rfl) gA kA bA .nil pass0 (pa_cons (pv 0) pa_nil)))) (pss_one (ps_ret (pe_tup (pa_cons pe_str (pa_cons (pe_callB (r := rRepD K) (call_repD hg hu64 hsys) (by rfl) gRp PyProof.Rows.boot_repr (pa_cons (pv 0) pa_nil)) pa_nil))))) pss_nil)
      (pss_cons (ps_if (pt_not (pt_chain op_le op_le pe_int (pe_callB call_len_seq (by rfl) gN PySem.boot_len (pa_cons (pv 1) pa_nil)) pe_int)) (pss_one (ps_ret (pe_tup (pa_cons pe_str (pa_cons (pe_callB call_len_seq (by rfl) gN PySem.boot_len (pa_cons (pv 1) pa_nil)) (pa_cons pe_int pa_nil)))))) pss_nil)
      (pss_cons (ps_set (i := 2) sc38.nd rfl (Or.inl rfl) (pe_lst pa_nil))
      (pss_cons (ps_for PassesOwn.never rfl (pi_range1 (by rfl) gRg (pa_cons (pe_callB call_len_seq (by rfl) gN PySem.boot_len (pa_cons (pv 1) pa_nil)) pa_nil)) (pg_name (i := 3) sc38.nd rfl (Or.inl rfl))
        (pss_cons (ps_if (pw_or (pt_not (pt_val (pe_call GR hr (by rfl) gR kR bR .nil pass0 (pa_cons (pv 0) (pa_cons (pe_ix ix_list (pv 1) (pv 3) (fun _ _ => rfl)) pa_nil))))) (pw_or1 (pt_cmpR op_in_seq (pe_ix ix_seq (pe_ix ix_list (pv 1) (pv 3) (fun _ _ => rfl)) pe_int (fun _ _ => rfl)) (pv 2) (by rfl)))).pt
            (pss_one (ps_ret (pe_tup (pa_cons pe_str (pa_cons (pv 3) (pa_cons pe_bl pa_nil)))))) pss_nil)
          (pss_one (ps_expr (pe_bm PySem.F.plainAttrs_list PySem.F.slot_list_append PySem.F.type_list_append mt_append (pv 2) (pa_cons (pe_ix ix_seq (pe_ix ix_list (pv 1) (pv 3) (fun _ _ => rfl)) pe_int (fun _ _ => rfl)) pa_nil))))))
      (pss_cons (ps_for PassesOwn.never rfl (pi_list (pe_call GO hr (by rfl) gO kO bO .nil pass0 (pa_cons (pv 0) (pa_cons (pv 2) pa_nil)))) (pg_name (i := 4) sc38.nd rfl (Or.inl rfl))
        (pss_one (ps_if (pw_and (pt_cmpR op_ne (pv 4) pe_str (nomark _)) (pw_and1 (pt_cmpR op_notIn_seq (pe_slice sl_str (pv 4) po_none (po_some (pe_un un_neg pe_int))) (pv 2) (by rfl)))).pt (pss_one (ps_ret (pe_tup (pa_cons pe_str (pa_cons (pv 4) pa_nil))))) pss_nil)))
      (pss_one (ps_ret (pe_tup pa_nil))))))), ?_⟩
    have hlen := deAll_len hda
    have tup : ∀ (zs : List V) (H1 : Hp), zs.length ≤ 1000 → Same H H1 → ansV L (way L ds) = zs → zs.length ≤ sizeLine ∧ ∀ p, H1 p = none → Q (.ref p) (upd H1 p (.tup zs)) := fun zs H1 hz e1 ez =>
      ⟨Nat.le_trans hz (by decide), fun p np => kk _ p (e1.trans (upd_new np)) (by rw [upd_same, ez])⟩
    refine ⟨vL, rfl, vL, L, rfl, hL, hasc, fun H1 s1 => ⟨_, rfl, ?_⟩⟩
    cases c1 : okLd L with
    | false =>
      refine iteT ⟨vL, rfl, vL, L, rfl, de_mono s1 _ _ hL, hsm.sh, hsm.dp, Nat.le_trans hsm.ln (by decide), tup _ H1 (by show 2 ≤ 1000; decide) s1 ?_⟩
      have z : way L ds = .letters := by
        unfold way
        rw [if_neg (by rw [c1]; decide)]
      rw [z]
      rfl
    | true =>
    refine iteF ?_
    obtain ⟨ls, rfl⟩ : ∃ z, L = .str z := by
      cases L with
      | str z => exact ⟨z, rfl⟩
      | _ => cases c1
    cases hL
    have S1 : SqL K H1 a xs := .inl (.inl (s1 _ _ ha))
    have els : strOf (.str ls) = ls := rfl
    refine ⟨V.ref a, rfl, a, xs, rfl, .inl S1, 1, (xs.length : Int), rfl, rfl, _, rfl, ?_⟩
    have toomany : ¬ (1 ≤ ds.length ∧ ds.length ≤ 2000) → ansV (.str ls) (way (.str ls) ds) = [.str "places", .int (xs.length : Nat), .int 2000] := fun no => by
      have z : way (.str ls) ds = .places ds.length := by
        unfold way
        rw [if_pos c1, if_neg no]
      rw [z, hlen]
      rfl
    have h1a := s1 _ _ ha
    refine ite2 (fun c2 => ?_) (fun c2 => ⟨_, rfl, iteT ⟨V.ref a, rfl, a, xs, rfl, .inl S1, tup _ H1 (by show 3 ≤ 1000; decide) s1 (toomany fun z => c2 (decide_eq_true (by omega)))⟩⟩)
    have c2' : 1 ≤ (xs.length : Int) := of_decide_eq_true c2
    refine ⟨(xs.length : Int), 2000, rfl, rfl, _, rfl, ?_⟩
    by_cases c3 : xs.length ≤ 2000
    case neg =>
      rw [decide_eq_false (show ¬ (xs.length : Int) ≤ 2000 by omega)]
      exact iteT ⟨V.ref a, rfl, a, xs, rfl, .inl S1, tup _ H1 (by show 3 ≤ 1000; decide) s1 (toomany fun z => c3 (by omega))⟩
    rw [decide_eq_true (show (xs.length : Int) ≤ 2000 by omega)]
    refine iteF ⟨Nat.zero_le _, fun b nb => ?_⟩
    have nbH : H b = none := s1.free nb
    have s2 := s1.trans (upd_new (o := .lst []) nb)
    have hb2 : upd H1 b (.lst []) b = some (.lst []) := upd_same
    generalize upd H1 b (.lst []) = H2 at s2 hb2
    have b62 : (2000 : Int) < 2 ^ 62 := by decide
    have bs : (5000 : Nat) < sizeLine := by decide
    have h12 : 1 ≤ ds.length ∧ ds.length ≤ 2000 := by omega
    refine ⟨V.ref a, rfl, a, xs, rfl, .inl (.inl (.inl (s2 _ _ ha))), (xs.length : Int), rfl, by omega, by omega, for_it walk_range (DLoop ls a b H ds) ⟨⟨none, rfl⟩, s2, hb2, rfl, fun d h => absurd h (by simp)⟩ (fun _ _ _ _ _ => trivial) ?_ ?_⟩
    · rintro i x σ G G2 hi ⟨⟨x3, rfl⟩, sm, hb, hsc, hov⟩ ⟨rfl, rfl⟩
      have hil : i < xs.length := by omega
      obtain ⟨v, hv⟩ : ∃ v, xs[i]? = some v := ⟨_, List.getElem?_eq_getElem hil⟩
      obtain ⟨d, hdi, hd⟩ := deAll_at hda hv
      have ei : (0 : Int) + (i : Int) = (i : Int) := by omega
      have row : ∀ G3, Same H G3 → ∀ R : VK, R v G3 → rIxL K (.ref a) (.int (0 + (i : Int))) G3 R := fun G3 s3 R q => ⟨a, xs, _, v, rfl, rfl, .inl (.inl (s3 _ _ ha)), by rw [ei]; exact atI_nat hv, q⟩
      have ed : ds.drop i = d :: ds.drop (i + 1) := by
        have z := List.drop_eq_getElem_cons (show i < ds.length by omega)
        have e2 : ds[i] = d := by
          rw [List.getElem?_eq_getElem (show i < ds.length by omega)] at hdi
          exact Option.some.inj hdi
        rw [z, e2]
      have et : ds.take (i + 1) = ds.take i ++ [d] := by
        rw [List.take_add_one, hdi]
        rfl
      rw [ed] at hsc
      obtain ⟨fit, fitP⟩ := hfit d (List.mem_of_getElem? hdi)
      refine ⟨V.str ls, rfl, V.ref a, rfl, V.int (0 + (i : Int)), rfl, row G2 sm _ ⟨ls, v, d, rfl, de_mono sm _ _ hd, fit, fitP, fun G3 s3 => ⟨_, rfl, ?_⟩⟩⟩
      have sm3 := sm.trans s3
      have bad : ∀ G4, Same H G4 → ¬ (okR ls d = true ∧ placeOf d ∉ (ds.take i).map placeOf) → ([V.str "row", .int (0 + (i : Int)), .bl true].length ≤ sizeLine ∧ ∀ p, G4 p = none → Q (.ref p) (upd G4 p (.tup [.str "row", .int (0 + (i : Int)), .bl true]))) := fun G4 s4 no => by
        have z : scan ls [] 0 ds = some i := by
          rw [hsc]
          show (if okR ls d = true ∧ placeOf d ∉ (ds.take i).map placeOf then _ else _) = _
          rw [if_neg no]
        exact tup _ G4 (by show 3 ≤ 1000; decide) s4 (by rw [way_row c1 els h12 z, ei]; rfl)
      cases eR : okR ls d with
      | false => exact iteT (iteT ⟨_, rfl, bad G3 sm3 fun z => by rw [eR] at z; exact absurd z.1 (by decide)⟩)
      | true =>
      have hb3 := s3 _ _ hb
      have hix := row_at (de_mono sm3 _ _ hd) eR
      refine iteF ⟨V.ref a, rfl, V.int (0 + (i : Int)), rfl, row G3 sm3 _ (hix G3 (Same.refl _) _ ⟨V.ref b, rfl, b, _, rfl, .inl (.inl (.inl hb3)), rfl, flat_strs _, _, rfl, ?_⟩)⟩
      have ein : (if false = true then !inV (.str (placeOf d)) (((ds.take i).map placeOf).map V.str) else inV (.str (placeOf d)) (((ds.take i).map placeOf).map V.str)) = decide (placeOf d ∈ (ds.take i).map placeOf) := inV_strs _ _
      rw [ein]
      refine ite2 (fun c => ⟨_, rfl, bad G3 sm3 fun z => z.2 (of_decide_eq_true c)⟩) (fun c => ?_)
      have hm : placeOf d ∉ (ds.take i).map placeOf := fun z => c (decide_eq_true z)
      refine ⟨V.ref b, rfl, .inl ⟨rfl, _, .inl (.inl hb3)⟩, V.ref a, rfl, V.int (0 + (i : Int)), rfl, row G3 sm3 _ (hix G3 (Same.refl _) _ ⟨b, _, _, rfl, rfl, hb3, ?_, ⟨_, rfl⟩, ?_, ?_, ?_, ?_⟩)⟩
      · rw [List.length_map, List.length_map, List.length_take]
        omega
      · exact fun c o e => by
          rw [upd_ne (ne_of_none e nbH)]
          exact sm3 _ _ e
      · rw [et, List.map_append, List.map_append]
        exact upd_same
      · rw [hsc, et, List.map_append]
        show (if okR ls d = true ∧ placeOf d ∉ (ds.take i).map placeOf then _ else _) = _
        rw [if_pos ⟨eR, hm⟩]
        rfl
      · intro e he
        rw [et] at he
        rcases List.mem_append.mp he with he | he
        · exact hov e he
        · obtain rfl : e = d := by simpa using he
          obtain ⟨px, pb, pc, _, _, hpl, hp1, hp2⟩ := okR_elems eR
          rw [hpl]
          exact ⟨hp1, hp2⟩
    · rintro σ G ⟨⟨x3, rfl⟩, sm, hb, hsc, hov⟩
      have en : (xs.length : Int).toNat = ds.length := by omega
      rw [en] at hb hsc hov
      rw [List.take_length] at hb hsc hov
      rw [List.drop_length] at hsc
      have hsc : scan ls [] 0 ds = none := hsc
      have hov2 : ∀ y ∈ ds.map placeOf, OverL ls y := fun y hy => by
        obtain ⟨d, hd, rfl⟩ := List.mem_map.mp hy
        exact hov d hd
      refine ⟨V.str ls, rfl, V.ref b, rfl, ls, b, ds.map placeOf, rfl, .inl (.inl hb), hov2, by rw [List.length_map]; omega, fun G2 q sm2 nq hq => ?_⟩
      have hperm := sortW_perm ls (ds.map placeOf)
      have hway := way_lone c1 els h12 hsc
      generalize ds.map placeOf = ps at hb hov2 hperm hway hq
      generalize sortW ls ps = qs at hperm hway hq
      have smq := sm.trans sm2
      have hbq := sm2 _ _ hb
      refine ⟨q, rfl, ⟨_, .inl (.inl hq)⟩, for_it (walk_list (K := K) (xs := qs.map V.str)) (fun i σ G3 => (∃ x4 : Option V, σ = [some (.str ls), some (.ref a), some (.ref b), x3, x4]) ∧ Same G2 G3 ∧ ∀ j p, j < i → qs[j]? = some p → isLone qs p = false)
        ⟨⟨_, rfl⟩, Same.refl _, fun j p h => absurd h (Nat.not_lt_zero _)⟩ (fun i σ G3 _ z => .inl (.inl (z.2.1 _ _ hq))) ?_ ?_⟩
      · rintro i x σ G3 G4 hi ⟨⟨x4, rfl⟩, s3, hno⟩ ⟨rfl, hx⟩
        obtain ⟨p, hp, rfl⟩ : ∃ p, qs[i]? = some p ∧ V.str p = x := by
          rw [List.getElem?_map] at hx
          cases q : qs[i]? with
          | none =>
            rw [q] at hx
            cases hx
          | some p =>
            rw [q] at hx
            exact ⟨p, rfl, Option.some.inj hx⟩
        have hpo := hov2 p (hperm.mem_iff.mp (List.mem_of_getElem? hp))
        have hpl : p.length ≤ sizeLine := Nat.le_trans hpo.1 (by decide)
        have next : isLone qs p = false → (∃ x4 : Option V, [some (.str ls), some (.ref a), some (.ref b), x3, some (V.str p)] = [some (.str ls), some (.ref a), some (.ref b), x3, x4]) ∧ Same G2 G4 ∧ ∀ j p, j < i + 1 → qs[j]? = some p → isLone qs p = false := fun nl =>
          ⟨⟨_, rfl⟩, s3, fun j r hj hr => by
            by_cases hji : j = i
            · subst hji
              rw [hp] at hr
              obtain rfl := Option.some.inj hr
              exact nl
            · exact hno j r (by omega) hr⟩
        refine ⟨V.str p, rfl, rfl, _, rfl, ?_⟩
        by_cases he : p = Str.ofString ""
        · have hd : (!decide (V.str p = V.str (Str.ofString ""))) = false := by
            rw [he]
            simp
          rw [hd]
          refine iteF (next ?_)
          unfold isLone
          rw [he]
          simp
        · have hd : (!decide (V.str p = V.str (Str.ofString ""))) = true := by
            have z : ¬ V.str p = V.str (Str.ofString "") := fun z => he (by injection z)
            rw [decide_eq_false z]
            rfl
          rw [hd]
          refine iteT ⟨V.str p, rfl, 1, rfl, (-1 : Int), rfl, p, rfl, hpl, ?_⟩
          rw [cut_init]
          refine ⟨V.ref b, rfl, b, _, rfl, .inl (.inl (.inl (s3 _ _ hbq))), rfl, flat_strs _, _, rfl, ?_⟩
          have ein : (if true = true then !inV (.str (initS p)) (ps.map V.str) else inV (.str (initS p)) (ps.map V.str)) = !decide (initS p ∈ ps) := by
            rw [if_pos rfl, inV_strs]
          rw [ein]
          by_cases hm : initS p ∈ ps
          · rw [decide_eq_true hm]
            refine iteF (next ?_)
            unfold isLone
            rw [decide_eq_true (hperm.mem_iff.mpr hm)]
            simp
          · rw [decide_eq_false hm]
            have hl : isLone qs p = true := by
              unfold isLone
              rw [decide_eq_true he, decide_eq_false (fun z => hm (hperm.mem_iff.mp z))]
              rfl
            rw [lone_first hno hp hl] at hway
            exact iteT ⟨V.str p, rfl, tup [.str "lone", .str p] G4 (by show 2 ≤ 1000; decide) (smq.trans s3) (by rw [hway]; rfl)⟩
      · rintro σ G3 ⟨⟨x4, rfl⟩, s3, hno⟩
        rw [List.length_map] at hno
        rw [lone_none hno] at hway
        exact tup [] G3 (by show 0 ≤ 1000; decide) (smq.trans s3) (by rw [hway]; rfl)
end
end SK
namespace SK
open PySem PySem.Spec PyProof.Rows L2 LamX NdefX
open K0 (De DeAll XCl spX withX)
/-! ### expressions that make data -/
def Al (K : PySem.W.Frag) (H0 : Hp) (σ : St) (te : TE) (d : PyData) : Prop := ∀ (H : Hp) (R : VK), Same H0 H → (∀ H' v, Same H H' → De K H' v d → R v H') → te σ H R
def AlAll (K : PySem.W.Frag) (H0 : Hp) (σ : St) (ta : TA) (ds : List PyData) : Prop := ∀ (H : Hp) (R : List V → Hp → Prop), Same H0 H → (∀ H' vs, Same H H' → DeAll K H' vs ds → R vs H') → ta σ H R
section
variable {K : PySem.W.Frag} {H0 : Hp} {σ : St}
theorem Al.mono {H1 : Hp} {te : TE} {d : PyData} (h : Al K H0 σ te d) (s : Same H0 H1) : Al K H1 σ te d := fun H R s1 k => h H R (s.trans s1) k
theorem al_non : Al K H0 σ (tC .non) .none := fun H R _ k => k H _ (Same.refl _) .non
theorem al_bl {b : Bool} : Al K H0 σ (tC (.bl b)) (.bool b) := fun H R _ k => k H _ (Same.refl _) (.bl b)
theorem al_int {i : Int} : Al K H0 σ (tC (.int i)) (.int i) := fun H R _ k => k H _ (Same.refl _) (.int i)
theorem al_str {x : Str} : Al K H0 σ (tC (.str x)) (.str x) := fun H R _ k => k H _ (Same.refl _) (.str x)
theorem al_var {i : Nat} {v : V} {d : PyData} (h : σ[i]? = some (some v)) (hd : De K H0 v d) : Al K H0 σ (tVar i) d := fun H R s k => ⟨v, h, k H v (Same.refl _) (de_mono s _ _ hd)⟩
theorem al_new : Al K H0 σ tDNewK (.dict []) := fun H R s k p np => k _ _ (upd_new np) (.dic upd_same)
theorem al_nil : AlAll K H0 σ tNil [] := fun H R s k => k H [] (Same.refl _) .nil
theorem al_cons {te : TE} {ta : TA} {d : PyData} {ds : List PyData} (h1 : Al K H0 σ te d) (h2 : AlAll K H0 σ ta ds) : AlAll K H0 σ (tCons te ta) (d :: ds) := fun H R s k => by
  refine h1 H _ s fun H1 v s1 hd => ?_
  exact h2 H1 _ (s.trans s1) fun H2 vs s2 hds => k H2 (v :: vs) (s1.trans s2) (.cons (de_mono s2 _ _ hd) hds)
theorem al_tup {ta : TA} {ds : List PyData} (h : AlAll K H0 σ ta ds) (hz : ds.length ≤ 1000) : Al K H0 σ (tTup ta) (.tuple ds) := fun H R s k => by
  refine h H _ s fun H1 vs s1 hds => ⟨?_, fun p np => ?_⟩
  · rw [deAll_len hds]
    exact Nat.le_trans hz (by decide)
  · exact k _ _ (s1.trans (upd_new np)) (.tup upd_same (de_monoAll (upd_new np) _ _ hds))
theorem al_lst {ta : TA} {ds : List PyData} (h : AlAll K H0 σ ta ds) (hz : ds.length ≤ 1000) : Al K H0 σ (tLst ta) (.list ds) := fun H R s k => by
  refine h H _ s fun H1 vs s1 hds => ⟨?_, fun p np => ?_⟩
  · rw [deAll_len hds]
    exact Nat.le_trans hz (by decide)
  · exact k _ _ (s1.trans (upd_new np)) (.lst upd_same (de_monoAll (upd_new np) _ _ hds))
theorem deAll_app {H : Hp} : ∀ {xs ys : List V} {ds es : List PyData}, DeAll K H xs ds → DeAll K H ys es → DeAll K H (xs ++ ys) (ds ++ es)
  | _, _, _, _, .nil, h => h
  | _, _, _, _, .cons h t, h2 => .cons h (deAll_app t h2)
theorem al_cat {t1 t2 : TE} {ds es : List PyData} (h1 : Al K H0 σ t1 (.list ds)) (h2 : Al K H0 σ t2 (.list es)) (hz : ds.length + es.length ≤ 1000) : Al K H0 σ (tOp rCat t1 t2) (.list (ds ++ es)) := fun H R s k => by
  refine h1 H _ s fun H1 v s1 hd => ?_
  refine h2 H1 _ (s.trans s1) fun H2 u s2 he => ?_
  cases de_mono s2 _ _ hd with
  | @lst a xs _ ha hx =>
    cases he with
    | @lst b ys _ hb hy =>
      refine ⟨a, b, xs, ys, rfl, rfl, ha, hb, ?_, fun p np => ?_⟩
      · rw [deAll_len hx, deAll_len hy]
        exact Nat.le_trans hz (by decide)
      · exact k _ _ ((s1.trans s2).trans (upd_new np)) (.lst upd_same (de_monoAll (upd_new np) _ _ (deAll_app hx hy)))
theorem al_addS {t1 t2 : TE} {x y : Str} (h1 : Al K H0 σ t1 (.str x)) (h2 : Al K H0 σ t2 (.str y)) (hz : x.length + y.length ≤ 10000) : Al K H0 σ (tOp (fun x y H Q => ∃ i j, x = .str i ∧ y = .str j ∧ i.length + j.length ≤ sizeLine ∧ Q (.str (i ++ j)) H) t1 t2) (.str (x ++ y)) := fun H R s k => by
  refine h1 H _ s fun H1 v s1 hd => ?_
  refine h2 H1 _ (s.trans s1) fun H2 u s2 he => ?_
  cases hd
  cases he
  exact ⟨x, y, rfl, rfl, Nat.le_trans hz (by decide), k H2 _ (s1.trans s2) (.str _)⟩
/-- a text, some times -/
def rMulS : R2 := fun x y H Q => ∃ (z : Str) (n : Int), x = .str z ∧ y = .int n ∧ z.length ≤ 16 ∧ 0 ≤ n ∧ n ≤ 1000 ∧ Q (.str (Txt.mul z n)) H
theorem op_mulS {X : Cx} : OpR X (binaryOp .Mult) rMulS := by
  intro pins s σ H x y v u Q I rx ry h
  obtain ⟨z, n, rfl, rfl, hz, h0, h1, q⟩ := h
  obtain ⟨t, rfl⟩ := rx
  obtain ⟨t', rfl⟩ := ry
  have b63 : (1000 : Int) < 2 ^ 63 := by decide
  exact SB.mul (mulOk_of 16 1000 hz (by omega) (by omega) (by decide) (by decide)) fun t' k => ⟨.str _, H, I.tok _, ⟨_, rfl⟩, q⟩
end
/-! ### data that stays but for the pen -/
mutual
theorem de_but {K : PySem.W.Frag} {H H' : Hp} {p : Addr} {kv : Key × V} {kvs : List (Key × V)} (hp : H p = some (.dK (kv :: kvs))) (m : SameBut p H H') : ∀ {d : PyData} {v : V}, De K H v d → De K H' v d
  | _, _, .non => .non
  | _, _, .bl b => .bl b
  | _, _, .int i => .int i
  | _, _, .str x => .str x
  | _, _, .lst ha hd => .lst (m _ _ (ne_of ha hp (by intro z; cases z)) ha) (de_butAll hp m hd)
  | _, _, .tup ha hd => .tup (m _ _ (ne_of ha hp (by intro z; cases z)) ha) (de_butAll hp m hd)
  | _, _, .dic ha => .dic (m _ _ (ne_of ha hp (by intro z; cases z)) ha)
theorem de_butAll {K : PySem.W.Frag} {H H' : Hp} {p : Addr} {kv : Key × V} {kvs : List (Key × V)} (hp : H p = some (.dK (kv :: kvs))) (m : SameBut p H H') : ∀ {ds : List PyData} {vs : List V}, DeAll K H vs ds → DeAll K H' vs ds
  | _, _, .nil => .nil
  | _, _, .cons h1 h2 => .cons (de_but hp m h1) (de_butAll hp m h2)
end
theorem deAll_mem {K : PySem.W.Frag} {H : Hp} {y : V} : ∀ {xs : List V} {ds : List PyData}, DeAll K H xs ds → y ∈ xs → ∃ d ∈ ds, De K H y d
  | _, _, .nil, h => absurd h (by simp)
  | _, _, .cons h t, hm => by
    rcases List.mem_cons.mp hm with rfl | hm
    · exact ⟨_, by simp, h⟩
    · obtain ⟨d, hd, he⟩ := deAll_mem t hm
      exact ⟨d, List.mem_cons_of_mem _ hd, he⟩
theorem deAll_drop {K : PySem.W.Frag} {H : Hp} : ∀ (n : Nat) {xs : List V} {ds : List PyData}, DeAll K H xs ds → DeAll K H (xs.drop n) (ds.drop n)
  | 0, _, _, h => h
  | _ + 1, _, _, .nil => .nil
  | n + 1, _, _, .cons _ t => deAll_drop n t
theorem deAll_take {K : PySem.W.Frag} {H : Hp} : ∀ (n : Nat) {xs : List V} {ds : List PyData}, DeAll K H xs ds → DeAll K H (xs.take n) (ds.take n)
  | 0, _, _, _ => .nil
  | _ + 1, _, _, .nil => .nil
  | n + 1, _, _, .cons h t => .cons h (deAll_take n t)
/-! ### what rows and letters hold -/
structure RowD (d : PyData) : Prop where
  f : Fit d
  p : FitP d
theorem fit_tup {ds : List PyData} (h : ∀ x, PyData.str x ∈ ds → x.cps.size ≤ 1000) : Fit (.tuple ds) := fun es e => by
  rcases e with e | e
  · injection e with e
    subst e
    exact h
  · cases e
theorem fit_lst {ds : List PyData} (h : ∀ x, PyData.str x ∈ ds → x.cps.size ≤ 1000) : Fit (.list ds) := fun es e => by
  rcases e with e | e
  · cases e
  · injection e with e
    subst e
    exact h
theorem row_flat {d : PyData} (h : isTL d = false) : RowD d := by
  refine ⟨fun es e => ?_, fun a b c e => ?_⟩
  · rcases e with rfl | rfl <;> cases h
  · cases d with
    | tuple ds => cases h
    | list ds => cases h
    | _ => cases e
theorem row_three {ds : List PyData} {a b c : PyData} (h : ds = [a, b, c]) (ha : ∀ x, a = .str x → x.cps.size ≤ 1000) (hb : Plain b) (hc : Plain c) : RowD (.tuple ds) ∧ RowD (.list ds) := by
  subst h
  have hs : ∀ x, PyData.str x ∈ [a, b, c] → x.cps.size ≤ 1000 := fun x hx => by
    simp only [List.mem_cons, List.mem_nil_iff, or_false] at hx
    rcases hx with hx | hx | hx
    · exact ha x hx.symm
    · subst hx
      cases hb
      decide +kernel
    · subst hx
      cases hc
      decide +kernel
  have hp : ∀ a' b' c', ([a, b, c] : List PyData) = [a', b', c'] → Plain b' ∧ Plain c' := fun a' b' c' e => by
    injection e with e1 e
    injection e with e2 e
    injection e with e3 _
    subst e2 e3
    exact ⟨hb, hc⟩
  exact ⟨⟨fit_tup hs, hp⟩, ⟨fit_lst hs, hp⟩⟩
theorem row_few {ds : List PyData} (hl : ds.length ≠ 3) (h : ∀ x, PyData.str x ∈ ds → x.cps.size ≤ 1000) : RowD (.tuple ds) ∧ RowD (.list ds) := by
  have hp : ∀ a b c, ds = [a, b, c] → Plain b ∧ Plain c := fun a b c e => absurd (by rw [e]; rfl) hl
  exact ⟨⟨fit_tup h, hp⟩, ⟨fit_lst h, hp⟩⟩
end SK
namespace SK
open PySem PySem.Spec PyProof.Rows L2 LamX NdefX
open K0 (De DeAll XCl spX withX)
/-! ### letters and rows with one fault, or none -/
structure LetD (L : PyData) : Prop where
  sm : Small L
  as : ∀ z, L = .str z → z.cps.all (· < 128) = true ∧ z.cps.size ≤ 26
  ok : PyData.strOk L.shown = true
def spSpoil (K : PySem.W.Frag) : Sp := fun vs H Q _ => ∃ (p l a : Addr) (ns : List Int) (k lf : Int) (ls : Str) (xs : List V) (ds : List PyData), vs = [.ref p, .str ls, .ref a] ∧ PenAt H p l ns k lf ∧ ns.length ≤ 63 ∧ 0 ≤ k ∧ k ≤ 90000 ∧ 0 ≤ lf ∧ LetD (.str ls) ∧ H a = some (.lst xs) ∧ DeAll K H xs ds ∧ (∀ d ∈ ds, RowD d) ∧ xs.length ≤ 500 ∧
  ∀ (H' : Hp) (k' lf' : Int) (t : Addr) (vL : V) (L : PyData) (a' : Addr) (xs' : List V) (ds' : List PyData), k' ≤ k + 5 → 0 ≤ k' → 0 ≤ lf' → SameBut p H H' → PenAt H' p l ns k' lf' → H' t = some (.tup [vL, .ref a']) → De K H' vL L → LetD L → H' a' = some (.lst xs') → DeAll K H' xs' ds' → (∀ d ∈ ds', RowD d) → xs'.length ≤ xs.length + 1 → Q (.ref t) H'
theorem Al.set {K : PySem.W.Frag} {H0 H : Hp} {σ : St} {te : TE} {i : Nat} {u : TS} {D : Ends} {d : PyData} (h : Al K H0 σ te d) (s : Same H0 H) (k : ∀ H' v, Same H H' → De K H' v d → u D (σ.set i (some v)) H') : tSeq (tAsg te (gName i)) u D σ H := h H _ s k
theorem tif_set {tc : TT} {ta tb : TE} {u : TS} {D : Ends} {σ : St} {H : Hp} {i : Nat} (PQ : Str → Prop) (h : ∀ R : VK, (∀ H' x, Same H H' → PQ x → R (.str x) H') → tIf tc ta tb σ H R) (k : ∀ H' x, Same H H' → PQ x → u D (σ.set i (some (.str x))) H') : tSeq (tAsg (tIf tc ta tb) (gName i)) u D σ H := h _ k
theorem ifS_two {c1 c2 : TT} {t r : TS} {D : Ends} {σ : St} {H : Hp} {x y : Bool} (h1 : ∀ R : Bool → Hp → Prop, R x H → c1 σ H R) (h2 : ∀ R : Bool → Hp → Prop, R y H → c2 σ H R) (k1 : x = true → y = true → t { D with nx := r D } σ H) (k2 : r D σ H) : tSeq (tIfS (tAnd c1 c2) t tNext) r D σ H := by
  refine h1 _ ?_
  cases x with
  | false => exact iteF k2
  | true =>
    refine iteT (h2 _ ?_)
    cases y with
    | false => exact iteF k2
    | true => exact iteT (k1 rfl rfl)
theorem ifS_one {c : TT} {t r : TS} {D : Ends} {σ : St} {H : Hp} (b : Bool) (h : ∀ R : Bool → Hp → Prop, R b H → c σ H R) (k1 : b = true → t { D with nx := r D } σ H) (k2 : b = false → r D σ H) : tSeq (tIfS c t tNext) r D σ H := by
  refine h _ ?_
  cases b with
  | false => exact iteF (k2 rfl)
  | true => exact iteT (k1 rfl)
def PW (K : PySem.W.Frag) (H : Hp) (xs : List V) : Prop := ∀ x ∈ xs, ∃ d, De K H x d ∧ RowD d
theorem PW.of {K : PySem.W.Frag} {H : Hp} {xs : List V} {ds : List PyData} (h : DeAll K H xs ds) (r : ∀ d ∈ ds, RowD d) : PW K H xs := fun x hx => by
  obtain ⟨d, hd, he⟩ := deAll_mem h hx
  exact ⟨d, he, r d hd⟩
theorem PW.all {K : PySem.W.Frag} {H : Hp} : ∀ {xs : List V}, PW K H xs → ∃ ds, DeAll K H xs ds ∧ ∀ d ∈ ds, RowD d
  | [], _ => ⟨[], .nil, fun d h => absurd h (by simp)⟩
  | x :: xs, h => by
    obtain ⟨ds, h1, h2⟩ := PW.all (xs := xs) fun y hy => h y (List.mem_cons_of_mem _ hy)
    obtain ⟨d, hd, r⟩ := h x (by simp)
    refine ⟨d :: ds, .cons hd h1, fun e he => ?_⟩
    rcases List.mem_cons.mp he with rfl | he
    · exact r
    · exact h2 e he
theorem PW.mono {K : PySem.W.Frag} {H H' : Hp} {xs : List V} (h : PW K H xs) (s : Same H H') : PW K H' xs := fun x hx => by
  obtain ⟨d, hd, r⟩ := h x hx
  exact ⟨d, de_mono s _ _ hd, r⟩
theorem PW.but {K : PySem.W.Frag} {H H' : Hp} {xs : List V} {p : Addr} {kv : Key × V} {kvs : List (Key × V)} (h : PW K H xs) (hp : H p = some (.dK (kv :: kvs))) (m : SameBut p H H') : PW K H' xs := fun x hx => by
  obtain ⟨d, hd, r⟩ := h x hx
  exact ⟨d, de_but hp m hd, r⟩
theorem PW.cut {K : PySem.W.Frag} {H : Hp} {xs : List V} {lo hi : Option Int} (h : PW K H xs) : PW K H (cutV xs lo hi) := fun x hx => h x (List.mem_of_mem_drop (List.mem_of_mem_take hx))
theorem PW.app {K : PySem.W.Frag} {H : Hp} {xs ys : List V} (h1 : PW K H xs) (h2 : PW K H ys) : PW K H (xs ++ ys) := fun x hx => by
  rcases List.mem_append.mp hx with hx | hx
  · exact h1 x hx
  · exact h2 x hx
theorem PW.one {K : PySem.W.Frag} {H : Hp} {y : V} {d : PyData} (h : De K H y d) (r : RowD d) : PW K H [y] := fun x hx => by
  obtain rfl : x = y := by simpa using hx
  exact ⟨d, h, r⟩
theorem cut_size {y : Str} {lo hi : Option Int} : (cutS y lo hi).cps.size ≤ y.cps.size := by
  unfold cutS
  rw [List.size_toArray, List.length_take, List.length_drop, Array.length_toList]
  omega
theorem len_head {xs : List V} {n : Nat} (h : n ≤ xs.length) : (cutV xs none (some (n : Int))).length = n := by
  unfold cutV
  rw [HT.sIx_none, HT.sIx_nat, List.drop_zero, Nat.sub_zero, List.length_take]
  omega
theorem len_tail {xs : List V} {n : Nat} (h : n ≤ xs.length) : (cutV xs (some (n : Int)) none).length = xs.length - n := by
  unfold cutV
  rw [HT.sIx_none, HT.sIx_nat, List.length_take, List.length_drop]
  omega
theorem len_tail1 {xs : List V} {n : Nat} (h : (n : Int) < (xs.length : Int)) : (cutV xs (some ((n : Int) + 1)) none).length = xs.length - (n + 1) := by
  have e : (n : Int) + 1 = ((n + 1 : Nat) : Int) := by omega
  rw [e, len_tail (by omega)]
theorem len_tail2 {xs : List V} {n : Nat} (h : n ≤ xs.length) : (cutV xs (some ((n : Int) + 1)) none).length ≤ xs.length - n := by
  have e : (n : Int) + 1 = ((n + 1 : Nat) : Int) := by omega
  unfold cutV
  rw [e, HT.sIx_none, HT.sIx_nat, List.length_take, List.length_drop]
  omega
theorem al_mulS {K : PySem.W.Frag} {H0 : Hp} {σ : St} {te : TE} {z : Str} {n : Int} (h : Al K H0 σ te (.str z)) (hz : z.length ≤ 16) (h0 : 0 ≤ n) (h1 : n ≤ 1000) : Al K H0 σ (tOp rMulS te (tC (.int n))) (.str (Txt.mul z n)) := fun H R s k => by
  refine h H _ s fun H1 v s1 hd => ?_
  cases hd
  exact ⟨z, n, rfl, rfl, hz, h0, h1, k H1 _ s1 (.str _)⟩
theorem al_sl {K : PySem.W.Frag} {H0 : Hp} {σ : St} {i : Nat} {z : Str} {j : Int} (h : σ[i]? = some (some (.str z))) (hz : z.length ≤ sizeLine) : Al K H0 σ (tSl rSlS (tVar i) tNoPart (tPart (tC (.int j)))) (.str (cutS z none (some j))) := fun H R _ k => ⟨.str z, h, j, rfl, z, rfl, hz, k H _ (Same.refl _) (.str _)⟩
theorem cut_one {z : Str} : (cutS z none (some 1)).length ≤ 1 := by
  show (cutS z none (some 1)).cps.size ≤ 1
  unfold cutS
  rw [List.size_toArray, HT.sIx_none, show ((1 : Int)) = ((1 : Nat) : Int) from rfl, HT.sIx_nat, Nat.sub_zero, List.length_take]
  omega
theorem cut_end {z : Str} : (cutS z (some (-1)) none).length ≤ 1 := by
  show (cutS z (some (-1)) none).cps.size ≤ 1
  have e : HT.sIx z.length 0 (some (-1)) = z.length - 1 := by
    show (if (-1 : Int) < 0 then (-1 + (z.length : Int)).toNat else min (-1 : Int).toNat z.length) = _
    rw [if_pos (by decide)]
    omega
  unfold cutS
  rw [List.size_toArray, HT.sIx_none, e, List.length_take]
  omega
def oddA (x : Str) : List PyData := [.none, .tuple [], .int 7, .str "", .dict [], .tuple [.str x], .tuple [.str x, .bool true], .tuple [.str x, .int 1, .bool false], .tuple [.str x, .bool true, .none], .tuple [.int 7, .bool true, .bool false]]
def oddB (x : Str) : List PyData := [.tuple [.str (x ++ "A"), .bool true, .bool false], .tuple [.none, .bool true, .bool false], .list [.str x, .str "True", .bool false], .tuple [.str x, .bool true, .bool false, .int 0]]
def oddC (x y : Str) : List PyData := [.tuple [.str y, .bool true, .bool false], .tuple [.str x, .bool true, .bool true], .tuple [.list [.str x], .bool true, .bool false]]
def oddE (x y : Str) : List PyData := [.tuple [.str y, .bool true, .bool false], .tuple [.str x, .bool true, .int 0]]
theorem odd_ok {x y z : Str} (hx : x.cps.size ≤ 200) (hy : y.cps.size ≤ 1000) (hz : z.cps.size ≤ 1000) : ∀ d ∈ ((oddA x ++ oddB x) ++ oddC x y) ++ oddE x z, RowD d := by
  have one : ∀ (u : Str) (a b : PyData), u.cps.size ≤ 1000 → Plain a → Plain b → RowD (.tuple [.str u, a, b]) := fun u a b hu ha hb => (row_three rfl (fun v e => by injection e with e; subst e; exact hu) ha hb).1
  have hx2 : x.cps.size ≤ 1000 := by omega
  have few : ∀ ds : List PyData, ds.length ≠ 3 → (∀ v, PyData.str v ∈ ds → v = x) → RowD (.tuple ds) := fun ds h1 h2 => (row_few h1 fun v hv => by rw [h2 v hv]; exact hx2).1
  have hA : (x ++ ("A" : Str)).cps.size ≤ 1000 := by
    have e : (x ++ ("A" : Str)).cps = x.cps ++ ("A" : Str).cps := Str.cps_append _ _
    rw [e, Array.size_append]
    have e2 : (("A" : Str)).cps.size = 1 := by decide +kernel
    omega
  intro d hd
  simp only [oddA, oddB, oddC, oddE, List.mem_append, List.mem_cons, List.mem_nil_iff, or_false] at hd
  rcases hd with ((((rfl | rfl | rfl | rfl | rfl | rfl | rfl | rfl | rfl | rfl) | (rfl | rfl | rfl | rfl)) | (rfl | rfl | rfl)) | (rfl | rfl))
  · exact row_flat rfl
  · exact few [] (by decide) (fun v h => absurd h (by simp))
  · exact row_flat rfl
  · exact row_flat rfl
  · exact row_flat rfl
  · exact few _ (by show (1 : Nat) ≠ 3; decide) (fun v h => by simpa using h)
  · exact few _ (by show (2 : Nat) ≠ 3; decide) (fun v h => by simpa using h)
  · exact one _ _ _ hx2 .one (.bl _)
  · exact one _ _ _ hx2 (.bl _) .non
  · exact (row_three rfl (fun v e => by cases e) (.bl _) (.bl _)).1
  · exact one _ _ _ hA (.bl _) (.bl _)
  · exact (row_three rfl (fun v e => by cases e) (.bl _) (.bl _)).1
  · exact (row_three rfl (fun v e => by injection e with e; subst e; exact hx2) .tr (.bl _)).2
  · exact few _ (by show (4 : Nat) ≠ 3; decide) (fun v h => by simpa using h)
  · exact one _ _ _ hy (.bl _) (.bl _)
  · exact one _ _ _ hx2 (.bl _) (.bl _)
  · exact (row_three rfl (fun v e => by cases e) (.bl _) (.bl _)).1
  · exact one _ _ _ hz (.bl _) (.bl _)
  · exact one _ _ _ hx2 (.bl _) .zero
section
variable {P : Program} {w : World} {K : PySem.W.Frag} {mg : Str → Option Value} {base : Heap} {f fD fP fR : Addr} {fd fdD fdP fdR : FuncData}
theorem sc39 : FnScope ["pen", "letters", "rows", "way", "at", "odd", "place"] ["pen", "letters", "rows"] (defScope (top 39)) := ⟨rfl, rfl, rfl, by decide +kernel, rfl, by decide +kernel, by decide +kernel⟩
theorem ok_spoil (F : Fun K "_law_spoilt" "_law_spoilt" (top 39) f fd) (gN : mg "len" = none) (gD : mg "_law_draw" = some (.ref fD)) (kD : PySem.W.keepIn K (.ref fD) = true) (GD : FnOk P w K mg base CX0 1 fD fdD ["pen", "many"] spDraw)
    (bD : Binds K fdD ["pen", "many"] []) (gP : mg "_law_pick" = some (.ref fP)) (kP : PySem.W.keepIn K (.ref fP) = true) (GP : FnOk P w K mg base CX0 2 fP fdP ["pen", "items"] spPick) (bP : Binds K fdP ["pen", "items"] [])
    (gR : mg "_law_is_row" = some (.ref fR)) (kR : PySem.W.keepIn K (.ref fR) = true) (GR : FnOk P w K mg base CX0 1 fR fdR ["letters", "row"] (spRowL K)) (bR : Binds K fdR ["letters", "row"] []) : FnOk P w K mg base CX0 3 f fd ["pen", "letters", "rows"] (spSpoil K) := by
  refine F.ok sc39 (fun vs H Q E h => ?_) (fun cdv A outer s H vs Q E hr h => ?_)
  · obtain ⟨p, l, a, ns, k, lf, ls, xs, ds, rfl, _⟩ := h
    rfl
  · obtain ⟨p, l, a, ns, k, lf, ls, xs, ds, rfl, hp, hn, hk0, hk1, hf, hL, ha, hda, hrow, hz, kk⟩ := h
    have hr1 : Room 1 _ := hr.mono (by decide)
    refine ⟨_, (pss_cons (ps_par (i := 3) (j := 4) rfl sc39.nd rfl rfl (by decide) rfl rfl (pa_cons (pe_call GD hr1 (by rfl) gD kD bD .nil pass0 (pa_cons (pv 0) (pa_cons pe_int pa_nil))) (pa_cons (pe_call GD hr1 (by rfl) gD kD bD .nil pass0 (pa_cons (pv 0) (pa_cons (pe_op op_add (pe_callB call_len_seq (by rfl) gN PySem.boot_len (pa_cons (pv 2) pa_nil)) pe_int) pa_nil))) pa_nil)) rfl)
      (pss_cons (ps_if (pt_cmpR op_eq (pv 3) pe_int (nomark _)) (pss_cons (ps_set (i := 5) sc39.nd rfl (Or.inl rfl) (pe_lst (pa_cons pe_non (pa_cons pe_str (pa_cons pe_str (pa_cons pe_str (pa_cons pe_str (pa_cons pe_str (pa_cons pe_str (pa_cons pe_int (pa_cons pe_bl (pa_cons (pe_lst (pa_cons pe_str (pa_cons pe_str pa_nil))) (pa_cons (pe_tup (pa_cons pe_str (pa_cons pe_str pa_nil))) (pa_cons pe_dnewK (pa_cons pe_str pa_nil))))))))))))))) (pss_one (ps_ret (pe_tup (pa_cons (pe_call GP hr (by rfl) gP kP bP .nil pass0 (pa_cons (pv 0) (pa_cons (pv 5) pa_nil))) (pa_cons (pv 2) pa_nil)))))) pss_nil)
      (pss_cons (ps_if (pw_and (pt_cmpR op_eq (pv 3) pe_int (nomark _)) (pw_and1 (pt_cmpR op_lt (pv 4) (pe_callB call_len_seq (by rfl) gN PySem.boot_len (pa_cons (pv 2) pa_nil)) (nomark _)))).pt (pss_one (ps_ret (pe_tup (pa_cons (pv 1) (pa_cons (pe_op op_cat (pe_slice sl_list (pv 2) po_none (po_some (pv 4))) (pe_slice sl_list (pv 2) (po_some (pe_op op_add (pv 4) pe_int)) po_none)) pa_nil))))) pss_nil)
      (pss_cons (ps_set (i := 6) sc39.nd rfl (Or.inl rfl) (pe_ifExp (pw_and (pt_cmpR op_lt (pv 4) (pe_callB call_len_seq (by rfl) gN PySem.boot_len (pa_cons (pv 2) pa_nil)) (nomark _)) (pw_and1 (pt_val (pe_call GR hr1 (by rfl) gR kR bR .nil pass0 (pa_cons (pv 1) (pa_cons (pe_ix ix_list (pv 2) (pv 4) (fun _ _ => rfl)) pa_nil)))))).pt (pe_ix ix_seq (pe_ix ix_list (pv 2) (pv 4) (fun _ _ => rfl)) pe_int (fun _ _ => rfl)) (pe_slice sl_str (pv 1) po_none (po_some pe_int))))
      (pss_cons (ps_set (i := 5) sc39.nd rfl (Or.inl rfl) (pe_lst (pa_cons pe_non (pa_cons (pe_tup pa_nil) (pa_cons pe_int (pa_cons pe_str (pa_cons pe_dnewK (pa_cons (pe_tup (pa_cons (pv 6) pa_nil)) (pa_cons (pe_tup (pa_cons (pv 6) (pa_cons pe_bl pa_nil))) (pa_cons (pe_tup (pa_cons (pv 6) (pa_cons pe_int (pa_cons pe_bl pa_nil)))) (pa_cons (pe_tup (pa_cons (pv 6) (pa_cons pe_bl (pa_cons pe_non pa_nil)))) (pa_cons (pe_tup (pa_cons pe_int (pa_cons pe_bl (pa_cons pe_bl pa_nil)))) pa_nil))))))))))))
      (pss_cons (ps_set (i := 5) sc39.nd rfl (Or.inl rfl) (pe_op op_cat (pv 5) (pe_lst (pa_cons (pe_tup (pa_cons (pe_op op_add_str (pv 6) pe_str) (pa_cons pe_bl (pa_cons pe_bl pa_nil)))) (pa_cons (pe_tup (pa_cons pe_non (pa_cons pe_bl (pa_cons pe_bl pa_nil)))) (pa_cons (pe_lst (pa_cons (pv 6) (pa_cons pe_str (pa_cons pe_bl pa_nil)))) (pa_cons (pe_tup (pa_cons (pv 6) (pa_cons pe_bl (pa_cons pe_bl (pa_cons pe_int pa_nil))))) pa_nil)))))))
      (pss_cons (ps_set (i := 5) sc39.nd rfl (Or.inl rfl) (pe_op op_cat (pv 5) (pe_lst (pa_cons (pe_tup (pa_cons (pe_op op_mulS (pe_slice sl_str (pv 1) po_none (po_some pe_int)) pe_int) (pa_cons pe_bl (pa_cons pe_bl pa_nil)))) (pa_cons (pe_tup (pa_cons (pv 6) (pa_cons pe_bl (pa_cons pe_bl pa_nil)))) (pa_cons (pe_tup (pa_cons (pe_lst (pa_cons (pv 6) pa_nil)) (pa_cons pe_bl (pa_cons pe_bl pa_nil)))) pa_nil))))))
      (pss_cons (ps_set (i := 5) sc39.nd rfl (Or.inl rfl) (pe_op op_cat (pv 5) (pe_lst (pa_cons (pe_tup (pa_cons (pe_op op_mulS (pe_slice sl_str (pv 1) po_none (po_some pe_int)) pe_int) (pa_cons pe_bl (pa_cons pe_bl pa_nil)))) (pa_cons (pe_tup (pa_cons (pv 6) (pa_cons pe_bl (pa_cons pe_int pa_nil)))) pa_nil)))))
      (pss_cons (ps_if (pt_cmpR op_eq (pv 3) pe_int (nomark _)) (pss_one (ps_ret (pe_tup (pa_cons (pv 1) (pa_cons (pe_op op_cat (pe_op op_cat (pe_slice sl_list (pv 2) po_none (po_some (pv 4))) (pe_lst (pa_cons (pe_call GP hr (by rfl) gP kP bP .nil pass0 (pa_cons (pv 0) (pa_cons (pv 5) pa_nil))) pa_nil))) (pe_slice sl_list (pv 2) (po_some (pv 4)) po_none)) pa_nil))))) pss_nil)
      (pss_cons (ps_if (pt_cmpR op_eq (pv 3) pe_int (nomark _)) (pss_one (ps_ret (pe_tup (pa_cons (pv 1) (pa_cons (pe_op op_cat (pe_op op_cat (pe_slice sl_list (pv 2) po_none (po_some (pv 4))) (pe_lst (pa_cons (pe_call GP hr (by rfl) gP kP bP .nil pass0 (pa_cons (pv 0) (pa_cons (pv 5) pa_nil))) pa_nil))) (pe_slice sl_list (pv 2) (po_some (pe_op op_add (pv 4) pe_int)) po_none)) pa_nil))))) pss_nil)
      (pss_cons (ps_if (pt_cmpR op_eq (pv 3) pe_int (nomark _)) (pss_one (ps_ret (pe_tup (pa_cons (pv 1) (pa_cons (pe_op op_cat (pv 2) (pe_lst (pa_cons (pe_tup (pa_cons (pe_op op_mulS (pe_slice sl_str (pv 1) (po_some (pe_un un_neg pe_int)) po_none) (pe_op op_add pe_int (pe_call GD hr1 (by rfl) gD kD bD .nil pass0 (pa_cons (pv 0) (pa_cons pe_int pa_nil))))) (pa_cons pe_bl (pa_cons pe_bl pa_nil)))) pa_nil))) pa_nil))))) pss_nil)
      (pss_one (ps_ret (pe_tup (pa_cons (pv 1) (pa_cons (pv 2) pa_nil)))))))))))))))), ?_⟩
    have npa : a ≠ p := ne_of ha hp.dc (by intro z; cases z)
    have hlen := deAll_len hda
    refine ⟨V.ref p, rfl, p, l, ns, k, lf, 6, rfl, hp, hn, hk0, by omega, hf, by decide, by decide, fun H1 k1 lf1 w1 e1 e2 e3 e4 e5 s1 P1 => ?_⟩
    refine ⟨V.ref p, rfl, V.ref a, rfl, a, xs, rfl, .inl (.inl (.inl (s1 _ _ npa ha))), (xs.length : Int), 1, rfl, rfl, p, l, ns, k1, lf1, (xs.length : Int) + 1, rfl, P1, hn, e2, by omega, e3, by omega, by omega, fun H2 k2 lf2 w2 f1 f2 f3 f4 f5 s2 P2 => ?_⟩
    refine ⟨V.int w1, V.int w2, rfl, ?_⟩
    have s02 := s1.trans s2
    have ha2 := s02 _ _ npa ha
    have hda2 := de_butAll hp.dc s02 hda
    have b6 : (6 : Nat) < sizeLine := by decide
    obtain ⟨n, hn2⟩ : ∃ n : Nat, w2 = (n : Int) := ⟨w2.toNat, (Int.toNat_of_nonneg f4).symm⟩
    subst hn2
    have hnx : n ≤ xs.length := by omega
    -- what is handed back
    have out : ∀ (H3 : Hp) (k3 lf3 : Int) (vL : V) (L : PyData) (a' : Addr) (xs' : List V) (ds' : List PyData), k3 ≤ k + 5 → 0 ≤ k3 → 0 ≤ lf3 → SameBut p H2 H3 → PenAt H3 p l ns k3 lf3 → De K H3 vL L → LetD L → H3 a' = some (.lst xs') → DeAll K H3 xs' ds' → (∀ d ∈ ds', RowD d) → xs'.length ≤ xs.length + 1 →
        [vL, V.ref a'].length ≤ sizeLine ∧ ∀ t, H3 t = none → Q (.ref t) (upd H3 t (.tup [vL, .ref a'])) := fun H3 k3 lf3 vL L a' xs' ds' i1 i2 i3 i4 i5 i6 i7 i8 i9 i10 i11 =>
      ⟨by show 2 ≤ sizeLine; decide, fun t nt => kk _ k3 lf3 t vL L a' xs' ds' i1 i2 i3 ((s02.trans i4).trans (.of (upd_new nt))) ⟨upd_new nt _ _ i5.dc, upd_new nt _ _ i5.ls⟩ upd_same (de_mono (upd_new nt) _ _ i6) i7 (upd_new nt _ _ i8) (de_monoAll (upd_new nt) _ _ i9) i10 i11⟩
    dsimp only
    refine ifS_one (decide (V.int w1 = V.int 0)) (fun R h => ⟨V.int w1, rfl, rfl, _, rfl, h⟩) (fun c0 => ?_) (fun c0 => ?_)
    · refine Al.set (K := K) (H0 := H2) (al_lst (al_cons al_non (al_cons al_str (al_cons al_str (al_cons al_str (al_cons al_str (al_cons al_str (al_cons al_str (al_cons al_int (al_cons al_bl (al_cons (al_lst (al_cons al_str (al_cons al_str al_nil)) (by decide)) (al_cons (al_tup (al_cons al_str (al_cons al_str al_nil)) (by decide)) (al_cons al_new (al_cons al_str al_nil))))))))))))) (by decide)) (Same.refl _) fun H3 v s3 hd => ?_
      cases hd with
      | @lst b ys _ hb hys =>
      have P3 : PenAt H3 p l ns k2 lf2 := ⟨s3 _ _ P2.dc, s3 _ _ P2.ls⟩
      have hlb := deAll_len hys
      refine ⟨V.ref p, rfl, V.ref b, rfl, p, l, .ref b, ns, k2, lf2, ys, rfl, P3, hn, f2, by omega, f3, .inl ⟨b, rfl, hb⟩, by rw [hlb]; decide, by rw [hlb]; decide, fun H4 k4 lf4 y i1 i2 i3 hy s4 P4 => ?_⟩
      obtain ⟨d, hdm, hdy⟩ := deAll_mem hys hy
      have hdy4 := de_but P3.dc s4 hdy
      have s24 := (SameBut.of s3).trans s4
      refine ⟨V.ref a, rfl, out H4 k4 lf4 y d a xs ds (by omega) i2 i3 s24 P4 hdy4 ?_ (s24 _ _ npa ha2) (de_butAll P2.dc s24 hda2) hrow (by omega)⟩
      simp only [List.mem_cons, List.mem_nil_iff, or_false] at hdm
      rcases hdm with rfl | rfl | rfl | rfl | rfl | rfl | rfl | rfl | rfl | rfl | rfl | rfl | rfl <;>
        exact ⟨⟨by decide +kernel, by decide +kernel, by decide +kernel⟩, (fun z e => by first | (injection e with e; subst e; decide +kernel) | cases e), by decide +kernel⟩
    have hls26 : ls.cps.size ≤ 26 := (hL.as ls rfl).2
    have hls : ls.length ≤ sizeLine := by
      have e : ls.length = ls.cps.size := rfl
      have t : (26 : Nat) < sizeLine := by decide
      omega
    have pw2 : PW K H2 xs := PW.of hda2 hrow
    have b1000 : (2000 : Nat) < sizeLine := by decide
    refine ifS_two (x := decide (V.int w1 = V.int 1)) (y := decide ((n : Int) < (xs.length : Int))) (fun R h => ⟨V.int w1, rfl, rfl, _, rfl, h⟩) (fun R h => ⟨V.int n, rfl, V.ref a, rfl, a, xs, rfl, .inl (.inl (.inl ha2)), _, _, rfl, rfl, _, rfl, h⟩) (fun c1 c2 => ?_) ?_
    · have c2' := of_decide_eq_true c2
      refine ⟨V.str ls, rfl, V.ref a, rfl, V.int n, rfl, _, rfl, a, xs, rfl, .inl (.inl ha2), fun q1 nq1 => ?_⟩
      have t1 := upd_new (o := .lst (cutV xs none (some (n : Int)))) nq1
      have hq1 : upd H2 q1 (.lst (cutV xs none (some (n : Int)))) q1 = some (.lst (cutV xs none (some (n : Int)))) := upd_same
      generalize upd H2 q1 (.lst (cutV xs none (some (n : Int)))) = H3 at t1 hq1
      refine ⟨V.ref a, rfl, V.int n, rfl, _, 1, rfl, rfl, _, rfl, a, xs, rfl, .inl (.inl (t1 _ _ ha2)), fun q2 nq2 => ?_⟩
      have t2 := upd_new (o := .lst (cutV xs (some ((n : Int) + 1)) none)) nq2
      have hq2 : upd H3 q2 (.lst (cutV xs (some ((n : Int) + 1)) none)) q2 = some (.lst (cutV xs (some ((n : Int) + 1)) none)) := upd_same
      generalize upd H3 q2 (.lst (cutV xs (some ((n : Int) + 1)) none)) = H4 at t2 hq2
      refine ⟨q1, q2, _, _, rfl, rfl, t2 _ _ hq1, hq2, ?_, fun q3 nq3 => ?_⟩
      · have z1 := cutV_length xs none (some (n : Int))
        have z2 := cutV_length xs (some ((n : Int) + 1)) none
        omega
      have t3 := upd_new (o := .lst (cutV xs none (some (n : Int)) ++ cutV xs (some ((n : Int) + 1)) none)) nq3
      have hq3 : upd H4 q3 (.lst (cutV xs none (some (n : Int)) ++ cutV xs (some ((n : Int) + 1)) none)) q3 = some (.lst (cutV xs none (some (n : Int)) ++ cutV xs (some ((n : Int) + 1)) none)) := upd_same
      generalize upd H4 q3 (.lst (cutV xs none (some (n : Int)) ++ cutV xs (some ((n : Int) + 1)) none)) = H5 at t3 hq3
      have t5 := (t1.trans t2).trans t3
      obtain ⟨es, he1, he2⟩ := (pw2.cut (lo := none) (hi := some (n : Int))).app (pw2.cut (lo := some ((n : Int) + 1)) (hi := none)) |>.all
      refine out H5 k2 lf2 (.str ls) (.str ls) q3 _ es (by omega) f2 f3 (.of t5) ⟨t5 _ _ P2.dc, t5 _ _ P2.ls⟩ (.str ls) hL hq3 (de_monoAll t5 _ _ he1) he2 ?_
      rw [List.length_append, len_head hnx, len_tail1 c2']
      omega
    refine tif_set (fun x => x.cps.size ≤ 200) (fun R kR => ?_) (fun H3 x s3 hx => ?_)
    · have sl1 : ∀ H3, Same H2 H3 → R (.str (cutS ls none (some 1))) H3 := fun H3 s3 => kR H3 _ s3 (Nat.le_trans cut_size (by omega))
      refine ⟨V.int n, rfl, V.ref a, rfl, a, xs, rfl, .inl (.inl (.inl ha2)), _, _, rfl, rfl, _, rfl, ?_⟩
      refine ite2 (fun c => ?_) (fun c => iteF ⟨V.str ls, rfl, 1, rfl, ls, rfl, hls, sl1 H2 (Same.refl _)⟩)
      have c' : (n : Int) < (xs.length : Int) := of_decide_eq_true c
      obtain ⟨v, hv⟩ : ∃ v, xs[n]? = some v := ⟨_, List.getElem?_eq_getElem (by omega)⟩
      obtain ⟨d, hdi, hd⟩ := deAll_at hda2 hv
      have hrd := hrow d (List.mem_of_getElem? hdi)
      refine ⟨V.str ls, rfl, V.ref a, rfl, V.int n, rfl, a, xs, _, v, rfl, rfl, .inl (.inl ha2), atI_nat hv, ls, v, d, rfl, hd, hrd.f, hrd.p, fun H3 s3 => ⟨_, rfl, ?_⟩⟩
      cases eR : okR ls d with
      | false => exact iteF ⟨V.str ls, rfl, 1, rfl, ls, rfl, hls, sl1 H3 s3⟩
      | true =>
        refine iteT ⟨V.ref a, rfl, V.int n, rfl, a, xs, _, v, rfl, rfl, .inl (.inl (s3 _ _ ha2)), atI_nat hv, row_at (de_mono s3 _ _ hd) eR H3 (Same.refl _) _ (kR H3 _ s3 ?_)⟩
        obtain ⟨px, pb, pc, _, _, hpl, hp1, hp2⟩ := okR_elems eR
        rw [hpl]
        exact hp1
    have hxA : x.length + (("A" : Str)).length ≤ 10000 := by
      have e : x.length = x.cps.size := rfl
      have e2 : (("A" : Str)).length = 1 := by decide +kernel
      have hx' : x.cps.size ≤ 200 := hx
      omega
    refine Al.set (K := K) (H0 := H3) (d := .list (oddA x)) (al_lst (al_cons al_non (al_cons (al_tup al_nil (Nat.le_of_ble_eq_true rfl)) (al_cons al_int (al_cons al_str (al_cons al_new (al_cons (al_tup (al_cons (al_var (i := 6) (v := V.str x) rfl (.str x)) al_nil) (Nat.le_of_ble_eq_true rfl)) (al_cons (al_tup (al_cons (al_var (i := 6) (v := V.str x) rfl (.str x)) (al_cons al_bl al_nil)) (Nat.le_of_ble_eq_true rfl)) (al_cons (al_tup (al_cons (al_var (i := 6) (v := V.str x) rfl (.str x)) (al_cons al_int (al_cons al_bl al_nil))) (Nat.le_of_ble_eq_true rfl)) (al_cons (al_tup (al_cons (al_var (i := 6) (v := V.str x) rfl (.str x)) (al_cons al_bl (al_cons al_non al_nil))) (Nat.le_of_ble_eq_true rfl)) (al_cons (al_tup (al_cons al_int (al_cons al_bl (al_cons al_bl al_nil))) (Nat.le_of_ble_eq_true rfl)) al_nil)))))))))) (Nat.le_of_ble_eq_true rfl)) (Same.refl _) fun H4 v4 s4 hd4 => ?_
    refine Al.set (K := K) (H0 := H4) (d := .list (oddA x ++ oddB x)) (al_cat (al_var (i := 5) rfl hd4) (al_lst (al_cons (al_tup (al_cons (al_addS (al_var (i := 6) (v := V.str x) rfl (.str x)) al_str hxA) (al_cons al_bl (al_cons al_bl al_nil))) (Nat.le_of_ble_eq_true rfl)) (al_cons (al_tup (al_cons al_non (al_cons al_bl (al_cons al_bl al_nil))) (Nat.le_of_ble_eq_true rfl)) (al_cons (al_lst (al_cons (al_var (i := 6) (v := V.str x) rfl (.str x)) (al_cons al_str (al_cons al_bl al_nil))) (Nat.le_of_ble_eq_true rfl)) (al_cons (al_tup (al_cons (al_var (i := 6) (v := V.str x) rfl (.str x)) (al_cons al_bl (al_cons al_bl (al_cons al_int al_nil)))) (Nat.le_of_ble_eq_true rfl)) al_nil)))) (Nat.le_of_ble_eq_true rfl)) (Nat.le_of_ble_eq_true rfl)) (Same.refl _) fun H5 v5 s5 hd5 => ?_
    refine Al.set (K := K) (H0 := H5) (d := .list ((oddA x ++ oddB x) ++ oddC x (Txt.mul (cutS ls none (some 1)) 201))) (al_cat (al_var (i := 5) rfl hd5) (al_lst (al_cons (al_tup (al_cons (al_mulS (al_sl (i := 1) (z := ls) rfl hls) (Nat.le_trans cut_one (by decide)) (by decide) (by decide)) (al_cons al_bl (al_cons al_bl al_nil))) (Nat.le_of_ble_eq_true rfl)) (al_cons (al_tup (al_cons (al_var (i := 6) (v := V.str x) rfl (.str x)) (al_cons al_bl (al_cons al_bl al_nil))) (Nat.le_of_ble_eq_true rfl)) (al_cons (al_tup (al_cons (al_lst (al_cons (al_var (i := 6) (v := V.str x) rfl (.str x)) al_nil) (Nat.le_of_ble_eq_true rfl)) (al_cons al_bl (al_cons al_bl al_nil))) (Nat.le_of_ble_eq_true rfl)) al_nil))) (Nat.le_of_ble_eq_true rfl)) (Nat.le_of_ble_eq_true rfl)) (Same.refl _) fun H6 v6 s6 hd6 => ?_
    refine Al.set (K := K) (H0 := H6) (d := .list (((oddA x ++ oddB x) ++ oddC x (Txt.mul (cutS ls none (some 1)) 201)) ++ oddE x (Txt.mul (cutS ls none (some 1)) 200))) (al_cat (al_var (i := 5) rfl hd6) (al_lst (al_cons (al_tup (al_cons (al_mulS (al_sl (i := 1) (z := ls) rfl hls) (Nat.le_trans cut_one (by decide)) (by decide) (by decide)) (al_cons al_bl (al_cons al_bl al_nil))) (Nat.le_of_ble_eq_true rfl)) (al_cons (al_tup (al_cons (al_var (i := 6) (v := V.str x) rfl (.str x)) (al_cons al_bl (al_cons al_int al_nil))) (Nat.le_of_ble_eq_true rfl)) al_nil)) (Nat.le_of_ble_eq_true rfl)) (Nat.le_of_ble_eq_true rfl)) (Same.refl _) fun H7 v7 s7 hd7 => ?_
    have hm1 : (Txt.mul (cutS ls none (some 1)) 201).cps.size ≤ 1000 := Nat.le_trans (len_mul_leN (L := 1) (N := 201) cut_one (by decide)) (by decide)
    have hm2 : (Txt.mul (cutS ls none (some 1)) 200).cps.size ≤ 1000 := Nat.le_trans (len_mul_leN (L := 1) (N := 200) cut_one (by decide)) (by decide)
    have hodd := odd_ok (x := x) (y := Txt.mul (cutS ls none (some 1)) 201) (z := Txt.mul (cutS ls none (some 1)) 200) hx hm1 hm2
    have hodl : (((oddA x ++ oddB x) ++ oddC x (Txt.mul (cutS ls none (some 1)) 201)) ++ oddE x (Txt.mul (cutS ls none (some 1)) 200)).length = 19 := rfl
    generalize ((oddA x ++ oddB x) ++ oddC x (Txt.mul (cutS ls none (some 1)) 201)) ++ oddE x (Txt.mul (cutS ls none (some 1)) 200) = od at hd7 hodd hodl
    have s27 := s3.trans (s4.trans (s5.trans (s6.trans s7)))
    have P7 : PenAt H7 p l ns k2 lf2 := ⟨s27 _ _ P2.dc, s27 _ _ P2.ls⟩
    have ha7 := s27 _ _ ha2
    have pw7 : PW K H7 xs := pw2.mono s27
    cases hd7 with
    | @lst b7 ys7 _ hb7 hys7 =>
    have hl7 : ys7.length = 19 := (deAll_len hys7).trans hodl
    have ins : ∀ (te3 : TE) (ys3 : List V), (∀ (G : Hp) (R : VK), G a = some (.lst xs) → (∀ q, G q = none → R (.ref q) (upd G q (.lst ys3))) → te3 [some (.ref p), some (.str ls), some (.ref a), some (.int w1), some (.int n), some (.ref b7), some (.str x)] G R) → (∀ z ∈ ys3, z ∈ xs) → ys3.length ≤ xs.length - n →
        tTup (tCons (tVar 1) (tCons (tOp rCat (tOp rCat (tSl (rSlL K) (tVar 2) tNoPart (tPart (tVar 4))) (tLst (tCons (tCall spPick [] L2.E0 (tCons (tVar 0) (tCons (tVar 5) tNil))) tNil))) te3) tNil)) [some (.ref p), some (.str ls), some (.ref a), some (.int w1), some (.int n), some (.ref b7), some (.str x)] H7 Q := fun te3 ys3 hte hys hyl => by
      refine ⟨V.str ls, rfl, V.ref a, rfl, V.int n, rfl, _, rfl, a, xs, rfl, .inl (.inl ha7), fun q1 nq1 => ?_⟩
      have t1 := upd_new (o := .lst (cutV xs none (some (n : Int)))) nq1
      have hq1 : upd H7 q1 (.lst (cutV xs none (some (n : Int)))) q1 = some (.lst (cutV xs none (some (n : Int)))) := upd_same
      generalize upd H7 q1 (.lst (cutV xs none (some (n : Int)))) = G1 at t1 hq1
      have PG1 : PenAt G1 p l ns k2 lf2 := ⟨t1 _ _ P7.dc, t1 _ _ P7.ls⟩
      refine ⟨V.ref p, rfl, V.ref b7, rfl, p, l, .ref b7, ns, k2, lf2, ys7, rfl, PG1, hn, f2, by omega, f3, .inl ⟨b7, rfl, t1 _ _ hb7⟩, by omega, by omega, fun G2 k9 lf9 y i1 i2 i3 hy t2 PG2 => ?_⟩
      obtain ⟨d, hdm, hdy⟩ := deAll_mem (de_monoAll t1 _ _ hys7) hy
      have hdy2 := de_but PG1.dc t2 hdy
      have nq1p : q1 ≠ p := ne_of hq1 PG1.dc (by intro z; cases z)
      refine ⟨by show 1 ≤ sizeLine; decide, fun q2 nq2 => ?_⟩
      have t3 := upd_new (o := .lst [y]) nq2
      have hq2 : upd G2 q2 (.lst [y]) q2 = some (.lst [y]) := upd_same
      generalize upd G2 q2 (.lst [y]) = G3 at t3 hq2
      refine ⟨q1, q2, _, _, rfl, rfl, t3 _ _ (t2 _ _ nq1p hq1), hq2, ?_, fun q3 nq3 => ?_⟩
      · rw [len_head hnx]
        show n + 1 ≤ sizeLine
        omega
      have t4 := upd_new (o := .lst (cutV xs none (some (n : Int)) ++ [y])) nq3
      have hq3 : upd G3 q3 (.lst (cutV xs none (some (n : Int)) ++ [y])) q3 = some (.lst (cutV xs none (some (n : Int)) ++ [y])) := upd_same
      generalize upd G3 q3 (.lst (cutV xs none (some (n : Int)) ++ [y])) = G4 at t4 hq3
      have t24 := t3.trans t4
      have ha4 : G4 a = some (.lst xs) := t24 _ _ (t2 _ _ npa (t1 _ _ ha7))
      refine hte G4 _ ha4 fun q4 nq4 => ?_
      have t5 := upd_new (o := .lst ys3) nq4
      have hq4 : upd G4 q4 (.lst ys3) q4 = some (.lst ys3) := upd_same
      generalize upd G4 q4 (.lst ys3) = G5 at t5 hq4
      refine ⟨q3, q4, _, _, rfl, rfl, t5 _ _ hq3, hq4, ?_, fun q5 nq5 => ?_⟩
      · rw [List.length_append, len_head hnx]
        show n + 1 + ys3.length ≤ sizeLine
        omega
      have t6 := upd_new (o := .lst ((cutV xs none (some (n : Int)) ++ [y]) ++ ys3)) nq5
      have hq5 : upd G5 q5 (.lst ((cutV xs none (some (n : Int)) ++ [y]) ++ ys3)) q5 = some (.lst ((cutV xs none (some (n : Int)) ++ [y]) ++ ys3)) := upd_same
      generalize upd G5 q5 (.lst ((cutV xs none (some (n : Int)) ++ [y]) ++ ys3)) = G6 at t6 hq5
      have t26 := t24.trans (t5.trans t6)
      have b76 : SameBut p H7 G6 := ((SameBut.of t1).trans t2).trans (.of t26)
      have pw6 : PW K G6 xs := pw7.but P7.dc b76
      obtain ⟨es, he1, he2⟩ := ((pw6.cut (lo := none) (hi := some (n : Int))).app (PW.one (de_mono t26 _ _ hdy2) (hodd d hdm))).app (fun z hz => pw6 z (hys z hz)) |>.all
      refine out G6 k9 lf9 (.str ls) (.str ls) q5 _ es (by omega) i2 i3 ((SameBut.of s27).trans b76) ⟨t26 _ _ PG2.dc, t26 _ _ PG2.ls⟩ (.str ls) hL hq5 he1 he2 ?_
      rw [List.length_append, List.length_append, len_head hnx]
      show n + 1 + ys3.length ≤ xs.length + 1
      omega
    refine ifS_one (decide (V.int w1 = V.int 2)) (fun R h => ⟨V.int w1, rfl, rfl, _, rfl, h⟩) (fun c2 => ?_) (fun c2 => ?_)
    · exact ins _ (cutV xs (some (n : Int)) none) (fun G R h k => ⟨V.ref a, rfl, V.int n, rfl, _, rfl, a, xs, rfl, .inl (.inl h), k⟩) (fun z hz => List.mem_of_mem_drop (List.mem_of_mem_take hz)) (by rw [len_tail hnx]; omega)
    refine ifS_one (decide (V.int w1 = V.int 3)) (fun R h => ⟨V.int w1, rfl, rfl, _, rfl, h⟩) (fun c3 => ?_) (fun c3 => ?_)
    · exact ins _ (cutV xs (some ((n : Int) + 1)) none) (fun G R h k => ⟨V.ref a, rfl, V.int n, rfl, _, 1, rfl, rfl, _, rfl, a, xs, rfl, .inl (.inl h), k⟩) (fun z hz => List.mem_of_mem_drop (List.mem_of_mem_take hz)) (len_tail2 hnx)
    refine ifS_one (decide (V.int w1 = V.int 4)) (fun R h => ⟨V.int w1, rfl, rfl, _, rfl, h⟩) (fun c4 => ?_) (fun c4 => ?_)
    · refine ⟨V.str ls, rfl, V.ref a, rfl, V.str ls, rfl, 1, rfl, (-1 : Int), rfl, ls, rfl, hls, V.ref p, rfl, p, l, ns, k2, lf2, 3, rfl, P7, hn, f2, by omega, f3, by decide, by decide, fun G2 k9 lf9 d i1 i2 i3 i4 i5 t2 PG2 => ?_⟩
      refine ⟨2, d, rfl, rfl, cutS ls (some (-1)) none, 2 + d, rfl, rfl, Nat.le_trans cut_end (by decide), by omega, by omega, (by show 3 ≤ sizeLine; decide), fun q1 nq1 => ⟨(by show 1 ≤ sizeLine; decide), fun q2 nq2 => ?_⟩⟩
      have hsz : (Txt.mul (cutS ls (some (-1)) none) (2 + d)).cps.size ≤ 1000 := Nat.le_trans (len_mul_leN (L := 1) (N := 10) cut_end (by omega)) (by decide)
      generalize Txt.mul (cutS ls (some (-1)) none) (2 + d) = y at hsz nq2
      have t3 := upd_new (o := .tup [.str y, .bl false, .bl true]) nq1
      have hq1 : upd G2 q1 (.tup [.str y, .bl false, .bl true]) q1 = some (.tup [.str y, .bl false, .bl true]) := upd_same
      generalize upd G2 q1 (.tup [.str y, .bl false, .bl true]) = G3 at t3 hq1 nq2
      have t4 := upd_new (o := .lst [.ref q1]) nq2
      have hq2 : upd G3 q2 (.lst [.ref q1]) q2 = some (.lst [.ref q1]) := upd_same
      generalize upd G3 q2 (.lst [.ref q1]) = G4 at t4 hq2
      have t24 := t3.trans t4
      refine ⟨a, q2, xs, [.ref q1], rfl, rfl, t24 _ _ (t2 _ _ npa ha7), hq2, (by show xs.length + 1 ≤ sizeLine; omega), fun q3 nq3 => ?_⟩
      have t5 := upd_new (o := .lst (xs ++ [.ref q1])) nq3
      have hq3 : upd G4 q3 (.lst (xs ++ [.ref q1])) q3 = some (.lst (xs ++ [.ref q1])) := upd_same
      generalize upd G4 q3 (.lst (xs ++ [.ref q1])) = G5 at t5 hq3
      have t25 := t24.trans t5
      have b75 : SameBut p H7 G5 := t2.trans (.of t25)
      have pw5 : PW K G5 xs := pw7.but P7.dc b75
      obtain ⟨es, he1, he2⟩ := pw5.app (PW.one (K := K) (H := G5) (y := .ref q1) (.tup (t5 _ _ (t4 _ _ hq1)) (.cons (.str y) (.cons (.bl false) (.cons (.bl true) .nil)))) (row_three rfl (fun v e => by injection e with e; subst e; exact hsz) (.bl _) (.bl _)).1) |>.all
      refine out G5 k9 lf9 (.str ls) (.str ls) q3 _ es (by omega) i2 i3 ((SameBut.of s27).trans b75) ⟨t25 _ _ PG2.dc, t25 _ _ PG2.ls⟩ (.str ls) hL hq3 he1 he2 ?_
      rw [List.length_append]
      exact Nat.le_refl _
    exact ⟨V.str ls, rfl, V.ref a, rfl, out H7 k2 lf2 (.str ls) (.str ls) a xs ds (by omega) f2 f3 (.of s27) P7 (.str ls) hL ha7 (de_monoAll s27 _ _ hda2) hrow (by omega)⟩
end
end SK
namespace SK
open PySem PySem.Spec PyProof.Rows L2 LamX NdefX
open K0 (De DeAll XCl spX withX)
/-! ### very many places -/
def wd : Nat → List Nat
  | 0 => []
  | k + 1 => wd (k / 2) ++ [if k % 2 = 0 then 97 else 98]
decreasing_by omega
theorem wd_zero : wd 0 = [] := by
  unfold wd
  rfl
theorem wd_succ (k : Nat) : wd (k + 1) = wd (k / 2) ++ [if k % 2 = 0 then 97 else 98] := by
  conv => lhs; unfold wd
theorem wd_a (i : Nat) : wd (2 * i + 1) = wd i ++ [97] := by
  rw [wd_succ, show 2 * i / 2 = i by omega, if_pos (by omega)]
theorem wd_b (i : Nat) : wd (2 * i + 2) = wd i ++ [98] := by
  rw [show 2 * i + 2 = (2 * i + 1) + 1 from rfl, wd_succ, show (2 * i + 1) / 2 = i by omega, if_neg (by omega)]
theorem wd_inj : ∀ (n j k : Nat), j ≤ n → wd j = wd k → j = k
  | n, 0, 0, _, _ => rfl
  | n, 0, k + 1, _, h => by
    rw [wd_zero, wd_succ] at h
    simp at h
  | n, j + 1, 0, _, h => by
    rw [wd_zero, wd_succ] at h
    simp at h
  | 0, j + 1, k + 1, hj, _ => by omega
  | n + 1, j + 1, k + 1, hj, h => by
    rw [wd_succ, wd_succ] at h
    have h1 := List.append_inj_left' h rfl
    have h2 := List.append_inj_right' h rfl
    have e := wd_inj n (j / 2) (k / 2) (by omega) h1
    have e2 : j % 2 = k % 2 := by
      by_cases c : j % 2 = 0 <;> by_cases d : k % 2 = 0
      · omega
      · rw [if_pos c, if_neg d] at h2
        simp at h2
      · rw [if_neg c, if_pos d] at h2
        simp at h2
      · omega
    omega
theorem wd_len : ∀ (n k : Nat), k + 1 < 2 ^ (n + 1) → (wd k).length ≤ n
  | n, 0, _ => by
    rw [wd_zero]
    exact Nat.zero_le _
  | 0, k + 1, h => by
    have e : (2 : Nat) ^ (0 + 1) = 2 := by decide
    omega
  | n + 1, k + 1, h => by
    rw [wd_succ, List.length_append]
    have e : (2 : Nat) ^ (n + 1 + 1) = 2 * 2 ^ (n + 1) := by rw [Nat.pow_succ 2 (n + 1)]; omega
    have z := wd_len n (k / 2) (by omega)
    show (wd (k / 2)).length + 1 ≤ n + 1
    omega
theorem wd_ab : ∀ (n k : Nat), k ≤ n → ∀ c ∈ wd k, c = 97 ∨ c = 98
  | n, 0, _, c, h => by
    rw [wd_zero] at h
    simp at h
  | 0, k + 1, hk, _, _ => by omega
  | n + 1, k + 1, hk, c, h => by
    rw [wd_succ] at h
    rcases List.mem_append.mp h with h | h
    · exact wd_ab n (k / 2) (by omega) c h
    · have z : c = if k % 2 = 0 then 97 else 98 := by simpa using h
      rw [z]
      split
      · exact .inl rfl
      · exact .inr rfl
def ws (k : Nat) : Str := ⟨(wd k).toArray⟩
theorem ws_inj {j k : Nat} (h : ws j = ws k) : j = k := by
  unfold ws at h
  injection h with h
  have h2 : wd j = wd k := by simpa using h
  exact wd_inj j j k (Nat.le_refl _) h2
theorem ws_over {k : Nat} (h : k ≤ 2001) : OverL "ab" (ws k) := by
  refine ⟨?_, fun c hc => ?_⟩
  · show (wd k).toArray.size ≤ 200
    rw [List.size_toArray]
    have z := wd_len 11 k (by have e : (2 : Nat) ^ (11 + 1) = 4096 := by decide
                              omega)
    omega
  · have z := wd_ab k k (Nat.le_refl _) c (by simpa [ws] using hc)
    rcases z with rfl | rfl <;> decide +kernel
theorem ws_init {k : Nat} : initS (ws (k + 1)) = ws (k / 2) := by
  unfold initS ws
  rw [List.toList_toArray, wd_succ, List.dropLast_concat]
theorem ws_zero : ws 0 = Str.ofString "" := by
  unfold ws
  rw [wd_zero]
  decide +kernel
theorem ws_pos {k : Nat} : ws (k + 1) ≠ Str.ofString "" := fun h => by
  rw [← ws_zero] at h
  have z := ws_inj h
  omega
theorem str_app {x y : Str} : (x ++ y).cps = x.cps ++ y.cps := Str.cps_append _ _
theorem ws_a (i : Nat) : ws i ++ ("a" : Str) = ws (2 * i + 1) := by
  have e : (ws i ++ ("a" : Str)).cps = (ws (2 * i + 1)).cps := by
    rw [str_app]
    show (wd i).toArray ++ (Str.ofString "a").cps = (wd (2 * i + 1)).toArray
    rw [wd_a, show (Str.ofString "a").cps = #[97] from by decide +kernel]
    simp
  generalize ws i ++ ("a" : Str) = u at e
  obtain ⟨u⟩ := u
  show (⟨u⟩ : Str) = ⟨(ws (2 * i + 1)).cps⟩
  rw [← e]
theorem ws_b (i : Nat) : ws i ++ ("b" : Str) = ws (2 * i + 2) := by
  have e : (ws i ++ ("b" : Str)).cps = (ws (2 * i + 2)).cps := by
    rw [str_app]
    show (wd i).toArray ++ (Str.ofString "b").cps = (wd (2 * i + 2)).toArray
    rw [wd_b, show (Str.ofString "b").cps = #[98] from by decide +kernel]
    simp
  generalize ws i ++ ("b" : Str) = u at e
  obtain ⟨u⟩ := u
  show (⟨u⟩ : Str) = ⟨(ws (2 * i + 2)).cps⟩
  rw [← e]
/-- the row of a word -/
def rowOf (x : Str) : PyData := .tuple [.str x, .bool false, .bool false]
theorem place_row (x : Str) : placeOf (rowOf x) = x := rfl
theorem okR_row {k : Nat} (h : k ≤ 2001) : okR "ab" (rowOf (ws k)) = true := by
  obtain ⟨h1, h2⟩ := ws_over h
  show (okW "ab" (.str (ws k)) && (isB (.bool false) && isB (.bool false))) = true
  unfold okW
  simp only [isB, Bool.and_true, Bool.and_eq_true, decide_eq_true_eq, List.all_eq_true]
  exact ⟨h1, h2⟩
def rowsN (lo n : Nat) : List PyData := (List.range n).map fun j => rowOf (ws (lo + j))
theorem scan_rows (tl : List PyData) : ∀ (n lo i : Nat) (seen : List Str), lo + n ≤ 2001 → (∀ z ∈ seen, ∃ j, j < lo ∧ z = ws j) → scan "ab" seen i ((List.range n).map (fun j => rowOf (ws (lo + j))) ++ tl) = scan "ab" (seen ++ (List.range n).map fun j => ws (lo + j)) (i + n) tl
  | 0, lo, i, seen, _, _ => by simp
  | n + 1, lo, i, seen, hl, hs => by
    have er : (List.range (n + 1)).map (fun j => rowOf (ws (lo + j))) = rowOf (ws lo) :: (List.range n).map fun j => rowOf (ws (lo + 1 + j)) := by
      rw [List.range_succ_eq_map, List.map_cons, List.map_map]
      congr 1
      refine List.map_congr_left fun j _ => ?_
      show rowOf (ws (lo + (j + 1))) = _
      rw [show lo + (j + 1) = lo + 1 + j by omega]
    have er2 : (List.range (n + 1)).map (fun j => ws (lo + j)) = ws lo :: (List.range n).map fun j => ws (lo + 1 + j) := by
      rw [List.range_succ_eq_map, List.map_cons, List.map_map]
      congr 1
      refine List.map_congr_left fun j _ => ?_
      show ws (lo + (j + 1)) = _
      rw [show lo + (j + 1) = lo + 1 + j by omega]
    rw [er, er2, List.cons_append]
    have hns : placeOf (rowOf (ws lo)) ∉ seen := fun hm => by
      rw [place_row] at hm
      obtain ⟨j, h1, h2⟩ := hs _ hm
      have z := ws_inj h2
      omega
    show (if okR "ab" (rowOf (ws lo)) = true ∧ placeOf (rowOf (ws lo)) ∉ seen then _ else _) = _
    rw [if_pos ⟨okR_row (by omega), hns⟩, place_row, scan_rows tl n (lo + 1) (i + 1) (seen ++ [ws lo]) (by omega) ?_]
    · rw [List.append_assoc, show i + 1 + n = i + (n + 1) by omega]
      rfl
    · intro z hz
      rcases List.mem_append.mp hz with hz | hz
      · obtain ⟨j, h1, h2⟩ := hs z hz
        exact ⟨j, by omega, h2⟩
      · exact ⟨lo, by omega, by simpa using hz⟩
end SK
namespace SK
open PySem PySem.Spec PyProof.Rows L2 LamX NdefX
open K0 (De DeAll XCl spX withX)
/-! ### how they are taken -/
theorem okLab : okLd (.str "ab") = true := by decide +kernel
theorem strab : strOf (.str "ab") = "ab" := rfl
theorem rowsN_len (lo n : Nat) : (rowsN lo n).length = n := by
  unfold rowsN
  rw [List.length_map, List.length_range]
theorem scan_all {lo n : Nat} (h : lo + n ≤ 2001) : scan "ab" [] 0 (rowsN lo n) = none := by
  have z := scan_rows [] n lo 0 [] h fun z hz => absurd hz (by simp)
  rw [List.append_nil] at z
  unfold rowsN
  rw [z]
  rfl
theorem places_rows (lo n : Nat) : (rowsN lo n).map placeOf = (List.range n).map fun j => ws (lo + j) := by
  unfold rowsN
  rw [List.map_map]
  rfl
theorem mem_places {lo n : Nat} {x : Str} : x ∈ (rowsN lo n).map placeOf ↔ ∃ j, j < n ∧ x = ws (lo + j) := by
  rw [places_rows, List.mem_map]
  constructor
  · rintro ⟨j, hj, rfl⟩
    exact ⟨j, List.mem_range.mp hj, rfl⟩
  · rintro ⟨j, hj, rfl⟩
    exact ⟨j, List.mem_range.mpr hj, rfl⟩
theorem way_fine {n : Nat} (h1 : 1 ≤ n) (h2 : n ≤ 2000) : way (.str "ab") (rowsN 0 n) = .fine := by
  rw [way_lone okLab strab (by rw [rowsN_len]; exact ⟨h1, h2⟩) (scan_all (by omega))]
  have hp := sortW_perm "ab" ((rowsN 0 n).map placeOf)
  generalize sortW "ab" ((rowsN 0 n).map placeOf) = qs at hp
  have hl : lone qs = none := by
    unfold lone
    rw [List.find?_eq_none]
    intro p hpm
    obtain ⟨j, hj, rfl⟩ := mem_places.mp (hp.mem_iff.mp hpm)
    rw [Nat.zero_add]
    unfold isLone
    cases j with
    | zero =>
      rw [ws_zero]
      simp
    | succ k =>
      have hm : initS (ws (k + 1)) ∈ qs := by
        rw [ws_init]
        exact hp.mem_iff.mpr (mem_places.mpr ⟨k / 2, by omega, by rw [Nat.zero_add]⟩)
      rw [decide_eq_true hm]
      simp
  rw [hl]
theorem way_none {n : Nat} (h2 : n + 1 ≤ 2000) : way (.str "ab") (rowsN 0 n ++ [.none]) = .row n := by
  refine way_row okLab strab (by rw [List.length_append, rowsN_len]; exact ⟨by show 1 ≤ n + 1; omega, h2⟩) ?_
  have z := scan_rows [PyData.none] n 0 0 [] (by omega) fun z hz => absurd hz (by simp)
  unfold rowsN
  rw [z]
  show (if okR "ab" PyData.none = true ∧ _ then _ else some (0 + n)) = _
  rw [if_neg (fun c => by cases c.1), Nat.zero_add]
theorem way_places {ds : List PyData} (h : ¬ (1 ≤ ds.length ∧ ds.length ≤ 2000)) : way (.str "ab") ds = .places ds.length := by
  unfold way
  rw [if_pos okLab, if_neg h]
theorem way_aa {ds : List PyData} : way (.str "aa") ds = .letters := by
  unfold way
  rw [if_neg (by decide +kernel)]
theorem ws_one : ws 1 = Str.ofString "a" := by
  unfold ws
  rw [show (1 : Nat) = 2 * 0 + 1 from rfl, wd_a, wd_zero]
  decide +kernel
theorem ws_two : ws 2 = Str.ofString "b" := by
  unfold ws
  rw [show (2 : Nat) = 2 * 0 + 2 from rfl, wd_b, wd_zero]
  decide +kernel
theorem dle {x y : Str} : PySem.W.dataLe false (fun x => .str (keyW "ab" x)) x y = true ↔ (keyW "ab" x).cps.toList ≤ (keyW "ab" y).cps.toList := by
  rw [PySem.W.dataLe_eq]
  have e : PySem.W.dataLt (.str (keyW "ab" y)) (.str (keyW "ab" x)) = decide ((keyW "ab" y).cps.toList < (keyW "ab" x).cps.toList) := PySem.W.dataLt_str _ _
  show (!PySem.W.dataLt (.str (keyW "ab" y)) (.str (keyW "ab" x))) = true ↔ _
  rw [e, Bool.not_eq_true', decide_eq_false_iff_not]
  exact List.not_lt
theorem sortW_pair (ls : List Str) : (sortW "ab" ls).Pairwise fun x y => PySem.W.dataLe false (fun x => .str (keyW "ab" x)) x y = true := by
  unfold sortW
  refine List.pairwise_mergeSort (fun x y z h1 h2 => ?_) (fun x y => ?_) ls
  · exact dle.mpr (List.le_trans (dle.mp h1) (dle.mp h2))
  · rw [Bool.or_eq_true]
    rcases List.le_total (keyW "ab" x).cps.toList (keyW "ab" y).cps.toList with h | h
    · exact .inl (dle.mpr h)
    · exact .inr (dle.mpr h)
theorem way_tail : way (.str "ab") (rowsN 1 1999) = .lone "a" := by
  rw [way_lone okLab strab (by rw [rowsN_len]; decide) (scan_all (by decide))]
  have hp := sortW_perm "ab" ((rowsN 1 1999).map placeOf)
  have hs : (sortW "ab" ((rowsN 1 1999).map placeOf)).Pairwise fun x y => PySem.W.dataLe false (fun x => .str (keyW "ab" x)) x y = true := sortW_pair _
  generalize sortW "ab" ((rowsN 1 1999).map placeOf) = qs at hp hs
  have mem : ∀ {x}, x ∈ qs ↔ ∃ j, j < 1999 ∧ x = ws (1 + j) := fun {x} => hp.mem_iff.trans mem_places
  have lo1 : ∀ x ∈ qs, isLone qs x = true → x = ws 1 ∨ x = ws 2 := fun x hx hl => by
    obtain ⟨j, hj, rfl⟩ := mem.mp hx
    match j with
    | 0 => exact .inl rfl
    | 1 => exact .inr rfl
    | j + 2 =>
      exfalso
      have hm : initS (ws (1 + (j + 2))) ∈ qs := by
        rw [show 1 + (j + 2) = (j + 2) + 1 by omega, ws_init]
        exact mem.mpr ⟨(j + 2) / 2 - 1, by omega, by rw [show 1 + ((j + 2) / 2 - 1) = (j + 2) / 2 by omega]⟩
      unfold isLone at hl
      rw [decide_eq_true hm] at hl
      simp at hl
  have la : isLone qs (ws 1) = true := by
    have hn : initS (ws 1) ∉ qs := fun z => by
      rw [show (1 : Nat) = 0 + 1 from rfl, ws_init] at z
      obtain ⟨j, _, e⟩ := mem.mp z
      have := ws_inj e
      omega
    unfold isLone
    rw [decide_eq_false hn, decide_eq_true (ws_pos (k := 0))]
    rfl
  have ha : ws 1 ∈ qs := mem.mpr ⟨0, by decide, rfl⟩
  have hl : lone qs = some (ws 1) := by
    unfold lone
    cases hf : qs.find? (isLone qs) with
    | none =>
      rw [List.find?_eq_none] at hf
      exact absurd la (hf _ ha)
    | some x =>
      have hx := List.mem_of_find?_eq_some hf
      have hxl : isLone qs x = true := List.find?_some hf
      rcases lo1 x hx hxl with rfl | rfl
      · rfl
      · exfalso
        obtain ⟨as, bs, e, hno⟩ := (List.find?_eq_some_iff_append.mp hf).2
        have hna : ws 1 ∉ as := fun z => by
          have z2 := hno _ z
          rw [la] at z2
          cases z2
        have hbs : ws 1 ∈ bs := by
          rw [e] at ha
          rcases List.mem_append.mp ha with z | z
          · exact absurd z hna
          · rcases List.mem_cons.mp z with z | z
            · have := ws_inj z
              omega
            · exact z
        rw [e, List.pairwise_append] at hs
        have h2 := (List.pairwise_cons.mp hs.2.1).1 _ hbs
        rw [ws_one, ws_two] at h2
        revert h2
        decide +kernel
  rw [hl]
  show Way.lone (ws 1) = _
  rw [ws_one]
end SK
namespace SK
open PySem PySem.Spec PyProof.Rows L2 LamX NdefX
open K0 (De DeAll XCl spX withX)
/-! ### the law's look at very many places -/
theorem Tabs.pen {T : List (Addr × Str)} {H H' : Hp} {p : Addr} {kvs : List (Key × V)} (t : Tabs T H) (hp : H p = some (.dK kvs)) (e : SameBut p H H') : Tabs T H' := fun q hq => by
  obtain ⟨ps, h1, h2, h3⟩ := t q hq
  refine ⟨ps, e _ _ (fun z => by rw [z, hp] at h1; cases h1) h1, h2, fun pos cv hc => ?_⟩
  obtain ⟨c, e1, e2⟩ := h3 pos cv hc
  refine ⟨c, e1, e _ _ (fun z => ?_) e2⟩
  rw [z, hp] at e2
  unfold CodeO at e2
  cases e2
theorem words_upto (i : Nat) : (List.range (2 * (i + 1) + 1)).map (fun j => V.str (ws j)) = (List.range (2 * i + 1)).map (fun j => V.str (ws j)) ++ [.str (ws (2 * i + 1)), .str (ws (2 * i + 2))] := by
  rw [show 2 * (i + 1) + 1 = (2 * i + 1) + 1 + 1 by omega, List.range_succ, List.range_succ, List.map_append, List.map_append, List.append_assoc]
  rfl
theorem rowsN_cons (lo n : Nat) : rowsN lo (n + 1) = rowOf (ws lo) :: rowsN (lo + 1) n := by
  unfold rowsN
  rw [List.range_succ_eq_map, List.map_cons, List.map_map]
  congr 1
  refine List.map_congr_left fun j _ => ?_
  show rowOf (ws (lo + (j + 1))) = _
  rw [show lo + (j + 1) = lo + 1 + j by omega]
theorem rowsN_take : ∀ (n k lo : Nat), (rowsN lo n).take k = rowsN lo (min k n)
  | 0, k, lo => by
    rw [Nat.min_zero]
    unfold rowsN
    simp
  | n + 1, 0, lo => by
    rw [Nat.zero_min, List.take_zero]
    unfold rowsN
    simp
  | n + 1, k + 1, lo => by
    rw [rowsN_cons, List.take_succ_cons, rowsN_take n k, show min (k + 1) (n + 1) = min k n + 1 by omega, rowsN_cons]
def TR (G : Hp) (lo : Nat) (xs : List V) : Prop := ∀ j x, xs[j]? = some x → ∃ t : Addr, x = .ref t ∧ G t = some (.tup [.str (ws (lo + j)), .bl false, .bl false])
theorem TR.all {K : PySem.W.Frag} {G : Hp} : ∀ {xs : List V} {lo : Nat}, TR G lo xs → DeAll K G xs (rowsN lo xs.length)
  | [], lo, _ => by
    unfold rowsN
    exact .nil
  | x :: xs, lo, h => by
    obtain ⟨t, rfl, ht⟩ := h 0 x rfl
    rw [List.length_cons, rowsN_cons]
    refine .cons (.tup ht (.cons (.str _) (.cons (.bl _) (.cons (.bl _) .nil)))) (TR.all fun j y hy => ?_)
    obtain ⟨u, e, hu⟩ := h (j + 1) y (by simpa using hy)
    exact ⟨u, e, by rw [show lo + 1 + j = lo + (j + 1) by omega]; exact hu⟩
theorem fit_rows (lo n : Nat) (h : lo + n ≤ 2001) : ∀ d ∈ rowsN lo n, Fit d := fun d hd => by
  unfold rowsN at hd
  obtain ⟨j, hj, rfl⟩ := List.mem_map.mp hd
  have hj' := List.mem_range.mp hj
  refine fit_tup fun x hx => ?_
  simp only [List.mem_cons, List.mem_nil_iff, or_false] at hx
  rcases hx with hx | hx | hx
  · injection hx with hx
    subst hx
    exact Nat.le_trans (ws_over (k := lo + j) (by omega)).1 (by decide)
  · cases hx
  · cases hx
/-- two tuples of the same are alike -/
theorem ne_same {K : PySem.W.Frag} {t1 t2 : Addr} {zs : List V} {ds : List PyData} {H : Hp} {R : VK} (hd : DpAll K H zs ds) (hs : SeqAt.shaped (.tuple ds) = true) (h1 : H t1 = some (.tup zs)) (h2 : H t2 = some (.tup zs)) (k : R (.bl false) H) : rNeD K (.ref t1) (.ref t2) H R := by
  refine ⟨.tuple ds, .tuple ds, .tup (.inl (.inl h1)) hd, .tup (.inl (.inl h2)) hd, hs, hs, ?_⟩
  rw [SeqAt.eqv_refl _ (SeqAt.canLay_of_shaped hs)]
  exact k
theorem eq_same {K : PySem.W.Frag} {t1 t2 : Addr} {zs : List V} {ds : List PyData} {H : Hp} {R : VK} (hd : DpAll K H zs ds) (hs : SeqAt.shaped (.tuple ds) = true) (h1 : H t1 = some (.tup zs)) (h2 : H t2 = some (.tup zs)) (k : R (.bl true) H) : rEqD K (.ref t1) (.ref t2) H R := by
  refine ⟨.tuple ds, .tuple ds, .tup (.inl (.inl h1)) hd, .tup (.inl (.inl h2)) hd, hs, hs, ?_⟩
  rw [SeqAt.eqv_refl _ (SeqAt.canLay_of_shaped hs)]
  exact k
/-- the words of a place list, cut -/
def many4 (m : Nat) : Prop := m = 0 ∨ m = 1999 ∨ m = 2000 ∨ m = 2001
theorem cut_words {m : Nat} (h : m ≤ 2001) : cutV ((List.range 2001).map fun j => V.str (ws j)) none (some (m : Int)) = (List.range m).map fun j => V.str (ws j) := by
  unfold cutV
  rw [HT.sIx_none, HT.sIx_nat, List.drop_zero, Nat.sub_zero, ← List.map_take, List.take_range, List.length_map, List.length_range]
  congr 2
  omega
def dueV (m : Nat) : List V := if m = 1999 ∨ m = 2000 then [] else [.str "places", .int (m : Nat), .int 2000]
theorem due_way {m : Nat} (h : many4 m) : ansV (.str "ab") (way (.str "ab") (rowsN 0 m)) = dueV m := by
  unfold dueV
  rcases h with rfl | rfl | rfl | rfl
  · rw [way_places (by rw [rowsN_len]; decide), rowsN_len, if_neg (by decide)]
    rfl
  · rw [way_fine (by decide) (by decide), if_pos (by decide)]
    rfl
  · rw [way_fine (by decide) (by decide), if_pos (by decide)]
    rfl
  · rw [way_places (by rw [rowsN_len]; decide), rowsN_len, if_neg (by decide)]
    rfl
def dueD (m : Nat) : List PyData := if m = 1999 ∨ m = 2000 then [] else [.str "places", .int (m : Nat), .int 2000]
theorem due_dp {K : PySem.W.Frag} {H : Hp} (m : Nat) : DpAll K H (dueV m) (dueD m) := by
  unfold dueV dueD
  split
  · exact .nil
  · exact .cons (.str _) (.cons (.int _) (.cons (.int _) .nil))
theorem due_sh (m : Nat) : SeqAt.shaped (.tuple (dueD m)) = true := by
  unfold dueD
  split
  · decide +kernel
  · have e : PyData.strOk (Str.ofString "places") = true := by decide +kernel
    simp [SeqAt.shaped, PyData.canLay0, PyData.canLayAll0, PyData.depth, PyData.depthAll, e]
theorem asked_ab {K : PySem.W.Frag} {T : List (Addr × Str)} {H : Hp} {x : Str} {c : Addr} {xs : List V} {ds : List PyData} (hx : x = "ab" ∨ x = "aa") (hc : H c = some (.lst xs)) (ha : DeAll K H xs ds) (hf : ∀ d ∈ ds, Fit d) (hl : xs.length ≤ 5000) (hT : Tabs T H) : Asked K T H (.str x) c (.str x) xs ds := by
  refine ⟨.str x, fun z e => ?_, ?_, .inl hc, ha, hf, hl, hT⟩
  · injection e with e
    subst e
    rcases hx with rfl | rfl <;> decide +kernel
  · rcases hx with rfl | rfl <;> exact ⟨by decide +kernel, by decide +kernel, by decide +kernel⟩
theorem cut_m1 (xs : List V) : cutV xs none (some (-1)) = xs.take (xs.length - 1) := by
  have e : HT.sIx xs.length xs.length (some (-1)) = xs.length - 1 := by
    show (if (-1 : Int) < 0 then (-1 + (xs.length : Int)).toNat else min (-1 : Int).toNat xs.length) = _
    rw [if_pos (by decide)]
    omega
  unfold cutV
  rw [e, HT.sIx_none, List.drop_zero, Nat.sub_zero]
theorem cut_from1 (xs : List V) : cutV xs (some 1) none = xs.drop 1 := by
  unfold cutV
  rw [HT.sIx_none, show ((1 : Int)) = ((1 : Nat) : Int) from rfl, HT.sIx_nat]
  by_cases h : 1 ≤ xs.length
  · rw [show min 1 xs.length = 1 by omega]
    exact List.take_of_length_le (by rw [List.length_drop]; exact Nat.le_refl _)
  · have z : xs = [] := List.eq_nil_of_length_eq_zero (by omega)
    subst z
    rfl
theorem rows_tail : (rowsN 0 2000).drop 1 = rowsN 1 1999 := by
  rw [show (2000 : Nat) = 1999 + 1 from rfl, rowsN_cons]
  rfl
def spMany (K : PySem.W.Frag) (T : List (Addr × Str)) : Sp := fun vs H Q _ => ∃ (p l : Addr) (ns : List Int) (k lf : Int), vs = [.ref p] ∧ PenAt H p l ns k lf ∧ ns.length ≤ 63 ∧ 0 ≤ k ∧ k ≤ 90000 ∧ 0 ≤ lf ∧ Tabs T H ∧ ∀ H', Q (.bl true) H'
section
variable {P : Program} {w : World} {K : PySem.W.Frag} {mg : Str → Option Value} {base : Heap} {f fP fM : Addr} {fd fdP fdM : FuncData} {T : List (Addr × Str)}
theorem sc40 : FnScope ["pen", "many", "places", "at", "rows", "due", "spoilt", "place"] ["pen"] (defScope (top 40)) := ⟨rfl, rfl, rfl, by decide +kernel, rfl, by decide +kernel, by decide +kernel⟩
theorem ok_many (F : Fun K "_law_many" "_law_many" (top 40) f fd) (gN : mg "len" = none) (gRg : mg "range" = none) (gRp : mg "repr" = none) (hsys : ∃ o, K.lookup sysModules = some o)
    (gP : mg "_law_pick" = some (.ref fP)) (kP : PySem.W.keepIn K (.ref fP) = true) (GP : FnOk P w K mg base CX0 2 fP fdP ["pen", "items"] spPick) (bP : Binds K fdP ["pen", "items"] [])
    (gM : mg "_law_met" = some (.ref fM)) (kM : PySem.W.keepIn K (.ref fM) = true) (GM : FnG P w K mg base CX0 8 fM fdM ["letters", "rows"] (spMet K T)) (bM : Binds K fdM ["letters", "rows"] []) :
    FnG P w K mg base CX0 9 f fd ["pen"] (spMany K T) := by
  refine FnG.ok F sc40 (fun vs H Q E h => ?_) (fun cdv A outer s H vs Q E hg hr h => ?_)
  · obtain ⟨p, l, ns, k, lf, rfl, _⟩ := h
    rfl
  · obtain ⟨p, l, ns, k, lf, rfl, hp, hn, hk0, hk1, hf, hT, kk⟩ := h
    have hu64 := hr.units
    have hr2 : Room 2 _ := hr.mono (by decide)
    refine ⟨_, pss_cons (ps_par (i := 1) (j := 2) rfl sc40.nd rfl rfl (by decide) rfl rfl (pa_cons (pe_call GP hr2 (by rfl) gP kP bP .nil pass0 (pa_cons (pv 0) (pa_cons (pe_lst (pa_cons pe_int (pa_cons pe_int (pa_cons pe_int (pa_cons pe_int pa_nil))))) pa_nil))) (pa_cons (pe_lst (pa_cons pe_str pa_nil)) pa_nil)) rfl)
      (pss_cons (ps_for PassesOwn.never rfl (pi_range1 (by rfl) gRg (pa_cons pe_int pa_nil)) (pg_name (i := 3) sc40.nd rfl (Or.inl rfl)) (pss_one (ps_set (i := 2) sc40.nd rfl (Or.inl rfl) (pe_op op_cat (pv 2) (pe_lst (pa_cons (pe_op op_add_str (pe_ix ix_list (pv 2) (pv 3) (fun _ _ => rfl)) pe_str) (pa_cons (pe_op op_add_str (pe_ix ix_list (pv 2) (pv 3) (fun _ _ => rfl)) pe_str) pa_nil)))))))
      (pss_cons (ps_setLc (i := 4) (own := [("place", 7)]) (g := gName 7) (tt := tYes) rfl sc40.nd rfl rfl (sw_true rfl rfl rfl (by decide +kernel)) (pi_list (pe_slice sl_list (pv 2) po_none (po_some (pv 1)))) (blkOk_by (N := ["pen", "many", "places", "at", "rows", "due", "spoilt", "place"]) (sc := defScope (top 40)) (by decide +kernel)) (fun _ _ _ _ _ => pg_name (i := 7) sc40.nd rfl (Or.inl rfl)) (fun _ _ _ _ _ => pts_nil) (fun _ _ _ _ _ => pe_tup (pa_cons (pv 7) (pa_cons pe_bl (pa_cons pe_bl pa_nil)))))
      (pss_cons (ps_set (i := 5) sc40.nd rfl (Or.inl rfl) (pe_ifExp (pt_cmpR op_in_seq (pv 1) (pe_tup (pa_cons pe_int (pa_cons pe_int pa_nil))) (by rfl)) (pe_tup pa_nil) (pe_tup (pa_cons pe_str (pa_cons (pv 1) (pa_cons pe_int pa_nil))))))
      (pss_cons (ps_if (pt_cmpR (op_neD hu64) (pe_callG GM hg hr (by rfl) gM kM bM pass0 (pa_cons pe_str (pa_cons (pv 4) pa_nil))) (pv 5) (nomark _)) (pss_one (ps_ret pe_bl)) pss_nil)
      (pss_cons (ps_set (i := 6) sc40.nd rfl (Or.inl rfl) (pe_op op_cat (pe_slice sl_list (pv 4) po_none (po_some (pe_un un_neg pe_int))) (pe_lst (pa_cons pe_non pa_nil))))
      (pss_cons (ps_if (pt_cmpR (op_neD hu64) (pe_callG GM hg hr (by rfl) gM kM bM pass0 (pa_cons pe_str (pa_cons (pv 6) pa_nil))) (pe_ifExp (pt_cmpR op_eq (pv 1) pe_int (nomark _)) (pv 5) (pe_tup (pa_cons pe_str (pa_cons (pe_op op_sub (pe_callB call_len_seq (by rfl) gN PySem.boot_len (pa_cons (pv 6) pa_nil)) pe_int) (pa_cons pe_bl pa_nil))))) (nomark _)) (pss_one (ps_ret pe_bl)) pss_nil)
      (pss_cons (ps_if (pt_cmpR (op_neD hu64) (pe_callG GM hg hr (by rfl) gM kM bM pass0 (pa_cons pe_str (pa_cons (pv 6) pa_nil))) (pe_tup (pa_cons pe_str (pa_cons (pe_callB (r := rRepD K) (call_repD hg hu64 hsys) (by rfl) gRp PyProof.Rows.boot_repr (pa_cons pe_str pa_nil)) pa_nil))) (nomark _)) (pss_one (ps_ret pe_bl)) pss_nil)
      (pss_one (ps_ret (pe_or (pe_cmpR op_ne (pv 1) pe_int (nomark _)) (pe_one (pe_cmpR (op_eqD hu64) (pe_callG GM hg hr (by rfl) gM kM bM pass0 (pa_cons pe_str (pa_cons (pe_slice sl_list (pv 4) (po_some pe_int) po_none) pa_nil))) (pe_tup (pa_cons pe_str (pa_cons pe_str pa_nil))) (nomark _))))))))))))), ?_⟩
    refine ⟨V.ref p, rfl, (by show 4 ≤ sizeLine; decide), fun a0 na0 => ?_⟩
    refine ⟨p, l, .ref a0, ns, k, lf, [.int 0, .int 1999, .int 2000, .int 2001], rfl, ⟨upd_new na0 _ _ hp.dc, upd_new na0 _ _ hp.ls⟩, hn, hk0, by omega, hf, .inl ⟨a0, rfl, upd_same⟩, by decide, by decide, fun H1 k1 lf1 y e1 e2 e3 hy s1 P1 => ?_⟩
    have T1 : Tabs T H1 := Tabs.pen (hT.ext (upd_new na0)) (upd_new na0 _ _ hp.dc) s1
    obtain ⟨m, rfl, hm4⟩ : ∃ m : Nat, y = .int (m : Nat) ∧ many4 m := by
      simp only [List.mem_cons, List.mem_nil_iff, or_false] at hy
      rcases hy with rfl | rfl | rfl | rfl
      · exact ⟨0, rfl, .inl rfl⟩
      · exact ⟨1999, rfl, .inr (.inl rfl)⟩
      · exact ⟨2000, rfl, .inr (.inr (.inl rfl))⟩
      · exact ⟨2001, rfl, .inr (.inr (.inr rfl))⟩
    have hm : m ≤ 2001 := by
      unfold many4 at hm4
      omega
    refine ⟨(by show 1 ≤ sizeLine; decide), fun b nb => ⟨V.int (m : Nat), V.ref b, rfl, ?_⟩⟩
    have s2 := upd_new (o := .lst [.str ""]) nb
    have hb2 : upd H1 b (.lst [.str ""]) b = some (.lst [.str ""]) := upd_same
    generalize upd H1 b (.lst [.str ""]) = H2 at s2 hb2
    have T2 := T1.ext s2
    have b62 : (2000 : Int) < 2 ^ 62 := by decide
    have bs : (5000 : Nat) < sizeLine := by decide
    have w0 : (List.range (2 * 0 + 1)).map (fun j => V.str (ws j)) = [.str ""] := by
      show [V.str (ws 0)] = _
      rw [ws_zero]
    refine ⟨1000, rfl, by decide, by decide, for_it walk_range (fun i σ G => ∃ (b : Addr) (x3 : Option V), σ = [some (.ref p), some (.int (m : Nat)), some (.ref b), x3, none, none, none, none] ∧ Same H2 G ∧ G b = some (.lst ((List.range (2 * i + 1)).map fun j => V.str (ws j))))
      ⟨b, none, rfl, Same.refl _, by rw [w0]; exact hb2⟩ (fun _ _ _ _ _ => trivial) ?_ ?_⟩
    · rintro i x σ G G2 hi ⟨b, x3, rfl, s3, hb⟩ ⟨rfl, rfl⟩
      have hi' : i < 1000 := hi
      have ei : (0 : Int) + (i : Int) = (i : Int) := by omega
      have hv : ((List.range (2 * i + 1)).map fun j => V.str (ws j))[i]? = some (.str (ws i)) := by
        rw [List.getElem?_map, List.getElem?_range (by omega)]
        rfl
      have hlw : (ws i).length ≤ 200 := (ws_over (k := i) (by omega)).1
      have la : (Str.ofString "a").length = 1 := by decide +kernel
      have lb : (Str.ofString "b").length = 1 := by decide +kernel
      refine ⟨V.ref b, rfl, V.ref b, rfl, V.int (0 + (i : Int)), rfl, b, _, _, .str (ws i), rfl, rfl, .inl (.inl hb), by rw [ei]; exact atI_nat hv, ws i, "a", rfl, rfl, by omega, V.ref b, rfl, V.int (0 + (i : Int)), rfl, b, _, _, .str (ws i), rfl, rfl, .inl (.inl hb), by rw [ei]; exact atI_nat hv, ws i, "b", rfl, rfl, by omega, (by show 2 ≤ sizeLine; decide), fun q1 nq1 => ?_⟩
      have ea : ws i ++ Str.ofString "a" = ws (2 * i + 1) := ws_a i
      have eb : ws i ++ Str.ofString "b" = ws (2 * i + 2) := ws_b i
      rw [ea, eb]
      refine ⟨b, q1, _, _, rfl, rfl, upd_new nq1 _ _ hb, upd_same, ?_, fun q2 nq2 => ⟨q2, _, rfl, s3.trans ((upd_new nq1).trans (upd_new nq2)), ?_⟩⟩
      · rw [List.length_map, List.length_range]
        show 2 * i + 1 + 2 ≤ sizeLine
        omega
      · rw [upd_same, words_upto]
    rintro σ G ⟨b, x3, rfl, s3, hb⟩
    have hb : G b = some (.lst ((List.range 2001).map fun j => V.str (ws j))) := hb
    have T3 := T2.ext s3
    have PG : PenAt G p l ns k1 lf1 := ⟨s3 _ _ (s2 _ _ P1.dc), s3 _ _ (s2 _ _ P1.ls)⟩
    dsimp only
    refine ⟨V.ref b, rfl, V.int (m : Nat), rfl, _, rfl, b, _, rfl, .inl (.inl hb), fun q nq => ?_⟩
    have s4 := upd_new (o := .lst (cutV ((List.range 2001).map fun j => V.str (ws j)) none (some (m : Int)))) nq
    have hq : upd G q (.lst (cutV ((List.range 2001).map fun j => V.str (ws j)) none (some (m : Int)))) q = some (.lst ((List.range m).map fun j => V.str (ws j))) := by rw [upd_same, cut_words hm]
    generalize upd G q (.lst (cutV ((List.range 2001).map fun j => V.str (ws j)) none (some (m : Int)))) = G1 at s4 hq
    have T4 := T3.ext s4
    refine ⟨q, rfl, ⟨_, .inl (.inl hq)⟩, fun D nD => lc_list (K := K) (a := q) (xs := (List.range m).map fun j => V.str (ws j)) (fun i G2 => Same G1 G2 ∧ ∃ xs, G2 D = some (.lst xs) ∧ xs.length = i ∧ TR G2 0 xs)
      ⟨upd_new nD, [], upd_same, rfl, fun j x h => by simp at h⟩ (fun i G2 _ z => .inl (.inl (z.1 _ _ hq))) ?_ ?_⟩
    · rintro i x G2 hx ⟨s5, xs, hD, hl, tr⟩
      have hi : i < m := by
        have z := (List.getElem?_eq_some_iff.mp hx).1
        rw [List.length_map, List.length_range] at z
        exact z
      obtain rfl : V.str (ws i) = x := by
        rw [List.getElem?_map, List.getElem?_range hi] at hx
        exact Option.some.inj hx
      refine ⟨rfl, V.str (ws i), rfl, (by show 3 ≤ sizeLine; decide), fun t nt => ?_⟩
      have s6 := upd_new (o := .tup [.str (ws i), .bl false, .bl false]) nt
      have ht : upd G2 t (.tup [.str (ws i), .bl false, .bl false]) t = some (.tup [.str (ws i), .bl false, .bl false]) := upd_same
      generalize upd G2 t (.tup [.str (ws i), .bl false, .bl false]) = G3 at s6 ht
      have hD3 := s6 _ _ hD
      refine ⟨xs, hD3, by omega, fun c o e => ?_, xs ++ [.ref t], upd_same, by rw [List.length_append, hl]; rfl, fun j x hj => ?_⟩
      · rw [upd_ne (ne_of_none e nD)]
        exact s6 _ _ (s5 _ _ e)
      · by_cases hji : j < xs.length
        · rw [List.getElem?_append_left hji] at hj
          obtain ⟨u, e, hu⟩ := tr j x hj
          have hu3 := s6 _ _ hu
          exact ⟨u, e, by rw [upd_ne (ne_of hu3 hD3 (by intro z; cases z))]; exact hu3⟩
        · have ej : j = i := by
            have z := (List.getElem?_eq_some_iff.mp hj).1
            rw [List.length_append] at z
            have z2 : j < xs.length + 1 := z
            omega
          subst ej
          rw [List.getElem?_append_right (by omega), hl, Nat.sub_self] at hj
          obtain rfl : V.ref t = x := Option.some.inj hj
          exact ⟨t, rfl, by rw [upd_ne (ne_of ht hD3 (by intro z; cases z)), Nat.zero_add]; exact ht⟩
    rintro G2 ⟨s5, xs, hD, hl, tr⟩
    rw [List.length_map, List.length_range] at hl
    have T5 := T4.ext s5
    have hall : DeAll K G2 xs (rowsN 0 m) := by
      have z := tr.all (K := K)
      rw [hl] at z
      exact z
    have hfit := fit_rows 0 m (by omega)
    -- what is due
    have s45 := s4.trans s5
    suffices hdue : ∀ (u : Addr) (G3 : Hp), Same G2 G3 → G3 u = some (.tup (dueV m)) → _ by
      refine ⟨V.int (m : Nat), rfl, (by show 2 ≤ sizeLine; decide), fun u0 nu0 => ⟨u0, [.int 1999, .int 2000], rfl, .inr (.inl (.inl upd_same)), rfl, rfl, _, rfl, ?_⟩⟩
      have s6 := upd_new (o := .tup [.int 1999, .int 2000]) nu0
      generalize upd G2 u0 (.tup [.int 1999, .int 2000]) = G3 at s6
      have ein : (if false = true then !inV (.int (m : Nat)) [.int 1999, .int 2000] else inV (.int (m : Nat)) [.int 1999, .int 2000]) = decide (m = 1999 ∨ m = 2000) := by
        rcases hm4 with rfl | rfl | rfl | rfl <;> decide +kernel
      rw [ein]
      refine ite2 (fun c => ⟨Nat.zero_le _, fun u nu => hdue u _ (s6.trans (upd_new nu)) ?_⟩) (fun c => ⟨V.int (m : Nat), rfl, (by show 3 ≤ sizeLine; decide), fun u nu => hdue u _ (s6.trans (upd_new nu)) ?_⟩)
      · rw [upd_same]
        unfold dueV
        rw [if_pos (of_decide_eq_true c)]
      · rw [upd_same]
        unfold dueV
        rw [if_neg (fun z => c (decide_eq_true z))]
    intro u G3 s6 hu
    have hD3 := s6 _ _ hD
    refine ⟨V.ref D, rfl, .str "ab", D, .str "ab", xs, rowsN 0 m, rfl, asked_ab (.inl rfl) hD3 (de_monoAll s6 _ _ hall) hfit (by omega) (T5.ext s6), fun G4 t eN T6 ht => ⟨V.ref u, rfl, ne_same (due_dp m) (due_sh m) (by rw [ht, due_way hm4]) (eN _ _ hu (fun ps z => nomatch z)) ⟨_, rfl, iteF ?_⟩⟩⟩
    dsimp only
    have hD4 : G4 D = some (.lst xs) := eN _ _ hD3 (fun ps z => nomatch z)
    have hu4 : G4 u = some (.tup (dueV m)) := eN _ _ hu (fun ps z => nomatch z)
    have hall4 : DeAll K G4 xs (rowsN 0 m) := de_extAll eN (de_monoAll s6 _ _ hall)
    refine ⟨V.ref D, rfl, 1, rfl, (-1 : Int), rfl, D, xs, rfl, .inl (.inl hD4), fun q1 nq1 => ⟨(by show 1 ≤ sizeLine; decide), fun q2 nq2 => ?_⟩⟩
    have s7 := upd_new (o := .lst (cutV xs none (some (-1)))) nq1
    have hq1 : upd G4 q1 (.lst (cutV xs none (some (-1)))) q1 = some (.lst (xs.take (xs.length - 1))) := by rw [upd_same, cut_m1]
    generalize upd G4 q1 (.lst (cutV xs none (some (-1)))) = G5 at s7 hq1 nq2
    have s8 := upd_new (o := .lst [.non]) nq2
    have hq2 : upd G5 q2 (.lst [.non]) q2 = some (.lst [.non]) := upd_same
    generalize upd G5 q2 (.lst [.non]) = G6 at s8 hq2
    have htl : (xs.take (xs.length - 1)).length = m - 1 := by
      rw [List.length_take]
      omega
    refine ⟨q1, q2, _, _, rfl, rfl, s8 _ _ hq1, hq2, by rw [htl]; show m - 1 + 1 ≤ sizeLine; omega, fun q3 nq3 => ?_⟩
    have s9 := upd_new (o := .lst (xs.take (xs.length - 1) ++ [.non])) nq3
    have hq3 : upd G6 q3 (.lst (xs.take (xs.length - 1) ++ [.non])) q3 = some (.lst (xs.take (xs.length - 1) ++ [.non])) := upd_same
    generalize upd G6 q3 (.lst (xs.take (xs.length - 1) ++ [.non])) = G7 at s9 hq3
    have s47 := s7.trans (s8.trans s9)
    have hsp : DeAll K G7 (xs.take (xs.length - 1) ++ [.non]) (rowsN 0 (m - 1) ++ [.none]) := by
      have z := deAll_take (xs.length - 1) (de_monoAll s47 _ _ hall4)
      rw [rowsN_take, show min (xs.length - 1) m = m - 1 by omega] at z
      exact deAll_app z (.cons .non .nil)
    have hspl : (xs.take (xs.length - 1) ++ [V.non]).length = m - 1 + 1 := by
      rw [List.length_append, htl]
      rfl
    have hsf : ∀ d ∈ rowsN 0 (m - 1) ++ [PyData.none], Fit d := fun d hd => by
      rcases List.mem_append.mp hd with hd | hd
      · exact fit_rows 0 (m - 1) (by omega) d hd
      · obtain rfl : d = .none := by simpa using hd
        exact (row_flat rfl).f
    generalize xs.take (xs.length - 1) ++ [V.non] = sp at hq3 hsp hspl
    have hu7 := s47 _ _ hu4
    have hD7 := s47 _ _ hD4
    refine ⟨V.ref q3, rfl, .str "ab", q3, .str "ab", sp, rowsN 0 (m - 1) ++ [.none], rfl, asked_ab (.inl rfl) hq3 hsp hsf (by omega) (T6.ext s47), fun G8 t2 eN2 T8 ht2 => ?_⟩
    have hu8 : G8 u = some (.tup (dueV m)) := eN2 _ _ hu7 (fun ps z => nomatch z)
    have hD8 : G8 D = some (.lst xs) := eN2 _ _ hD7 (fun ps z => nomatch z)
    have hq8 : G8 q3 = some (.lst sp) := eN2 _ _ hq3 (fun ps z => nomatch z)
    have hsp8 := de_extAll eN2 hsp
    have hall8 : DeAll K G8 xs (rowsN 0 m) := de_extAll eN2 (de_monoAll s47 _ _ hall4)
    suffices hnext : ∀ G9, Same G8 G9 → _ by
      refine ⟨V.int (m : Nat), rfl, rfl, _, rfl, ?_⟩
      refine ite2 (fun c => ?_) (fun c => ?_)
      · have em : m = 2001 := by
          have z := of_decide_eq_true c
          injection z with z
          omega
        refine ⟨V.ref u, rfl, ne_same (due_dp m) (due_sh m) ?_ hu8 ⟨_, rfl, iteF (hnext G8 (Same.refl _))⟩⟩
        rw [ht2, way_places (by rw [List.length_append, rowsN_len]; show ¬ (1 ≤ m - 1 + 1 ∧ m - 1 + 1 ≤ 2000); omega), List.length_append, rowsN_len]
        subst em
        rfl
      · have em : m ≤ 2000 := by
          unfold many4 at hm4
          have z : m ≠ 2001 := fun z => c (by subst z; rfl)
          omega
        refine ⟨V.ref q3, rfl, q3, sp, rfl, .inl (.inl (.inl hq8)), _, 1, rfl, rfl, (by show 3 ≤ sizeLine; decide), fun u2 nu2 => ?_⟩
        have el : (sp.length : Int) - 1 = ((m - 1 : Nat) : Int) := by omega
        refine ne_same (ds := [.str "row", .int ((sp.length : Int) - 1), .bool true]) (.cons (.str _) (.cons (.int _) (.cons (.bl _) .nil))) ?_ ?_ upd_same ⟨_, rfl, iteF (hnext _ (upd_new nu2))⟩
        · have e : PyData.strOk (Str.ofString "row") = true := by decide +kernel
          simp [SeqAt.shaped, PyData.canLay0, PyData.canLayAll0, PyData.depth, PyData.depthAll, e]
        · rw [upd_new nu2 _ _ ht2, way_none (by omega)]
          show some (HO.tup [.str "row", .int ((m - 1 : Nat) : Int), .bl true]) = _
          rw [← el]
    intro G9 s10
    dsimp only
    have hq9 := s10 _ _ hq8
    have hD9 := s10 _ _ hD8
    refine ⟨V.ref q3, rfl, .str "aa", q3, .str "aa", sp, rowsN 0 (m - 1) ++ [.none], rfl, asked_ab (.inr rfl) hq9 (de_monoAll s10 _ _ hsp8) hsf (by omega) (T8.ext s10), fun G10 t3 eN3 T10 ht3 => ?_⟩
    have hD10 : G10 D = some (.lst xs) := eN3 _ _ hD9 (fun ps z => nomatch z)
    have hall10 : DeAll K G10 xs (rowsN 0 m) := de_extAll eN3 (de_monoAll s10 _ _ hall8)
    refine ⟨.str "aa", .str "aa", rfl, .str _, (by decide +kernel), (by decide +kernel), (by decide +kernel), (by show 2 ≤ sizeLine; decide), fun u3 nu3 => ?_⟩
    refine ne_same (ds := [.str "letters", .str (PyData.shown (.str "aa"))]) (.cons (.str _) (.cons (.str _) .nil)) (by decide +kernel) ?_ upd_same ⟨_, rfl, iteF ?_⟩
    · rw [upd_new nu3 _ _ ht3, way_aa]
      rfl
    dsimp only
    have s11 := upd_new (o := .tup [.str "letters", .str (PyData.shown (.str "aa"))]) nu3
    generalize upd G10 u3 (.tup [.str "letters", .str (PyData.shown (.str "aa"))]) = G11 at s11
    have hD11 := s11 _ _ hD10
    have T11 := T10.ext s11
    have hall11 := de_monoAll s11 _ _ hall10
    refine ⟨V.int (m : Nat), rfl, rfl, ?_⟩
    refine ⟨_, rfl, ?_⟩
    by_cases em : m = 2000
    case neg =>
      have z : (!decide (V.int (m : Nat) = V.int 2000)) = true := by
        have z : ¬ V.int (m : Nat) = V.int 2000 := fun z => em (by injection z with z; omega)
        rw [decide_eq_false z]
        rfl
      rw [z]
      exact iteT (kk _)
    subst em
    refine iteF ⟨V.ref D, rfl, 1, rfl, D, xs, rfl, .inl (.inl hD11), fun q4 nq4 => ?_⟩
    have s12 := upd_new (o := .lst (cutV xs (some 1) none)) nq4
    have hq4 : upd G11 q4 (.lst (cutV xs (some 1) none)) q4 = some (.lst (xs.drop 1)) := by rw [upd_same, cut_from1]
    generalize upd G11 q4 (.lst (cutV xs (some 1) none)) = G12 at s12 hq4
    have hdr : DeAll K G12 (xs.drop 1) (rowsN 1 1999) := by
      have z := deAll_drop 1 (de_monoAll s12 _ _ hall11)
      rw [rows_tail] at z
      exact z
    refine ⟨.str "ab", q4, .str "ab", xs.drop 1, rowsN 1 1999, rfl, asked_ab (.inl rfl) hq4 hdr (fit_rows 1 1999 (by decide)) (by rw [List.length_drop]; omega) (T11.ext s12), fun G13 t4 eN4 T13 ht4 => ?_⟩
    refine ⟨(by show 2 ≤ sizeLine; decide), fun u4 nu4 => ?_⟩
    refine eq_same (ds := [.str "lone", .str "a"]) (.cons (.str _) (.cons (.str _) .nil)) (by decide +kernel) ?_ upd_same (kk _)
    rw [upd_new nu4 _ _ ht4, way_tail]
    rfl
end
end SK
namespace SK
open PySem PySem.Spec PyProof.Rows L2 LamX NdefX
open K0 (De DeAll XCl spX withX)
/-! ### the law -/
def ansD (L : PyData) : Way → List PyData
  | .letters => [.str "letters", .str L.shown]
  | .places n => [.str "places", .int n, .int 2000]
  | .row i => [.str "row", .int i, .bool true]
  | .lone p => [.str "lone", .str p]
  | .fine => []
theorem ans_dp {K : PySem.W.Frag} {H : Hp} (L : PyData) : ∀ w : Way, DpAll K H (ansV L w) (ansD L w)
  | .letters => .cons (.str _) (.cons (.str _) .nil)
  | .places _ => .cons (.str _) (.cons (.int _) (.cons (.int _) .nil))
  | .row _ => .cons (.str _) (.cons (.int _) (.cons (.bl _) .nil))
  | .lone _ => .cons (.str _) (.cons (.str _) .nil)
  | .fine => .nil
theorem ans_sh {L : PyData} (h : PyData.strOk L.shown = true) : ∀ w : Way, (∀ p, w = .lone p → PyData.strOk p = true) → SeqAt.shaped (.tuple (ansD L w)) = true
  | .letters, _ => by
    have e : PyData.strOk (Str.ofString "letters") = true := by decide +kernel
    simp [ansD, SeqAt.shaped, PyData.canLay0, PyData.canLayAll0, PyData.depth, PyData.depthAll, e, h]
  | .places _, _ => by
    have e : PyData.strOk (Str.ofString "places") = true := by decide +kernel
    simp [ansD, SeqAt.shaped, PyData.canLay0, PyData.canLayAll0, PyData.depth, PyData.depthAll, e]
  | .row _, _ => by
    have e : PyData.strOk (Str.ofString "row") = true := by decide +kernel
    simp [ansD, SeqAt.shaped, PyData.canLay0, PyData.canLayAll0, PyData.depth, PyData.depthAll, e]
  | .lone p, hp => by
    have e : PyData.strOk (Str.ofString "lone") = true := by decide +kernel
    simp [ansD, SeqAt.shaped, PyData.canLay0, PyData.canLayAll0, PyData.depth, PyData.depthAll, e, hp p rfl]
  | .fine, _ => by
    show SeqAt.shaped (.tuple []) = true
    decide +kernel
theorem ok_of_lone {L : PyData} {ds : List PyData} {p : Str} (hL : ∀ z, L = .str z → z.cps.all (· < 128) = true) (h : way L ds = .lone p) : PyData.strOk p = true := by
  unfold way at h
  by_cases c1 : okLd L = true
  · rw [if_pos c1] at h
    obtain ⟨z, rfl⟩ : ∃ z, L = .str z := by
      cases L with
      | str z => exact ⟨z, rfl⟩
      | _ => cases c1
    by_cases c2 : 1 ≤ ds.length ∧ ds.length ≤ 2000
    · rw [if_pos c2] at h
      cases c3 : scan (strOf (.str z)) [] 0 ds with
      | some i =>
        rw [c3] at h
        cases h
      | none =>
        rw [c3] at h
        cases c4 : lone (sortW (strOf (.str z)) (ds.map placeOf)) with
        | none =>
          simp only [c4] at h
          cases h
        | some q =>
          simp only [c4] at h
          injection h with h
          subst h
          have hm : q ∈ ds.map placeOf := (sortW_perm _ _).mem_iff.mp (List.mem_of_find?_eq_some c4)
          obtain ⟨d, hd, rfl⟩ := List.mem_map.mp hm
          obtain ⟨px, pb, pc, _, _, hpl, _, hp2⟩ := okR_elems ((scan_none c3).1 d hd).1
          rw [hpl]
          have ha := hL z rfl
          rw [← Array.all_toList, List.all_eq_true] at ha
          unfold PyData.strOk
          rw [← Array.all_toList, List.all_eq_true]
          intro c hc
          have z1 := of_decide_eq_true (ha c (hp2 c hc))
          exact decide_eq_true (by omega)
    · rw [if_neg c2] at h
      cases h
  · rw [if_neg c1] at h
    cases h
theorem six_ok : ∀ x ∈ six, Asc x ∧ LetD (.str x) := by
  intro x hx
  simp only [six, List.mem_cons, List.mem_nil_iff, or_false] at hx
  rcases hx with rfl | rfl | rfl | rfl | rfl | rfl <;>
    exact ⟨⟨by decide +kernel, by decide +kernel, by decide +kernel⟩, ⟨⟨by decide +kernel, by decide +kernel, by decide +kernel⟩, (fun z e => by injection e with e; subst e; decide +kernel), by decide +kernel⟩⟩
def rListOf (K : PySem.W.Frag) : List V → Hp → VK → Prop := fun xs H Q => ∃ p ys, xs = [V.ref p] ∧ (SqL K H p ys ∨ SqT K H p ys) ∧ ∀ l : Addr, H l = none → Q (V.ref l) (upd H l (HO.lst ys))
def spLaw (K : PySem.W.Frag) (T : List (Addr × Str)) : Sp := fun vs H Q _ => ∃ (a : Addr) (ns : List Int), vs = [.ref a] ∧ SqL K H a (ns.map V.int) ∧ ns.length ≤ 63 ∧ Tabs T H ∧ ∀ H', Q (.bl true) H'
section
variable {P : Program} {w : World} {K : PySem.W.Frag} {mg : Str → Option Value} {base : Heap} {f fPen fD fSix fSh fRw fSo fM fU fMa : Addr} {fd fdPen fdD fdSix fdSh fdRw fdSo fdM fdU fdMa : FuncData} {T : List (Addr × Str)}
theorem sc41 : FnScope ["script", "pen", "turn", "letters", "rows", "k", "row"] ["script"] (defScope (top 41)) := ⟨rfl, rfl, rfl, by decide +kernel, rfl, by decide +kernel, by decide +kernel⟩
theorem ok_law (F : Fun K "law" "law" (top 41) f fd) (gRg : mg "range" = none) (gLs : mg "list" = none) (gI : mg "isinstance" = none) (gS : mg "str" = none) (gT : mg "tuple" = none)
    (gPen : mg "_law_pen_of" = some (.ref fPen)) (kPen : PySem.W.keepIn K (.ref fPen) = true) (GPen : FnOk P w K mg base CX0 1 fPen fdPen ["script"] (spPen K)) (bPen : Binds K fdPen ["script"] [])
    (gD : mg "_law_draw" = some (.ref fD)) (kD : PySem.W.keepIn K (.ref fD) = true) (GD : FnOk P w K mg base CX0 1 fD fdD ["pen", "many"] spDraw) (bD : Binds K fdD ["pen", "many"] [])
    (gSix : mg "_law_letters_of" = some (.ref fSix)) (kSix : PySem.W.keepIn K (.ref fSix) = true) (GSix : FnOk P w K mg base CX0 3 fSix fdSix ["pen"] spSix) (bSix : Binds K fdSix ["pen"] [])
    (gSh : mg "_law_shuffled" = some (.ref fSh)) (kSh : PySem.W.keepIn K (.ref fSh) = true) (GSh : FnOk P w K mg base CX0 2 fSh fdSh ["pen", "items"] (spShuf K)) (bSh : Binds K fdSh ["pen", "items"] [])
    (gRw : mg "_law_some_rows" = some (.ref fRw)) (kRw : PySem.W.keepIn K (.ref fRw) = true) (GRw : FnOk P w K mg base CX0 4 fRw fdRw ["pen", "letters"] spRws) (bRw : Binds K fdRw ["pen", "letters"] [])
    (gSo : mg "_law_spoilt" = some (.ref fSo)) (kSo : PySem.W.keepIn K (.ref fSo) = true) (GSo : FnOk P w K mg base CX0 3 fSo fdSo ["pen", "letters", "rows"] (spSpoil K)) (bSo : Binds K fdSo ["pen", "letters", "rows"] [])
    (gM : mg "_law_met" = some (.ref fM)) (kM : PySem.W.keepIn K (.ref fM) = true) (GM : FnG P w K mg base CX0 8 fM fdM ["letters", "rows"] (spMet K T)) (bM : Binds K fdM ["letters", "rows"] [])
    (gU : mg "_law_due" = some (.ref fU)) (kU : PySem.W.keepIn K (.ref fU) = true) (GU : FnG P w K mg base CX0 2 fU fdU ["letters", "rows"] (spDue K)) (bU : Binds K fdU ["letters", "rows"] [])
    (gMa : mg "_law_many" = some (.ref fMa)) (kMa : PySem.W.keepIn K (.ref fMa) = true) (GMa : FnG P w K mg base CX0 9 fMa fdMa ["pen"] (spMany K T)) (bMa : Binds K fdMa ["pen"] []) :
    FnG P w K mg base CX0 10 f fd ["script"] (spLaw K T) := by
  refine FnG.ok F sc41 (fun vs H Q E h => ?_) (fun cdv A outer s H vs Q E hg hr h => ?_)
  · obtain ⟨a, ns, rfl, _⟩ := h
    rfl
  · obtain ⟨a, ns, rfl, hS, hn, hT, kk⟩ := h
    have hu64 := hr.units
    have hr1 : Room 1 _ := hr.mono (by decide)
    have hr2 : Room 2 _ := hr.mono (by decide)
    have hr3 : Room 3 _ := hr.mono (by decide)
    have hr4 : Room 4 _ := hr.mono (by decide)
    have hr8 : Room 8 _ := hr.mono (by decide)
    refine ⟨_, pss_cons (ps_set (i := 1) sc41.nd rfl (Or.inr rfl) (pe_call GPen hr1 (by rfl) gPen kPen bPen .nil pass0 (pa_cons (pv 0) pa_nil)))
      (pss_cons (ps_for PassesOwn.never rfl (pi_range1 (by rfl) gRg (pa_cons pe_int pa_nil)) (pg_name (i := 2) sc41.nd rfl (Or.inl rfl)) (pss_cons (ps_set (i := 3) sc41.nd rfl (Or.inl rfl) (pe_call GSix hr3 (by rfl) gSix kSix bSix .nil pass0 (pa_cons (pv 1) pa_nil))) (pss_cons (ps_set (i := 4) sc41.nd rfl (Or.inl rfl) (pe_call GSh hr2 (by rfl) gSh kSh bSh .nil pass0 (pa_cons (pv 1) (pa_cons (pe_call GRw hr4 (by rfl) gRw kRw bRw .nil pass0 (pa_cons (pv 1) (pa_cons (pv 3) pa_nil))) pa_nil)))) (pss_cons (ps_setLc (i := 4) (own := [("row", 6)]) (g := gName 6) (tt := tYes) rfl sc41.nd rfl rfl (sw_true rfl rfl rfl (by decide +kernel)) (pi_list (pv 4)) (blkOk_by (N := ["script", "pen", "turn", "letters", "rows", "k", "row"]) (sc := defScope (top 41)) (by decide +kernel)) (fun _ _ _ _ _ => pg_name (i := 6) sc41.nd rfl (Or.inl rfl)) (fun _ _ _ _ _ => pts_nil)
          (fun _ _ _ _ _ => pe_ifExp (pt_cmpR op_eq (pe_call GD hr1 (by rfl) gD kD bD .nil pass0 (pa_cons (pv 1) (pa_cons pe_int pa_nil))) pe_int (nomark _)) (pe_callTy (r := rListOf K) call_list_of (by rfl) gLs PyProof.Rows.boot_list (pa_cons (pv 6) pa_nil)) (pv 6))) (pss_cons (ps_for PassesOwn.never rfl (pi_range1 (by rfl) gRg (pa_cons (pe_call GD hr1 (by rfl) gD kD bD .nil pass0 (pa_cons (pv 1) (pa_cons pe_int pa_nil))) pa_nil)) (pg_name (i := 5) sc41.nd rfl (Or.inl rfl)) (pss_one (ps_if (pt_val (pe_callB call_isi (by rfl) gI PyProof.Rows.boot_isinstance (pa_cons (pv 3) (pa_cons (pe_bltn (v := .ty "str") (by rfl) gS PyProof.Rows.boot_str rfl) pa_nil)))) (pss_one (ps_asg (pe_call GSo hr3 (by rfl) gSo kSo bSo .nil pass0 (pa_cons (pv 1) (pa_cons (pv 3) (pa_cons (pv 4) pa_nil)))) (pg_tup (by rfl) (pgs_cons (pg_name (i := 3) sc41.nd rfl (Or.inl rfl)) (pgs_cons (pg_name (i := 4) sc41.nd rfl (Or.inl rfl)) pgs_nil))))) pss_nil))) (pss_cons (ps_if (pt_cmpR (op_neD hu64) (pe_callG GM hg hr8 (by rfl) gM kM bM pass0 (pa_cons (pv 3) (pa_cons (pv 4) pa_nil))) (pe_callG GU hg hr2 (by rfl) gU kU bU pass0 (pa_cons (pv 3) (pa_cons (pv 4) pa_nil))) (nomark _)) (pss_one (ps_ret pe_bl)) pss_nil) (pss_one (ps_if (pt_cmpR (op_neD hu64) (pe_callG GM hg hr8 (by rfl) gM kM bM pass0 (pa_cons (pv 3) (pa_cons (pe_callTy call_tuple_of (by rfl) gT PyProof.Rows.boot_tuple (pa_cons (pv 4) pa_nil)) pa_nil))) (pe_callG GU hg hr2 (by rfl) gU kU bU pass0 (pa_cons (pv 3) (pa_cons (pv 4) pa_nil))) (nomark _)) (pss_one (ps_ret pe_bl)) pss_nil))))))))
      (pss_one (ps_ret (pe_callG GMa hg hr (by rfl) gMa kMa bMa pass0 (pa_cons (pv 1) pa_nil))))), ?_⟩
    refine ⟨V.ref a, rfl, a, ns, rfl, hS, hn, fun H1 p l s1 P1 => ?_⟩
    have T1 := hT.ext s1
    refine ⟨8, rfl, by decide, by decide, for_it walk_range (fun i σ G => ∃ (x2 x3 x4 x5 : Option V) (k1 lf1 : Int), σ = [some (.ref a), some (.ref p), x2, x3, x4, x5, none] ∧ k1 ≤ 300 * i ∧ 0 ≤ k1 ∧ 0 ≤ lf1 ∧ PenAt G p l ns k1 lf1 ∧ Tabs T G)
      ⟨none, none, none, none, 0, 0, rfl, by omega, Int.le_refl _, Int.le_refl _, P1, T1⟩ (fun _ _ _ _ _ => trivial) ?_ ?_⟩
    case refine_2 =>
      rintro σ G ⟨x2, x3, x4, x5, k1, lf1, rfl, f1, f2, f3, PG, TG⟩
      have f1 : k1 ≤ 300 * 8 := f1
      exact ⟨V.ref p, rfl, p, l, ns, k1, lf1, rfl, PG, hn, f2, by omega, f3, TG, kk⟩
    rintro i x σ G G2 hi ⟨x2, x3, x4, x5, k1, lf1, rfl, f1, f2, f3, PG, TG⟩ ⟨rfl, rfl⟩
    have hi' : i < 8 := hi
    refine ⟨V.ref p, rfl, p, l, ns, k1, lf1, rfl, PG, hn, f2, by omega, f3, fun G3 k3 lf3 ls g1 g2 g3 hls s3 P3 => ?_⟩
    obtain ⟨hA, hLd⟩ := six_ok ls hls
    have T3 := Tabs.pen TG PG.dc s3
    refine ⟨V.ref p, rfl, V.ref p, rfl, V.str ls, rfl, p, l, ns, k3, lf3, ls, rfl, P3, hn, g2, by omega, g3, hA, fun G4 k4 lf4 b xs h1 h2 h3 hX hxl s4 P4 hb => ⟨p, l, b, ns, k4, lf4, xs, rfl, P4, hn, h2, by omega, h3, .inl (.inl hb), by omega, hX, fun G5 k5 lf5 c ys j1 j2 j3 hY hyl s5 P5 hc => ?_⟩⟩
    have T5 := Tabs.pen (Tabs.pen T3 P3.dc s4) P4.dc s5
    have hR : ∀ y ∈ ys, IsRw G5 y := fun y hy => (hX y (hY y hy)).mono P4.dc s5
    have ncp : c ≠ p := ne_of hc P5.dc (by intro z; cases z)
    refine ⟨V.ref c, rfl, c, rfl, ⟨_, .inl (.inl hc)⟩, fun D nD => lc_list (K := K) (a := c) (xs := ys) (fun i G6 => ∃ (k6 lf6 : Int) (zs : List V), k6 ≤ k5 + i ∧ 0 ≤ k6 ∧ 0 ≤ lf6 ∧ PenAt G6 p l ns k6 lf6 ∧ SameBut p G5 G6 ∧ G6 D = some (.lst zs) ∧ zs.length = i ∧ ∀ z ∈ zs, ∃ (t : Addr) (w : Str) (b c : Bool), z = .ref t ∧ (G6 t = some (.tup [.str w, .bl b, .bl c]) ∨ (t ≠ D ∧ G6 t = some (.lst [.str w, .bl b, .bl c]))) ∧ w.cps.size ≤ 200)
      ⟨k5, lf5, [], by omega, j2, j3, ⟨upd_new nD _ _ P5.dc, upd_new nD _ _ P5.ls⟩, .of (upd_new nD), upd_same, rfl, fun z hz => absurd hz (by simp)⟩ (fun i G6 _ q => ?_) ?_ ?_⟩
    · obtain ⟨k6, lf6, zs, _, _, _, _, s6, _⟩ := q
      exact .inl (.inl (s6 _ _ ncp hc))
    · rintro j y G6 hy ⟨k6, lf6, zs, m1, m2, m3, P6, s6, hD, hzl, hZ⟩
      have hjl : j < ys.length := (List.getElem?_eq_some_iff.mp hy).1
      obtain ⟨t, w, b1, c1, rfl, ht, hw, _⟩ := hR y (List.mem_of_getElem? hy)
      have ntp : t ≠ p := ne_of ht P5.dc (by intro z; cases z)
      have nDp : D ≠ p := ne_of hD P6.dc (by intro z; cases z)
      have ht6 := s6 _ _ ntp ht
      refine ⟨rfl, V.ref p, rfl, p, l, ns, k6, lf6, 3, rfl, P6, hn, m2, by omega, m3, by decide, by decide, fun G7 k7 lf7 d n1 n2 n3 n4 n5 s7 P7 => ⟨rfl, _, rfl, ?_⟩⟩
      have hD7 := s7 _ _ nDp hD
      have ht7 := s7 _ _ ntp ht6
      have b100 : (1000 : Nat) < sizeLine := by decide
      have go : ∀ (G8 : Hp) (t8 : Addr), Same G7 G8 → (G8 t8 = some (.tup [.str w, .bl b1, .bl c1]) ∨ (t8 ≠ D ∧ G8 t8 = some (.lst [.str w, .bl b1, .bl c1]))) → ∃ acc, G8 D = some (.lst acc) ∧ acc.length < sizeLine ∧ ∃ (k6 lf6 : Int) (zs : List V), k6 ≤ k5 + ((j + 1 : Nat) : Int) ∧ 0 ≤ k6 ∧ 0 ≤ lf6 ∧ PenAt (upd G8 D (.lst (acc ++ [.ref t8]))) p l ns k6 lf6 ∧ SameBut p G5 (upd G8 D (.lst (acc ++ [.ref t8]))) ∧ (upd G8 D (.lst (acc ++ [.ref t8]))) D = some (.lst zs) ∧ zs.length = j + 1 ∧
          ∀ z ∈ zs, ∃ (t : Addr) (w : Str) (b c : Bool), z = .ref t ∧ ((upd G8 D (.lst (acc ++ [.ref t8]))) t = some (.tup [.str w, .bl b, .bl c]) ∨ (t ≠ D ∧ (upd G8 D (.lst (acc ++ [.ref t8]))) t = some (.lst [.str w, .bl b, .bl c]))) ∧ w.cps.size ≤ 200 := fun G8 t8 s8 h8 => by
        have hD8 := s8 _ _ hD7
        refine ⟨zs, hD8, by omega, k7, lf7, zs ++ [.ref t8], by omega, n2, n3, ⟨?_, ?_⟩, fun q o hq e => ?_, upd_same, by rw [List.length_append, hzl]; rfl, fun z hz => ?_⟩
        · rw [upd_ne (Ne.symm nDp)]
          exact s8 _ _ P7.dc
        · rw [upd_ne (ne_of_none P5.ls nD)]
          exact s8 _ _ P7.ls
        · rw [upd_ne (ne_of_none e nD)]
          exact s8 _ _ (s7 _ _ hq (s6 _ _ hq e))
        · rcases List.mem_append.mp hz with hz | hz
          · obtain ⟨u, w', b', c', rfl, hu, hw'⟩ := hZ z hz
            refine ⟨u, w', b', c', rfl, ?_, hw'⟩
            rcases hu with hu | ⟨hn, hu⟩
            · have n1 : u ≠ p := ne_of hu P6.dc (by intro z; cases z)
              have n2 : u ≠ D := ne_of hu hD (by intro z; cases z)
              exact .inl (by rw [upd_ne n2]; exact s8 _ _ (s7 _ _ n1 hu))
            · have n1 : u ≠ p := ne_of hu P6.dc (by intro z; cases z)
              exact .inr ⟨hn, by rw [upd_ne hn]; exact s8 _ _ (s7 _ _ n1 hu)⟩
          · obtain rfl : z = .ref t8 := by simpa using hz
            refine ⟨t8, w, b1, c1, rfl, ?_, hw⟩
            rcases h8 with h8 | ⟨hn, h8⟩
            · have n2 : t8 ≠ D := ne_of h8 hD8 (by intro z; cases z)
              exact .inl (by rw [upd_ne n2]; exact h8)
            · exact .inr ⟨hn, by rw [upd_ne hn]; exact h8⟩
      refine ite2 (fun c => ⟨V.ref t, rfl, t, _, rfl, .inr (.inl (.inl ht7)), fun q nq => ?_⟩) (fun c => ⟨V.ref t, rfl, go G7 t (Same.refl _) (.inl ht7)⟩)
      exact go _ q (upd_new nq) (.inr ⟨(ne_of_none hD7 nq).symm, upd_same⟩)
    rintro G6 ⟨k6, lf6, zs, m1, m2, m3, P6, s6, hD, hzl, hZ⟩
    have T6 := Tabs.pen T5 P5.dc s6
    have pw6 : PW K G6 zs := fun z hz => by
      obtain ⟨t, w, b, c, rfl, ht, hw⟩ := hZ z hz
      have rd := row_three (ds := [.str w, .bool b, .bool c]) rfl (fun v e => by injection e with e; subst e; omega) (.bl b) (.bl c)
      rcases ht with ht | ⟨_, ht⟩
      · exact ⟨_, .tup ht (.cons (.str _) (.cons (.bl _) (.cons (.bl _) .nil))), rd.1⟩
      · exact ⟨_, .lst ht (.cons (.str _) (.cons (.bl _) (.cons (.bl _) .nil))), rd.2⟩
    obtain ⟨ds, hds, hrd⟩ := pw6.all
    refine ⟨V.ref p, rfl, p, l, ns, k6, lf6, 3, rfl, P6, hn, m2, by omega, m3, by decide, by decide, fun G7 k7 lf7 d n1 n2 n3 n4 n5 s7 P7 => ?_⟩
    have T7 := Tabs.pen T6 P6.dc s7
    have nDp : D ≠ p := ne_of hD P6.dc (by intro z; cases z)
    have b62 : (3 : Int) < 2 ^ 62 := by decide
    have hd2 : d.toNat ≤ 2 := by omega
    refine ⟨d, rfl, by omega, by omega, for_it walk_range (fun j σ G8 => ∃ (x5 : Option V) (k8 lf8 : Int) (vL : V) (L : PyData) (a4 : Addr) (zs : List V) (ds : List PyData), σ = [some (.ref a), some (.ref p), some (.int (0 + (i : Int))), some vL, some (.ref a4), x5, none] ∧ k8 ≤ k7 + 5 * j ∧ 0 ≤ k8 ∧ 0 ≤ lf8 ∧ PenAt G8 p l ns k8 lf8 ∧ Tabs T G8 ∧ De K G8 vL L ∧ LetD L ∧ G8 a4 = some (.lst zs) ∧ DeAll K G8 zs ds ∧ (∀ d ∈ ds, RowD d) ∧ zs.length ≤ 21 + j)
      ⟨x5, k7, lf7, .str ls, .str ls, D, zs, ds, rfl, by omega, n2, n3, P7, T7, .str ls, hLd, s7 _ _ nDp hD, de_butAll P6.dc s7 hds, hrd, by omega⟩ (fun _ _ _ _ _ => trivial) ?_ ?_⟩
    · rintro j y σ G8 G9 hj ⟨x5', k8, lf8, vL, L, a4, zs', ds', rfl, q1, q2, q3, P8, T8, hL, hLd', ha4, hd4, hr4', hz4⟩ ⟨rfl, rfl⟩
      have hj' : j < 2 := by omega
      obtain ⟨Tn, tx, ks, _⟩ := ty_of hL
      refine ⟨vL, rfl, vL, .ty "str", .type Tn, .type "str", isS L, rfl, .ty _, tx, kit_ty ks, _, rfl, ?_⟩
      cases L with
      | str z =>
        cases hL
        refine iteT ⟨V.ref p, rfl, V.str z, rfl, V.ref a4, rfl, p, l, a4, ns, k8, lf8, z, zs', ds', rfl, P8, hn, q2, by omega, q3, hLd', ha4, hd4, hr4', by omega, fun H' k' lf' t vL' L' a' xs' ds'' r1 r2 r3 r4 r5 r6 r7 r8 r9 r10 r11 r12 => ?_⟩
        exact ⟨t, _, rfl, .inl (.inl r6), rfl, _, _, rfl, _, _, rfl, rfl, _, k', lf', vL', L', a', xs', ds'', rfl, by omega, r2, r3, r5, Tabs.pen T8 P8.dc r4, r7, r8, r9, r10, r11, by omega⟩
      | _ => exact iteF ⟨_, k8, lf8, vL, _, a4, zs', ds', rfl, by omega, q2, q3, P8, T8, hL, hLd', ha4, hd4, hr4', by omega⟩
    rintro σ G8 ⟨x5', k8, lf8, vL, L, a4, zs', ds', rfl, q1, q2, q3, P8, T8, hL, hLd', ha4, hd4, hr4', hz4⟩
    have hasc : ∀ z, L = .str z → z.cps.all (· < 128) = true ∧ z.cps.size ≤ 1000 := fun z e => ⟨(hLd'.as z e).1, Nat.le_trans (hLd'.as z e).2 (by decide)⟩
    have hsh := ans_sh hLd'.ok (way L ds') fun p h => ok_of_lone (fun z e => (hLd'.as z e).1) h
    have hfp : ∀ d ∈ ds', Fit d ∧ FitP d := fun d hd => ⟨(hr4' d hd).f, (hr4' d hd).p⟩
    have hz5 : zs'.length ≤ 5000 := by omega
    refine ⟨vL, rfl, V.ref a4, rfl, vL, a4, L, zs', ds', rfl, ⟨hL, hasc, hLd'.sm, .inl ha4, hd4, fun d hd => (hfp d hd).1, hz5, T8⟩, fun G9 t eN T9 ht => ?_⟩
    have ha9 : G9 a4 = some (.lst zs') := eN _ _ ha4 (fun ps z => nomatch z)
    refine ⟨vL, rfl, V.ref a4, rfl, vL, a4, L, zs', ds', rfl, de_ext eN hL, hasc, hLd'.sm, ha9, de_extAll eN hd4, hfp, hz5, fun G10 t2 sm ht2 => ne_same (ans_dp L _) hsh (sm _ _ ht) ht2 ⟨_, rfl, iteF ?_⟩⟩
    dsimp only
    have ha10 := sm _ _ ha9
    have T10 := T9.ext sm
    have hL10 : De K G10 vL L := de_mono sm _ _ (de_ext eN hL)
    have hd10 : DeAll K G10 zs' ds' := de_monoAll sm _ _ (de_extAll eN hd4)
    have P10 : PenAt G10 p l ns k8 lf8 := ⟨sm _ _ (eN _ _ P8.dc (fun ps z => nomatch z)), sm _ _ (eN _ _ P8.ls (fun ps z => nomatch z))⟩
    refine ⟨vL, rfl, V.ref a4, rfl, a4, zs', rfl, .inl ⟨.inl (.inl ha10), fun q nq => ?_⟩⟩
    have s11 := upd_new (o := .tup zs') nq
    have hq11 : upd G10 q (.tup zs') q = some (.tup zs') := upd_same
    generalize upd G10 q (.tup zs') = G11 at s11 hq11
    refine ⟨vL, q, L, zs', ds', rfl, ⟨de_mono s11 _ _ hL10, hasc, hLd'.sm, .inr hq11, de_monoAll s11 _ _ hd10, fun d hd => (hfp d hd).1, hz5, T10.ext s11⟩, fun G12 t3 eN2 T12 ht3 => ?_⟩
    have ha12 : G12 a4 = some (.lst zs') := eN2 _ _ (s11 _ _ ha10) (fun ps z => nomatch z)
    refine ⟨vL, rfl, V.ref a4, rfl, vL, a4, L, zs', ds', rfl, de_ext eN2 (de_mono s11 _ _ hL10), hasc, hLd'.sm, ha12, de_extAll eN2 (de_monoAll s11 _ _ hd10), hfp, hz5, fun G13 t4 sm2 ht4 => ne_same (ans_dp L _) hsh (sm2 _ _ ht3) ht4 ⟨_, rfl, iteF ?_⟩⟩
    refine ⟨_, _, _, _, k8, lf8, rfl, ?_, q2, q3, ⟨sm2 _ _ (eN2 _ _ (s11 _ _ P10.dc) (fun ps z => nomatch z)), sm2 _ _ (eN2 _ _ (s11 _ _ P10.ls) (fun ps z => nomatch z))⟩, T12.ext sm2⟩
    have z : ((i + 1 : Nat) : Int) = (i : Int) + 1 := by omega
    omega
end
end SK
namespace SK
open PySem PySem.Spec PyProof.Rows L2 LamX NdefX
open K0 (De DeAll XCl spX withX)
/-! ### all defs together -/
theorem FunT.binds {K : PySem.W.Frag} {x qual : Str} {st : Stmt} {f c : Addr} {fd : FuncData} {ps : List Str} (F : FunT K x qual st f fd c)
    (h : ∀ (kV doc pm : Value) (an : Option Addr) (cdv ct : Value) (us : List Value), us.length = ps.length → bindArgs (PySem.W.fnOf x qual (defArgs st) (defBody st) (defScope st) .none kV doc pm an cdv ct) ⟨us, []⟩ = pure (ps.zip us)) : Binds K fd ps [] := by
  obtain ⟨oc, od, kV, doc, pm, an, ct, osl, e, lk, hcd⟩ := F.ex
  exact Fun.binds (f := f) ⟨⟨oc, od, kV, doc, pm, an, .ref c, ct, osl, e, lk, hcd⟩, F.kp⟩ h
def defs13 : List (Str × Nat) := [("is_letters", 12), ("check_letters", 13), ("is_word", 14), ("check_places", 16), ("is_row", 18), ("table_of", 19), ("letters_below", 20), ("_law_pen_of", 26), ("_law_draw", 27), ("_law_pick", 28), ("_law_shuffled", 29), ("_law_letters_of", 30), ("_law_some_words", 31), ("_law_in_order", 32), ("_law_beginnings", 33), ("_law_some_rows", 34), ("_law_met", 35), ("_law_are_letters", 36), ("_law_is_row", 37), ("_law_due", 38), ("_law_spoilt", 39), ("_law_many", 40), ("law", 41)]
def frees13 : List Str := ["isinstance", "str", "len", "set", "all", "tuple", "list", "bool", "enumerate", "max", "sorted", "repr", "int", "abs", "range"]
structure Facts (P : Program) (w : World) (K : PySem.W.Frag) (mg : Str → Option Value) (base : Heap) (ad : Str → Addr) (C : Cs) (CT tE fI c Pt : Addr) (T : List (Addr × Str)) : Prop where
  fn : ∀ q : Str × Nat, q ∈ defs13 → mg q.1 = some (.ref (ad q.1)) ∧ ∃ fd, Fun K q.1 q.1 (top q.2) (ad q.1) fd
  fr : ∀ x : Str, x ∈ frees13 → mg x = none
  al : ∃ t, mg "ALPHABET" = some (.str alpha t)
  lw : ∃ t, mg "LONGEST_WORD" = some (.int 200 t)
  mp : ∃ t, mg "MOST_PLACES" = some (.int 2000 t)
  ord : mg "in_order" = some (.ref (ad "in_order")) ∧ ∃ fd, FunT K "in_order" "in_order" (top 17) (ad "in_order") fd c
  X4 : Excs P w K mg base C tE
  sys : ∃ o, K.lookup sysModules = some o
  gT : mg "Tree" = some (.ref CT)
  M : Mk K CT fI
  cT : Cls K CT
  no : ∀ g ∈ (["_below", "_table", "letters", "rows", "size", "height"] : List Str), NoAttr K CT g
  ini : ∃ fd, Fun K "__init__" "Tree.__init__" (inClass (top 24) 0) fI fd
  tab : TabB base mg c Pt
  hm : (Pt, ("in_order" : Str) ++ ".<locals>." ++ "<lambda>") ∈ T
  hu : ∀ p ∈ T, p.1 = Pt → p.2 = ("in_order" : Str) ++ ".<locals>." ++ "<lambda>"
theorem law_all {P : Program} {w : World} {K : PySem.W.Frag} {mg : Str → Option Value} {base : Heap} {ad : Str → Addr} {C : Cs} {CT tE fI c Pt : Addr} {T : List (Addr × Str)} (D : Facts P w K mg base ad C CT tE fI c Pt T) :
    ∃ fd, Fun K "law" "law" (top 41) (ad "law") fd ∧ FnG P w K mg base CX0 10 (ad "law") fd ["script"] (spLaw K T) := by
  obtain ⟨v12g, v12d, v12F⟩ := D.fn ("is_letters", 12) (by decide +kernel)
  have v12b : Binds K v12d ["letters"] [] := Fun.binds v12F fun _ _ _ _ _ _ us hl => match us, hl with | [_], _ => rfl
  obtain ⟨v13g, v13d, v13F⟩ := D.fn ("check_letters", 13) (by decide +kernel)
  have v13b : Binds K v13d ["letters"] [] := Fun.binds v13F fun _ _ _ _ _ _ us hl => match us, hl with | [_], _ => rfl
  obtain ⟨v14g, v14d, v14F⟩ := D.fn ("is_word", 14) (by decide +kernel)
  have v14b : Binds K v14d ["letters", "word"] [] := Fun.binds v14F fun _ _ _ _ _ _ us hl => match us, hl with | [_, _], _ => rfl
  obtain ⟨v16g, v16d, v16F⟩ := D.fn ("check_places", 16) (by decide +kernel)
  have v16b : Binds K v16d ["many"] [] := Fun.binds v16F fun _ _ _ _ _ _ us hl => match us, hl with | [_], _ => rfl
  obtain ⟨v18g, v18d, v18F⟩ := D.fn ("is_row", 18) (by decide +kernel)
  have v18b : Binds K v18d ["letters", "row"] [] := Fun.binds v18F fun _ _ _ _ _ _ us hl => match us, hl with | [_, _], _ => rfl
  obtain ⟨v19g, v19d, v19F⟩ := D.fn ("table_of", 19) (by decide +kernel)
  have v19b : Binds K v19d ["letters", "rows"] [] := Fun.binds v19F fun _ _ _ _ _ _ us hl => match us, hl with | [_, _], _ => rfl
  obtain ⟨v20g, v20d, v20F⟩ := D.fn ("letters_below", 20) (by decide +kernel)
  have v20b : Binds K v20d ["places"] [] := Fun.binds v20F fun _ _ _ _ _ _ us hl => match us, hl with | [_], _ => rfl
  obtain ⟨v26g, v26d, v26F⟩ := D.fn ("_law_pen_of", 26) (by decide +kernel)
  have v26b : Binds K v26d ["script"] [] := Fun.binds v26F fun _ _ _ _ _ _ us hl => match us, hl with | [_], _ => rfl
  obtain ⟨v27g, v27d, v27F⟩ := D.fn ("_law_draw", 27) (by decide +kernel)
  have v27b : Binds K v27d ["pen", "many"] [] := Fun.binds v27F fun _ _ _ _ _ _ us hl => match us, hl with | [_, _], _ => rfl
  obtain ⟨v28g, v28d, v28F⟩ := D.fn ("_law_pick", 28) (by decide +kernel)
  have v28b : Binds K v28d ["pen", "items"] [] := Fun.binds v28F fun _ _ _ _ _ _ us hl => match us, hl with | [_, _], _ => rfl
  obtain ⟨v29g, v29d, v29F⟩ := D.fn ("_law_shuffled", 29) (by decide +kernel)
  have v29b : Binds K v29d ["pen", "items"] [] := Fun.binds v29F fun _ _ _ _ _ _ us hl => match us, hl with | [_, _], _ => rfl
  obtain ⟨v30g, v30d, v30F⟩ := D.fn ("_law_letters_of", 30) (by decide +kernel)
  have v30b : Binds K v30d ["pen"] [] := Fun.binds v30F fun _ _ _ _ _ _ us hl => match us, hl with | [_], _ => rfl
  obtain ⟨v31g, v31d, v31F⟩ := D.fn ("_law_some_words", 31) (by decide +kernel)
  have v31b : Binds K v31d ["pen", "letters", "many", "longest"] [] := Fun.binds v31F fun _ _ _ _ _ _ us hl => match us, hl with | [_, _, _, _], _ => rfl
  obtain ⟨v32g, v32d, v32F⟩ := D.fn ("_law_in_order", 32) (by decide +kernel)
  have v32b : Binds K v32d ["letters", "words"] [] := Fun.binds v32F fun _ _ _ _ _ _ us hl => match us, hl with | [_, _], _ => rfl
  obtain ⟨v33g, v33d, v33F⟩ := D.fn ("_law_beginnings", 33) (by decide +kernel)
  have v33b : Binds K v33d ["letters", "words"] [] := Fun.binds v33F fun _ _ _ _ _ _ us hl => match us, hl with | [_, _], _ => rfl
  obtain ⟨v34g, v34d, v34F⟩ := D.fn ("_law_some_rows", 34) (by decide +kernel)
  have v34b : Binds K v34d ["pen", "letters"] [] := Fun.binds v34F fun _ _ _ _ _ _ us hl => match us, hl with | [_, _], _ => rfl
  obtain ⟨v35g, v35d, v35F⟩ := D.fn ("_law_met", 35) (by decide +kernel)
  have v35b : Binds K v35d ["letters", "rows"] [] := Fun.binds v35F fun _ _ _ _ _ _ us hl => match us, hl with | [_, _], _ => rfl
  obtain ⟨v36g, v36d, v36F⟩ := D.fn ("_law_are_letters", 36) (by decide +kernel)
  have v36b : Binds K v36d ["value"] [] := Fun.binds v36F fun _ _ _ _ _ _ us hl => match us, hl with | [_], _ => rfl
  obtain ⟨v37g, v37d, v37F⟩ := D.fn ("_law_is_row", 37) (by decide +kernel)
  have v37b : Binds K v37d ["letters", "row"] [] := Fun.binds v37F fun _ _ _ _ _ _ us hl => match us, hl with | [_, _], _ => rfl
  obtain ⟨v38g, v38d, v38F⟩ := D.fn ("_law_due", 38) (by decide +kernel)
  have v38b : Binds K v38d ["letters", "rows"] [] := Fun.binds v38F fun _ _ _ _ _ _ us hl => match us, hl with | [_, _], _ => rfl
  obtain ⟨v39g, v39d, v39F⟩ := D.fn ("_law_spoilt", 39) (by decide +kernel)
  have v39b : Binds K v39d ["pen", "letters", "rows"] [] := Fun.binds v39F fun _ _ _ _ _ _ us hl => match us, hl with | [_, _, _], _ => rfl
  obtain ⟨v40g, v40d, v40F⟩ := D.fn ("_law_many", 40) (by decide +kernel)
  have v40b : Binds K v40d ["pen"] [] := Fun.binds v40F fun _ _ _ _ _ _ us hl => match us, hl with | [_], _ => rfl
  obtain ⟨v41g, v41d, v41F⟩ := D.fn ("law", 41) (by decide +kernel)
  have v41b : Binds K v41d ["script"] [] := Fun.binds v41F fun _ _ _ _ _ _ us hl => match us, hl with | [_], _ => rfl
  obtain ⟨tA, gA⟩ := D.al
  obtain ⟨tW, gW⟩ := D.lw
  obtain ⟨tM, gM⟩ := D.mp
  obtain ⟨og, od, oF⟩ := D.ord
  have ob : Binds K od ["letters", "words"] [] := FunT.binds oF fun _ _ _ _ _ _ us hl => match us, hl with | [_, _], _ => rfl
  obtain ⟨iD, iF⟩ := D.ini
  have ib : Binds K iD ["self", "letters", "rows"] [] := Fun.binds iF fun _ _ _ _ _ _ us hl => match us, hl with | [_, _, _], _ => rfl
  have G12 := ok_letters (P := P) (w := w) (base := base) v12F (D.fr "isinstance" (by decide +kernel)) (D.fr "str" (by decide +kernel)) (D.fr "len" (by decide +kernel)) (D.fr "set" (by decide +kernel)) (D.fr "all" (by decide +kernel)) gA
  have G13 := ok_checkL v13F D.X4.dl v12g v12F.kp G12 v12b
  have G14 := ok_word (P := P) (w := w) (base := base) v14F (D.fr "isinstance" (by decide +kernel)) (D.fr "str" (by decide +kernel)) (D.fr "len" (by decide +kernel)) (D.fr "all" (by decide +kernel)) gW
  have G16 := ok_checkP v16F D.X4.dm gM
  have G17 := ok_order (P := P) (w := w) (T := T) oF (D.fr "enumerate" (by decide +kernel)) (D.fr "sorted" (by decide +kernel)) gA D.tab D.hm D.hu
  have G18 := ok_row v18F (D.fr "isinstance" (by decide +kernel)) (D.fr "tuple" (by decide +kernel)) (D.fr "list" (by decide +kernel)) (D.fr "bool" (by decide +kernel)) (D.fr "len" (by decide +kernel)) v14g v14F.kp G14 v14b
  have G19 := ok_table v19F D.X4.dr (D.fr "enumerate" (by decide +kernel)) (D.fr "tuple" (by decide +kernel)) v18g v18F.kp G18 v18b
  have G20 := ok_below v20F D.X4.dn
  have GI := ok_init (C := C) (T := T) iF D.cT D.no (D.fr "len" (by decide +kernel)) (D.fr "list" (by decide +kernel)) (D.fr "tuple" (by decide +kernel)) (D.fr "max" (by decide +kernel)) v13g v13F.kp G13 v13b v16g v16F.kp G16 v16b v19g v19F.kp G19 v19b og oF.kp G17 ob v20g v20F.kp G20 v20b
  have G26 := ok_pen (P := P) (w := w) (base := base) v26F (D.fr "list" (by decide +kernel))
  have G27 := ok_draw (P := P) (w := w) (base := base) v27F (D.fr "int" (by decide +kernel)) (D.fr "len" (by decide +kernel)) (D.fr "abs" (by decide +kernel))
  have G28 := ok_pick v28F (D.fr "len" (by decide +kernel)) v27g v27F.kp G27 v27b
  have G29 := ok_shuf v29F (D.fr "len" (by decide +kernel)) (D.fr "list" (by decide +kernel)) v27g v27F.kp G27 v27b
  have G30 := ok_six v30F v28g v28F.kp G28 v28b
  have G31 := ok_some v31F (D.fr "range" (by decide +kernel)) v27g v27F.kp G27 v27b v28g v28F.kp G28 v28b
  have G32 := ok_ordL (P := P) (w := w) (base := base) v32F (D.fr "sorted" (by decide +kernel)) D.sys
  have G33 := ok_beg v33F (D.fr "range" (by decide +kernel)) (D.fr "len" (by decide +kernel)) v32g v32F.kp G32 v32b
  have G34 := ok_rws v34F v27g v27F.kp G27 v27b v31g v31F.kp G31 v31b v33g v33F.kp G33 v33b
  have G35 := ok_met v35F D.X4 (D.fr "repr" (by decide +kernel)) (D.fr "isinstance" (by decide +kernel)) D.sys D.gT D.M GI ib
  have G36 := ok_areL (P := P) (w := w) (base := base) v36F (D.fr "isinstance" (by decide +kernel)) (D.fr "str" (by decide +kernel)) (D.fr "len" (by decide +kernel)) (D.fr "all" (by decide +kernel))
  have G37 := ok_rowL (P := P) (w := w) (base := base) v37F (D.fr "isinstance" (by decide +kernel)) (D.fr "tuple" (by decide +kernel)) (D.fr "list" (by decide +kernel)) (D.fr "str" (by decide +kernel)) (D.fr "len" (by decide +kernel)) (D.fr "all" (by decide +kernel)) (D.fr "repr" (by decide +kernel))
  have G38 := ok_due v38F (D.fr "repr" (by decide +kernel)) (D.fr "len" (by decide +kernel)) (D.fr "range" (by decide +kernel)) D.sys v36g v36F.kp G36 v36b v37g v37F.kp G37 v37b v32g v32F.kp G32 v32b
  have G39 := ok_spoil v39F (D.fr "len" (by decide +kernel)) v27g v27F.kp G27 v27b v28g v28F.kp G28 v28b v37g v37F.kp G37 v37b
  have G40 := ok_many v40F (D.fr "len" (by decide +kernel)) (D.fr "range" (by decide +kernel)) (D.fr "repr" (by decide +kernel)) D.sys v28g v28F.kp G28 v28b v35g v35F.kp G35 v35b
  exact ⟨v41d, v41F, ok_law v41F (D.fr "range" (by decide +kernel)) (D.fr "list" (by decide +kernel)) (D.fr "isinstance" (by decide +kernel)) (D.fr "str" (by decide +kernel)) (D.fr "tuple" (by decide +kernel)) v26g v26F.kp G26 v26b v27g v27F.kp G27 v27b v30g v30F.kp G30 v30b v29g v29F.kp G29 v29b v34g v34F.kp G34 v34b v39g v39F.kp G39 v39b v35g v35F.kp G35 v35b v38g v38F.kp G38 v38b v40g v40F.kp G40 v40b⟩
end SK
namespace SK
open PySem PySem.Spec PyProof.Rows L2 LamX NdefX
open K0 (De DeAll XCl spX withX)
/-! ### the law is called where no repr is under way -/
theorem run_law {P : Program} {w : World} {K : PySem.W.Frag} {mg : Str → Option Value} {base : Heap} {ad : Str → Addr} {C : Cs} {CT tE fI c Pt a : Addr} {T : List (Addr × Str)} {s : Shared} {H : Hp} {ns : List Int} (D : Facts P w K mg base ad C CT tE fI c Pt T)
    (e0 : Env0 P w K mg base PySem.callerA [] s H) (hS : SqL K H a (ns.map V.int)) (hn : ns.length ≤ 63) (hT : Tabs T H) :
    codeAny (model P w) PySem.callerA (.call (.ref (ad "law")) ⟨[.ref a], []⟩) (CR CX0 [] P w H s (fun v _ => v = .bl true) E0) s := by
  obtain ⟨fd, F, G⟩ := law_all D
  have b : Binds K fd ["script"] [] := Fun.binds F fun _ _ _ _ _ _ us hl => match us, hl with | [_], _ => rfl
  have room : Room 10 PySem.callerA := ⟨rfl, by decide, by decide⟩
  have back : ∀ b o, base.get? b = some o → s.heap.get? b = some o := fun b o e => (e0.bs b o e).1
  have KX := e0.mod.kin.keeps back
  have bb := b s [Value.ref a] KX (by rfl)
  exact G.run PySem.callerA [] s H ⟨[.ref a], []⟩ [.ref a] [V.ref a] _ E0 rfl room e0 bb (.cons rfl .nil) ⟨a, ns, rfl, hS, hn, hT, fun _ => rfl⟩
end SK
namespace SK
open PySem PySem.Spec PyProof.Rows L2 LamX NdefX
open K0 (De DeAll XCl spX withX)
/-! ### the four error classes -/
theorem put_old {H : Hp} {C a dx : Addr} {fs gs : List (Str × V)} (ne : dx ≠ a) : upd (withX H C a dx fs) dx (exd dx gs) = withX H C a dx gs := by
  funext b
  show upd (upd (upd H dx _) a _) dx _ b = upd (upd H dx _) a _ b
  by_cases hd : b = dx
  · rw [hd, upd_same, upd_ne ne, upd_same]
  · rw [upd_ne hd]
    by_cases ha : b = a
    · rw [ha, upd_same, upd_same]
    · rw [upd_ne ha, upd_ne ha, upd_ne hd, upd_ne hd]
section
variable {P : Program} {w : World} {K : PySem.W.Frag} {mg : Str → Option Value} {base : Heap} {f C : Addr} {fd : FuncData}
theorem sc_BadLetters : FnScope ["self", "letters"] ["self", "letters"] (defScope (inClass (top 2) 0)) := ⟨rfl, rfl, rfl, by decide +kernel, rfl, by decide +kernel, by decide +kernel⟩
theorem ok_BadLetters (F : Fun K "__init__" "BadLetters.__init__" (inClass (top 2) 0) f fd) (T : OexC K C) (no : ∀ n ∈ (["letters"] : List Str), PySem.W.findIn K (.ref C) n = some none) : FnOk P w K mg base CX0 1 f fd ["self", "letters"] (spX C ["letters"]) := by
  refine F.ok sc_BadLetters (fun vs H Q E h => ?_) (fun cdv A outer s H vs Q E hr h => ?_)
  · obtain ⟨a, ys, rfl, hl, _⟩ := h
    exact congrArg Nat.succ hl
  · obtain ⟨a, ys, rfl, hl, ha, k⟩ := h
    match ys, hl with
    | [y0], _ =>
      refine ⟨_, pss_one (ps_ost (pv 0) (pv 1)), ?_⟩
      refine ⟨y0, rfl, .ref a, rfl, a, C, rfl, T, (no _ (by simp)), .inl ⟨ha, fun dx nd ne => ?_⟩⟩
      exact k dx nd ne
theorem xr_BadLetters (F : Fun K "__init__" "BadLetters.__init__" (inClass (top 2) 0) f fd) (cl : XCl K C) (gC : mg "BadLetters" = some (.ref C)) (iC : PySem.W.findIn K (.ref C) "__init__" = some (some (.ref f)))
    (tI : PySem.W.typeIn K (.ref f) = some (.type "function")) (no : ∀ n ∈ (["letters"] : List Str), PySem.W.findIn K (.ref C) n = some none) : XR P w K mg base "BadLetters" C ["letters"] :=
  ⟨cl, gC, no, f, fd, iC, tI, ok_BadLetters F cl.T no, Fun.binds F fun _ _ _ _ _ _ us hl => match us, hl with | [_, _], _ => rfl⟩
theorem sc_TooMany : FnScope ["self", "what", "many", "most"] ["self", "what", "many", "most"] (defScope (inClass (top 3) 0)) := ⟨rfl, rfl, rfl, by decide +kernel, rfl, by decide +kernel, by decide +kernel⟩
theorem ok_TooMany (F : Fun K "__init__" "TooMany.__init__" (inClass (top 3) 0) f fd) (T : OexC K C) (no : ∀ n ∈ (["what", "many", "most"] : List Str), PySem.W.findIn K (.ref C) n = some none) : FnOk P w K mg base CX0 1 f fd ["self", "what", "many", "most"] (spX C ["what", "many", "most"]) := by
  refine F.ok sc_TooMany (fun vs H Q E h => ?_) (fun cdv A outer s H vs Q E hr h => ?_)
  · obtain ⟨a, ys, rfl, hl, _⟩ := h
    exact congrArg Nat.succ hl
  · obtain ⟨a, ys, rfl, hl, ha, k⟩ := h
    match ys, hl with
    | [y0, y1, y2], _ =>
      refine ⟨_, pss_cons (ps_ost (pv 0) (pv 1)) (pss_cons (ps_ost (pv 0) (pv 2)) (pss_one (ps_ost (pv 0) (pv 3)))), ?_⟩
      refine ⟨y0, rfl, .ref a, rfl, a, C, rfl, T, (no _ (by simp)), .inl ⟨ha, fun dx nd ne => ?_⟩⟩
      refine ⟨y1, rfl, .ref a, rfl, a, C, rfl, T, (no _ (by simp)), .inr ⟨dx, _, upd_same, (upd_ne ne).trans upd_same, by simp, ?_⟩⟩
      rw [put_old ne]
      refine ⟨y2, rfl, .ref a, rfl, a, C, rfl, T, (no _ (by simp)), .inr ⟨dx, _, upd_same, (upd_ne ne).trans upd_same, by simp, ?_⟩⟩
      rw [put_old ne]
      exact k dx nd ne
theorem xr_TooMany (F : Fun K "__init__" "TooMany.__init__" (inClass (top 3) 0) f fd) (cl : XCl K C) (gC : mg "TooMany" = some (.ref C)) (iC : PySem.W.findIn K (.ref C) "__init__" = some (some (.ref f)))
    (tI : PySem.W.typeIn K (.ref f) = some (.type "function")) (no : ∀ n ∈ (["what", "many", "most"] : List Str), PySem.W.findIn K (.ref C) n = some none) : XR P w K mg base "TooMany" C ["what", "many", "most"] :=
  ⟨cl, gC, no, f, fd, iC, tI, ok_TooMany F cl.T no, Fun.binds F fun _ _ _ _ _ _ us hl => match us, hl with | [_, _, _, _], _ => rfl⟩
theorem sc_BadRow : FnScope ["self", "number"] ["self", "number"] (defScope (inClass (top 4) 0)) := ⟨rfl, rfl, rfl, by decide +kernel, rfl, by decide +kernel, by decide +kernel⟩
theorem ok_BadRow (F : Fun K "__init__" "BadRow.__init__" (inClass (top 4) 0) f fd) (T : OexC K C) (no : ∀ n ∈ (["number"] : List Str), PySem.W.findIn K (.ref C) n = some none) : FnOk P w K mg base CX0 1 f fd ["self", "number"] (spX C ["number"]) := by
  refine F.ok sc_BadRow (fun vs H Q E h => ?_) (fun cdv A outer s H vs Q E hr h => ?_)
  · obtain ⟨a, ys, rfl, hl, _⟩ := h
    exact congrArg Nat.succ hl
  · obtain ⟨a, ys, rfl, hl, ha, k⟩ := h
    match ys, hl with
    | [y0], _ =>
      refine ⟨_, pss_one (ps_ost (pv 0) (pv 1)), ?_⟩
      refine ⟨y0, rfl, .ref a, rfl, a, C, rfl, T, (no _ (by simp)), .inl ⟨ha, fun dx nd ne => ?_⟩⟩
      exact k dx nd ne
theorem xr_BadRow (F : Fun K "__init__" "BadRow.__init__" (inClass (top 4) 0) f fd) (cl : XCl K C) (gC : mg "BadRow" = some (.ref C)) (iC : PySem.W.findIn K (.ref C) "__init__" = some (some (.ref f)))
    (tI : PySem.W.typeIn K (.ref f) = some (.type "function")) (no : ∀ n ∈ (["number"] : List Str), PySem.W.findIn K (.ref C) n = some none) : XR P w K mg base "BadRow" C ["number"] :=
  ⟨cl, gC, no, f, fd, iC, tI, ok_BadRow F cl.T no, Fun.binds F fun _ _ _ _ _ _ us hl => match us, hl with | [_, _], _ => rfl⟩
theorem sc_Lone : FnScope ["self", "place"] ["self", "place"] (defScope (inClass (top 5) 0)) := ⟨rfl, rfl, rfl, by decide +kernel, rfl, by decide +kernel, by decide +kernel⟩
theorem ok_Lone (F : Fun K "__init__" "Lone.__init__" (inClass (top 5) 0) f fd) (T : OexC K C) (no : ∀ n ∈ (["place"] : List Str), PySem.W.findIn K (.ref C) n = some none) : FnOk P w K mg base CX0 1 f fd ["self", "place"] (spX C ["place"]) := by
  refine F.ok sc_Lone (fun vs H Q E h => ?_) (fun cdv A outer s H vs Q E hr h => ?_)
  · obtain ⟨a, ys, rfl, hl, _⟩ := h
    exact congrArg Nat.succ hl
  · obtain ⟨a, ys, rfl, hl, ha, k⟩ := h
    match ys, hl with
    | [y0], _ =>
      refine ⟨_, pss_one (ps_ost (pv 0) (pv 1)), ?_⟩
      refine ⟨y0, rfl, .ref a, rfl, a, C, rfl, T, (no _ (by simp)), .inl ⟨ha, fun dx nd ne => ?_⟩⟩
      exact k dx nd ne
theorem xr_Lone (F : Fun K "__init__" "Lone.__init__" (inClass (top 5) 0) f fd) (cl : XCl K C) (gC : mg "Lone" = some (.ref C)) (iC : PySem.W.findIn K (.ref C) "__init__" = some (some (.ref f)))
    (tI : PySem.W.typeIn K (.ref f) = some (.type "function")) (no : ∀ n ∈ (["place"] : List Str), PySem.W.findIn K (.ref C) n = some none) : XR P w K mg base "Lone" C ["place"] :=
  ⟨cl, gC, no, f, fd, iC, tI, ok_Lone F cl.T no, Fun.binds F fun _ _ _ _ _ _ us hl => match us, hl with | [_, _], _ => rfl⟩
end
end SK
namespace SK
open PySem PySem.Spec PyProof.Rows L2 LamX NdefX
open K0 (De DeAll XCl spX withX)
/-! ### the law's call, one table of code objects beside the script -/
abbrev EndOk (h : Heap) (os : OsState) (r : Result) (s' : Shared) : Prop := r = .ok (.ret (.bool true)) ∧ PySem.OldK h s'.heap ∧ s'.os = os ∧ AllBare s'.gens
def tabObj : Obj := { cls := .none, data := .fields #[] }
section
variable {P : Program} {w : World} {K : PySem.W.Frag} {mg mb : Str → Option Value} {ad : Str → Addr} {C : Cs} {CT tE fI c Pt a : Addr} {s : Shared} {H : Hp} {vs : List Value} {ns : List Int} {q : Str}
theorem run_law2 (D : ∀ base : Heap, K.In base → base.Ns mainGlobals mg → TabB base mg c Pt → Facts P w K mg base ad C CT tE fI c Pt [(Pt, q)]) (KX : K.In s.heap) (hm : s.heap.Ns mainGlobals mg) (hb : s.heap.Ns builtinsNs mb) (hbb : ∀ x : Str, x ≠ "__name__" → mb x = bootBuiltins x)
    (hlim : s.heap.NoLimit) (hgens : s.gens = #[]) (hPt : s.heap.get? Pt = some tabObj) (nPt : K.lookup Pt = none) (hC : PySem.W.CodeHd s.heap c Pt)
    (hbm : ∃ (bm : Addr) (ob : Obj), mg "__builtins__" = some (.ref bm) ∧ bm ≠ builtinsNs ∧ s.heap.get? bm = some ob ∧ ob.cls = .type "module" ∧ ob.dict = some builtinsNs ∧ ob.data = .plain)
    (ha : s.heap.get? a = some { cls := .type "list", data := .seq vs.toArray }) (hn : ns.length ≤ 63) (hS : SqL K H a (ns.map V.int)) (ok : HOk P w H s.heap) (hHP : H Pt = some (.tbl #[]))
    (hO : ∀ b, H b = none ∨ b = Pt ∨ (b = a ∧ ∃ o xs, H b = some (.frz o (.lst xs)))) (hK : H a ≠ none → K.lookup a = none) :
    codeAny (model P w) PySem.callerA (.call (.ref (ad "law")) ⟨[.ref a], []⟩) (EndOk s.heap s.os) s := by
  have free : ∀ {b : Addr} {o : Obj}, s.heap.get? b = some o → (∀ vs n, o.data ≠ .seq vs n) → o.data ≠ .fields #[] → H b = none := fun {b o} e h1 h2 => by
    rcases hO b with z | rfl | ⟨rfl, _⟩
    · exact z
    · rw [hPt] at e
      have e' := Option.some.inj e
      subst e'
      exact absurd rfl h2
    · rw [ha] at e
      have e' := Option.some.inj e
      subst e'
      exact absurd rfl (h1 _ _)
  have dicts : ∀ {b : Addr} {m : Str → Option Value}, s.heap.Ns b m → (hidT s.heap H).Ns b m := fun {b m} ⟨o, es, ep, e, d, r⟩ =>
    ⟨o, es, ep, hidT_get e (free e (fun vs n z => by rw [d] at z; cases z) fun z => by rw [d] at z; cases z), d, r⟩
  have Kb : K.In (hidT s.heap H) := fun b o e => by
    refine hidT_get (KX b o e) ?_
    rcases hO b with z | rfl | ⟨rfl, o', xs, z⟩
    · exact z
    · rw [nPt] at e
      cases e
    · rw [hK (by rw [z]; exact fun z => nomatch z)] at e
      cases e
  have M : Mod K mg (hidT s.heap H) := ⟨Kb, dicts hm, ⟨mb, dicts hb, hbb⟩, by
    obtain ⟨mc, h1, h2⟩ := hlim
    exact ⟨mc, dicts h1, h2⟩⟩
  have noG : mainGlobals ≠ Pt := fun z => by
    obtain ⟨o, es, ep, e, d, _⟩ := hm
    rw [z, hPt] at e
    have e' := Option.some.inj e
    subst e'
    cases d
  have TB : TabB (hidT s.heap H) mg c Pt := by
    refine ⟨?_, ?_, noG⟩
    · obtain ⟨o, us, file, tf, flags, tg, inF, text, tt, e1, r1, r2, r3, rest⟩ := hC
      refine ⟨o, us, file, tf, flags, tg, inF, text, tt, hidT_get e1 (free e1 (fun vs n z => ?_) fun z => ?_), r1, r2, r3, rest⟩
      · rw [r2] at z
        cases z
      · rw [r2] at z
        injection z with z
        subst z
        simp at r3
    · obtain ⟨bm, ob, b1, b2, b3, b4, b5, b6⟩ := hbm
      refine ⟨bm, ob, b1, b2, fun z => ?_, fun z => ?_, hidT_get b3 (free b3 (fun vs n z => by rw [b6] at z; cases z) fun z => by rw [b6] at z; cases z), b4, b5, b6⟩
      · obtain ⟨o, es, ep, e, d, _⟩ := hm
        rw [z, e] at b3
        have e' := Option.some.inj b3
        subst e'
        rw [d] at b6
        cases b6
      · rw [z, hPt] at b3
        have e' := Option.some.inj b3
        subst e'
        cases b6
  have e0 : Env0 P w K mg (hidT s.heap H) PySem.callerA [] s H := ⟨rfl, M, fun b o e => of_hidT e, Nat.le_of_eq (hidT_size _ _), trivial, fun b z => (by cases z), ok, AllBare.of_eq hgens⟩
  have tabs : Tabs [(Pt, q)] H := fun p hp => by
    obtain rfl : p = (Pt, q) := by simpa using hp
    exact TabS.nil hHP
  refine codeAny_mono (run_law (D _ Kb (dicts hm) TB) e0 hS hn tabs) fun r s' h => ?_
  cases r with
  | error e => exact h.elim
  | ok fl =>
    cases fl with
    | next => exact False.elim h
    | brk => exact False.elim h
    | cont => exact False.elim h
    | ret u =>
      obtain ⟨v, H', os, bare, un, ok', rv, qv⟩ := h
      have qv : v = .bl true := qv
      subst qv
      obtain rfl : u = Value.bool true := rv
      obtain ⟨more, hmore⟩ : ∃ more : Array Value, s'.heap.get? Pt = some { cls := .none, data := .fields more } := by
        obtain ⟨more, z⟩ := un.tbls Pt #[] hHP
        exact ⟨_, ok' Pt _ z⟩
      have same : ∀ b o, b ≠ Pt → s.heap.get? b = some o → s'.heap.get? b = some o := fun b o nb e => by
        rcases hO b with z | z | ⟨_, ob, xs, z⟩
        · exact un.keep b o e z (fun z => (by cases z)) (fun z => (by cases z))
        · exact absurd z nb
        · obtain ⟨f1, _⟩ := ok b _ z
          obtain ⟨f2, _⟩ := ok' b _ (un.frzs b ob _ z)
          rw [e] at f1
          cases f1
          exact f2
      refine ⟨rfl, ⟨fun b o e => ?_, fun b o e => ?_⟩, os, bare⟩
      · by_cases hbP : b = Pt
        · subst hbP
          rw [hPt] at e
          have e' := Option.some.inj e
          subst e'
          exact .inr (.inl ⟨(hC.tab hPt).isCodeTable, rfl, #[], more, rfl, by rw [Array.empty_append]; exact hmore⟩)
        · exact .inl (same b o hbP e)
      · by_cases hbP : b = Pt
        · subst hbP
          exact ⟨_, hmore⟩
        · exact ⟨o, same b o hbP e⟩
end
end SK
namespace SK
open PySem PySem.Spec PyProof.Rows L2 LamX NdefX
open K0 (De DeAll XCl spX withX)
section
variable {P : Program} {w : World} {K : PySem.W.Frag} {mg mb : Str → Option Value} {ad : Str → Addr} {C : Cs} {CT tE fI c Pt a : Addr} {s : Shared} {vs : List Value} {ns : List Int} {q : Str}
theorem run_law3 (D : ∀ base : Heap, K.In base → base.Ns mainGlobals mg → TabB base mg c Pt → Facts P w K mg base ad C CT tE fI c Pt [(Pt, q)]) (KX : K.In s.heap) (hm : s.heap.Ns mainGlobals mg) (hb : s.heap.Ns builtinsNs mb) (hbb : ∀ x : Str, x ≠ "__name__" → mb x = bootBuiltins x)
    (hlim : s.heap.NoLimit) (hgens : s.gens = #[]) (hPt : s.heap.get? Pt = some tabObj) (nPt : K.lookup Pt = none) (hC : PySem.W.CodeHd s.heap c Pt)
    (hbm : ∃ (bm : Addr) (ob : Obj), mg "__builtins__" = some (.ref bm) ∧ bm ≠ builtinsNs ∧ s.heap.get? bm = some ob ∧ ob.cls = .type "module" ∧ ob.dict = some builtinsNs ∧ ob.data = .plain)
    (ha : s.heap.get? a = some { cls := .type "list", data := .seq vs.toArray }) (hi : IntsAre vs ns) (hn : ns.length ≤ 63) :
    codeAny (model P w) PySem.callerA (.call (.ref (ad "law")) ⟨[.ref a], []⟩) (EndOk s.heap s.os) s := by
  have rv := vals_ints hi
  have lv := hi.length
  have hz : ns.length ≤ sizeLine := Nat.le_of_lt (small1000 (by omega))
  have nap : a ≠ Pt := fun z => by
    rw [z, hPt] at ha
    have e := congrArg Obj.data (Option.some.inj ha)
    cases e
  let lo : HO := .frz { cls := .type "list", data := .seq vs.toArray } (.lst (ns.map V.int))
  by_cases hk : K.lookup a = none
  · let H0 : Hp := fun b => if b = a then some lo else if b = Pt then some (.tbl #[]) else none
    have ea : H0 a = some lo := if_pos rfl
    have eP : H0 Pt = some (.tbl #[]) := (if_neg (Ne.symm nap)).trans (if_pos rfl)
    have en : ∀ b, b ≠ a → b ≠ Pt → H0 b = none := fun b n m => (if_neg n).trans (if_neg m)
    refine run_law2 (H := H0) D KX hm hb hbb hlim hgens hPt nPt hC hbm ha hn (.inl (.inr ⟨_, ea⟩)) (fun b u z => ?_) eP (fun b => ?_) fun _ => hk
    · by_cases h : b = a
      · subst h
        rw [ea] at z
        cases z
        exact ⟨ha, by rw [List.length_map]; exact hz, vs, _, rv, ha⟩
      · by_cases m : b = Pt
        · subst m
          rw [eP] at z
          cases z
          exact hPt
        · rw [en b h m] at z
          cases z
    · by_cases h : b = a
      · subst h
        exact .inr (.inr ⟨rfl, _, _, ea⟩)
      · by_cases m : b = Pt
        · exact .inr (.inl m)
        · exact .inl (en b h m)
  · obtain ⟨o, ho⟩ := Option.ne_none_iff_exists'.mp hk
    have e := KX a o ho
    rw [ha] at e
    cases e
    let H1 : Hp := fun b => if b = Pt then some (.tbl #[]) else none
    have eP : H1 Pt = some (.tbl #[]) := if_pos rfl
    have en : ∀ b, b ≠ Pt → H1 b = none := fun b m => if_neg m
    refine run_law2 (H := H1) D KX hm hb hbb hlim hgens hPt nPt hC hbm ha hn (.inr ⟨_, vs.toArray, _, ho, rfl, rfl, rfl, by rw [List.size_toArray, lv]; exact hz, by simpa using rv⟩) (fun b u z => ?_) eP (fun b => ?_) fun z => absurd (en a nap) z
    · by_cases m : b = Pt
      · subst m
        rw [eP] at z
        cases z
        exact hPt
      · rw [en b m] at z
        cases z
    · by_cases m : b = Pt
      · exact .inr (.inl m)
      · exact .inl (en b m)
end
end SK
namespace SK
open PySem PySem.Spec PyProof.Rows L2 LamX NdefX
open K0 (De DeAll XCl spX withX)
/-! ### what the top leaves, as one test -/
def clsB (K : PySem.W.Frag) (C : Addr) : Bool := match K.lookup C with
  | some ⟨.type "type", _, .cls cd, sl⟩ => (match cd.mro, sl.toList with
    | .ref D :: bm, [_, _, _, _, some (.builtin n), _] => decide (D = C) && (decide (n = "ValueError.__new__") && (!cd.hasDel && (cd.hasDict && PySem.HandSPX.refsVE bm)))
    | _, _ => false)
  | _ => false
theorem clsB_ok {K : PySem.W.Frag} {C : Addr} (h : clsB K C = true) : ∃ nm q N bs bm sn sub ab col dd k0 k1 k2 k3 k5, K.lookup C = some (excClassObj nm q C N bs bm true sn sub ab col dd k0 k1 k2 k3 k5 "ValueError.__new__") ∧ PySem.HandSPX.refsVE bm = true := by
  unfold clsB at h
  split at h
  · rename_i dd cd sl ho
    split at h
    · rename_i D bm k0 k1 k2 k3 n k5 hm hs
      simp only [Bool.and_eq_true, decide_eq_true_eq, Bool.not_eq_true'] at h
      obtain ⟨rfl, rfl, hdel, hd, hv⟩ := h
      obtain ⟨nm, bs, mro, ns, qn, hdc, sn, sub, ab, col, del⟩ := cd
      dsimp only at hm hdel hd
      subst hm hdel hd
      have e : sl = #[k0, k1, k2, k3, some (.builtin "ValueError.__new__"), k5] := by
        obtain ⟨l⟩ := sl
        simp only at hs
        rw [hs]
      subst e
      exact ⟨nm, qn, ns, bs, bm, sn, sub, ab, col, dd, k0, k1, k2, k3, k5, ho, hv⟩
    · cases h
  · cases h
def xB (K : PySem.W.Frag) (C : Addr) : Bool :=
  clsB K C && (decide (PySem.W.findIn K (.ref C) "__setattr__" = some (some (.builtin "object.__setattr__"))) && (decide (PySem.W.subIn K (.ref C) (.type "BaseException") = some true) && (decide (PySem.W.typeIn K (.ref C) = some (.type "type")) && (PySem.W.keepIn K (.ref C) &&
    (decide (PySem.W.findIn K (.ref C) "__getattribute__" = some (some (.builtin "BaseException.__getattribute__"))) && (decide (PySem.W.findIn K (.ref C) "__getattr__" = some none) && (PySem.W.hasDictIn K C && (decide (PySem.W.findIn K (.ref C) "__class__" = some (some (.builtin "object.__class__"))) &&
      (decide (PySem.W.specialIn K (.builtin "object.__class__") "__get__" = some (some (.builtin "getset_descriptor.__get__"))) && (decide (PySem.W.takesIn K (.builtin "object.__class__") = some true) && decide (PySem.W.mroIn K C (.type "object") = some true)))))))))))
theorem xB_ok {K : PySem.W.Frag} {C : Addr} (h : xB K C = true) : XCl K C := by
  simp only [xB, Bool.and_eq_true, decide_eq_true_eq] at h
  obtain ⟨h1, h2, h3, h4, h5, h6, h7, h8, h9, h10, h11, h12⟩ := h
  exact ⟨⟨clsB_ok h1, h2, h3, h4, h5⟩, h6, h7, h8, h9, h10, h11, h12⟩
def iniB (K : PySem.W.Frag) (x : Str) (fs : List Str) : Bool :=
  decide (PySem.W.findIn K (.ref (He.ga K x)) "__init__" = some (some (.ref (He.ma K (He.ga K x) "__init__")))) && (decide (PySem.W.typeIn K (.ref (He.ma K (He.ga K x) "__init__")) = some (.type "function")) && fs.all fun n => decide (PySem.W.findIn K (.ref (He.ga K x)) n = some none))
def excs13 : List (Str × List Str × Nat) := [("BadLetters", ["letters"], 2), ("TooMany", ["what", "many", "most"], 3), ("BadRow", ["number"], 4), ("Lone", ["place"], 5)]
def ex13 (K : PySem.W.Frag) : Bool := (K.lookup sysModules).isSome && (decide (PySem.W.kitOne K (.ref (He.ga K "BadRow")) (.ref (He.ga K "TreesError")) = some true) && excs13.all fun q => xB K (He.ga K q.1) && iniB K q.1 q.2.1)
def exm13 : List (Str × Str × Bool) := [("BadLetters", "BadLetters", true), ("TooMany", "BadLetters", false), ("TooMany", "TooMany", true), ("BadRow", "BadLetters", false), ("BadRow", "TooMany", false), ("BadRow", "BadRow", true), ("Lone", "BadLetters", false), ("Lone", "TooMany", false), ("Lone", "BadRow", false), ("Lone", "Lone", true)]
def fa13 : List He.Fa := (defs13.map fun q => .glo q.1) ++ ((frees13.map .free) ++ ((exm13.map fun q => .exm q.1 q.2.1 q.2.2) ++ ((["in_order", "Tree", "TreesError", "BadLetters", "TooMany", "BadRow", "Lone"] : List Str).map .glo ++
  ((["_below", "_table", "letters", "rows", "size", "height"] : List Str).map (.noat "Tree") ++ [.str "ALPHABET" alpha, .int "LONGEST_WORD" 200, .int "MOST_PLACES" 2000, .cls "Tree", .mkr "Tree"]))))
def dDef (x : Str) (st : Stmt) : He.DefD := ⟨(x, none), x, x, defArgs st, defBody st, defScope st, [], []⟩
def dIni (x q : Str) (st : Stmt) : He.DefD := ⟨(x, some "__init__"), "__init__", q, defArgs st, defBody st, defScope st, [], []⟩
def fn13 : List He.DefD := (defs13.map fun q => dDef q.1 (top q.2)) ++ [dDef "in_order" (top 17), dIni "Tree" "Tree.__init__" (inClass (top 24) 0), dIni "BadLetters" "BadLetters.__init__" (inClass (top 2) 0), dIni "TooMany" "TooMany.__init__" (inClass (top 3) 0), dIni "BadRow" "BadRow.__init__" (inClass (top 4) 0), dIni "Lone" "Lone.__init__" (inClass (top 5) 0)]
def tf13 : List He.Defn := [("in_order", none)]
/-! ### the Hook -/
def K13 (g : Addr → Option Obj) : PySem.W.Frag := He.frT g (sysModules :: He.asD g 5)
def obs13 (g : Addr → Option Obj) : He.AlX := (He.obsT fa13 fn13 [] (K13 g), ex13 (K13 g) && He.tabsB g tf13 (K13 g))
abbrev Says13 (w : World) (h : Heap) (K : PySem.W.Frag) : Prop := He.SaysX fa13 fn13 [] tf13 ex13 w h K
theorem says13 {w : World} {h : Heap} (e : obs13 h.get? = He.valX fn13 [] w) : Says13 w h (K13 h.get?) := by
  obtain ⟨m1, m2⟩ := He.ba (show (ex13 (K13 h.get?) && He.tabsB h.get? tf13 (K13 h.get?)) = true from congrArg Prod.snd e)
  have at_ : ∀ p ∈ tf13, PySem.W.codeHdIn (K13 h.get?) (He.cT (K13 h.get?) p).1 (He.cT (K13 h.get?) p).2 = true ∧ ∃ o, h.get? (He.cT (K13 h.get?) p).2 = some o ∧ He.emptyTab o = true := fun p hp => by
    obtain ⟨a1, a2⟩ := He.ba (List.all_eq_true.mp m2 p hp)
    refine ⟨a1, ?_⟩
    cases z : h.get? (He.cT (K13 h.get?) p).2 with
    | none => rw [z] at a2; cases a2
    | some o => rw [z] at a2; exact ⟨o, rfl, a2⟩
  refine ⟨congrArg Prod.fst e, m1, fun p hp => (at_ p hp).1, fun p hp => ?_, fun p hp => ?_⟩
  · obtain ⟨_, o, z, y⟩ := at_ p hp
    exact He.frT_none z y
  · obtain ⟨_, o, z, y⟩ := at_ p hp
    rw [z, He.emptyTab_eq y]
def hk13 : PySem.W.Hook where
  α := He.AlX
  obs := fun s => obs13 s.heap.get?
  val := fun w => He.valX fn13 [] w
  says := fun w h => ∃ K : PySem.W.Frag, K.In h ∧ Says13 w h K
  of := fun _ _ e => ⟨_, He.frT_in, says13 e⟩
  keeps := fun _ _ _ ⟨K, hK, c⟩ k => ⟨K, PySem.W.Frag.In.keeps hK k, ⟨c.t, c.more, c.hd, c.out, fun p hp => k _ _ (c.empty p hp)⟩⟩
def ob13 (s : PySem.W.SharedT) : He.AlX := obs13 (HandSHeadRun.getT s)
theorem ob13_eq (s : PySem.W.SharedT) : ob13 s = hk13.obs s.abs := by
  have e : HandSHeadRun.getT s = s.abs.heap.get? := funext (HandSHeadRun.getT_eq s)
  show obs13 _ = obs13 _
  rw [e]
section
variable {P : Program} {w : World} {K : PySem.W.Frag} {mg : Str → Option Value} {base h : Heap}
theorem Says13.fun_ (c : Says13 w h K) {d : He.DefD} {st : Stmt} (hm : d ∈ fn13) (hp : d.params = defArgs st) (hb : d.body = defBody st) (hs : d.scope = defScope st) (hd : d.dfl = []) : ∃ fd, Fun K d.name d.qual st (He.fAd K d.at_) fd := by
  obtain ⟨fd, F⟩ := c.t.d.defs hm
  obtain ⟨oc, od, dV, kV, doc, pm, an, cdv, ct, osl, e, lk, hcd, hD, _⟩ := F.ex
  have hdv : d.dvs K = [] := by
    unfold He.DefD.dvs
    rw [hd]
    rfl
  have e3 : dV = .none := by
    rcases hD with ⟨_, z⟩ | ⟨z, _⟩
    · exact z
    · exact absurd hdv z
  subst e3
  refine ⟨fd, ⟨oc, od, kV, doc, pm, an, cdv, ct, osl, ?_, lk, hcd⟩, F.kp⟩
  rw [e, hp, hb, hs]
theorem Says13.funT (c : Says13 w h K) {d : He.DefD} {st : Stmt} (hm : d ∈ fn13) (hp : d.params = defArgs st) (hb : d.body = defBody st) (hs : d.scope = defScope st) (hd : d.dfl = []) : ∃ fd, FunT K d.name d.qual st (He.fAd K d.at_) fd (He.cT K d.at_).1 := by
  obtain ⟨fd, F⟩ := c.fun_ hm hp hb hs hd
  obtain ⟨oc, od, kV, doc, pm, an, cdv, ct, osl, e, lk, hcd⟩ := F.ex
  obtain ⟨cc, rfl⟩ := He.codeIn_ref hcd
  have z : He.codeOf K d.at_ = cc := He.codeOf_eq lk (by rw [e])
  refine ⟨fd, ⟨oc, od, kV, doc, pm, an, ct, osl, ?_, lk, ?_⟩, F.kp⟩
  · show fd = _
    rw [e]
    show _ = PySem.W.fnOf _ _ _ _ _ _ _ _ _ _ (Value.ref (He.codeOf K d.at_)) _
    rw [z]
  · show PySem.W.codeIn K (.ref (He.codeOf K d.at_)) _ = true
    rw [z]
    exact hcd
def C13 (K : PySem.W.Frag) : Cs := ⟨He.ga K "BadLetters", He.ga K "TooMany", He.ga K "BadRow", He.ga K "Lone"⟩
def q13 : Str := ("in_order" : Str) ++ ".<locals>." ++ "<lambda>"
theorem facts13 (c : Says13 w h K) (Kb : K.In base) (hm : base.Ns mainGlobals mg) (TB : TabB base mg (He.cT K ("in_order", none)).1 (He.cT K ("in_order", none)).2) :
    Facts P w K mg base (He.ga K) (C13 K) (He.ga K "Tree") (He.ga K "TreesError") (He.ma K (He.ga K "Tree") "__init__") (He.cT K ("in_order", none)).1 (He.cT K ("in_order", none)).2 [((He.cT K ("in_order", none)).2, q13)] := by
  have ft : ∀ f : He.Fa, f ∈ fa13 → f.ok K = true := fun f hf => c.t.d.facts hf
  have gl : ∀ x : Str, He.Fa.glo x ∈ fa13 → mg x = some (.ref (He.ga K x)) := fun x hx => He.glo_ok Kb hm (ft _ hx)
  have a1 : ∀ {f : He.Fa}, f ∈ defs13.map (fun q => He.Fa.glo q.1) → f ∈ fa13 := fun hf => List.mem_append_left _ hf
  have a2 : ∀ {f : He.Fa}, f ∈ frees13.map He.Fa.free → f ∈ fa13 := fun hf => List.mem_append_right _ (List.mem_append_left _ hf)
  have a3 : ∀ {f : He.Fa}, f ∈ exm13.map (fun q => He.Fa.exm q.1 q.2.1 q.2.2) → f ∈ fa13 := fun hf => List.mem_append_right _ (List.mem_append_right _ (List.mem_append_left _ hf))
  have a4 : ∀ x : Str, x ∈ (["in_order", "Tree", "TreesError", "BadLetters", "TooMany", "BadRow", "Lone"] : List Str) → mg x = some (.ref (He.ga K x)) := fun x hx => gl x (List.mem_append_right _ (List.mem_append_right _ (List.mem_append_right _ (List.mem_append_left _ (List.mem_map.mpr ⟨x, hx, rfl⟩)))))
  have a5 : ∀ x : Str, x ∈ (["_below", "_table", "letters", "rows", "size", "height"] : List Str) → NoAttr K (He.ga K "Tree") x := fun x hx => He.noat_ok (ft _ (List.mem_append_right _ (List.mem_append_right _ (List.mem_append_right _ (List.mem_append_right _ (List.mem_append_left _ (List.mem_map.mpr ⟨x, hx, rfl⟩)))))))
  have a6 : ∀ {f : He.Fa}, f ∈ ([.str "ALPHABET" alpha, .int "LONGEST_WORD" 200, .int "MOST_PLACES" 2000, .cls "Tree", .mkr "Tree"] : List He.Fa) → f.ok K = true := fun hf => ft _ (List.mem_append_right _ (List.mem_append_right _ (List.mem_append_right _ (List.mem_append_right _ (List.mem_append_right _ hf)))))
  have em : ∀ x y b, (x, y, b) ∈ exm13 → PySem.W.exmOne K (.ref (He.ga K x)) (.ref (He.ga K y)) = some b := fun x y b hx => He.exm_ok (ft _ (a3 (List.mem_map.mpr ⟨(x, y, b), hx, rfl⟩)))
  have more := He.ba c.more
  have xs : ∀ q : Str × List Str × Nat, q ∈ excs13 → XCl K (He.ga K q.1) ∧ PySem.W.findIn K (.ref (He.ga K q.1)) "__init__" = some (some (.ref (He.ma K (He.ga K q.1) "__init__"))) ∧ PySem.W.typeIn K (.ref (He.ma K (He.ga K q.1) "__init__")) = some (.type "function") ∧ ∀ n ∈ q.2.1, PySem.W.findIn K (.ref (He.ga K q.1)) n = some none := fun q hq => by
    obtain ⟨z1, z2⟩ := He.ba (List.all_eq_true.mp (He.ba more.2).2 q hq)
    unfold iniB at z2
    obtain ⟨z3, z4⟩ := He.ba z2
    obtain ⟨z5, z6⟩ := He.ba z4
    exact ⟨xB_ok z1, of_decide_eq_true z3, of_decide_eq_true z5, fun n hn => of_decide_eq_true (List.all_eq_true.mp z6 n hn)⟩
  have m2 : ∀ {d : He.DefD}, d ∈ ([dDef "in_order" (top 17), dIni "Tree" "Tree.__init__" (inClass (top 24) 0), dIni "BadLetters" "BadLetters.__init__" (inClass (top 2) 0), dIni "TooMany" "TooMany.__init__" (inClass (top 3) 0), dIni "BadRow" "BadRow.__init__" (inClass (top 4) 0), dIni "Lone" "Lone.__init__" (inClass (top 5) 0)] : List He.DefD) → d ∈ fn13 := fun hd => List.mem_append_right _ hd
  refine {
    fn := fun q hq => ⟨gl q.1 (a1 (List.mem_map.mpr ⟨q, hq, rfl⟩)), c.fun_ (d := dDef q.1 (top q.2)) (st := top q.2) (List.mem_append_left _ (List.mem_map.mpr ⟨q, hq, rfl⟩)) rfl rfl rfl rfl⟩
    fr := fun x hx => He.free_ok Kb hm (ft _ (a2 (List.mem_map.mpr ⟨x, hx, rfl⟩)))
    al := He.str_ok Kb hm (a6 (.head _))
    lw := He.int_ok Kb hm (a6 (.tail _ (.head _)))
    mp := He.int_ok Kb hm (a6 (.tail _ (.tail _ (.head _))))
    ord := ⟨a4 "in_order" (.head _), c.funT (d := dDef "in_order" (top 17)) (st := top 17) (m2 (.head _)) rfl rfl rfl rfl⟩
    X4 := ?_
    sys := Option.isSome_iff_exists.mp more.1
    gT := a4 "Tree" (.tail _ (.head _))
    M := He.mkr_ok (a6 (.tail _ (.tail _ (.tail _ (.tail _ (.head _))))))
    cT := He.cls_ok (a6 (.tail _ (.tail _ (.tail _ (.head _)))))
    no := fun g hg => a5 g hg
    ini := c.fun_ (d := dIni "Tree" "Tree.__init__" (inClass (top 24) 0)) (st := inClass (top 24) 0) (m2 (.tail _ (.head _))) rfl rfl rfl rfl
    tab := TB
    hm := .head _
    hu := fun p hp _ => by
      obtain rfl : p = ((He.cT K ("in_order", none)).2, q13) := by simpa using hp
      rfl }
  obtain ⟨l1, l2, l3, l4⟩ := xs ("BadLetters", ["letters"], 2) (.head _)
  obtain ⟨m1, m2', m3, m4⟩ := xs ("TooMany", ["what", "many", "most"], 3) (.tail _ (.head _))
  obtain ⟨r1, r2, r3, r4⟩ := xs ("BadRow", ["number"], 4) (.tail _ (.tail _ (.head _)))
  obtain ⟨o1, o2, o3, o4⟩ := xs ("Lone", ["place"], 5) (.tail _ (.tail _ (.tail _ (.head _))))
  obtain ⟨_, Fl⟩ := c.fun_ (d := dIni "BadLetters" "BadLetters.__init__" (inClass (top 2) 0)) (st := inClass (top 2) 0) (m2 (.tail _ (.tail _ (.head _)))) rfl rfl rfl rfl
  obtain ⟨_, Fm⟩ := c.fun_ (d := dIni "TooMany" "TooMany.__init__" (inClass (top 3) 0)) (st := inClass (top 3) 0) (m2 (.tail _ (.tail _ (.tail _ (.head _))))) rfl rfl rfl rfl
  obtain ⟨_, Fr⟩ := c.fun_ (d := dIni "BadRow" "BadRow.__init__" (inClass (top 4) 0)) (st := inClass (top 4) 0) (m2 (.tail _ (.tail _ (.tail _ (.tail _ (.head _)))))) rfl rfl rfl rfl
  obtain ⟨_, Fo⟩ := c.fun_ (d := dIni "Lone" "Lone.__init__" (inClass (top 5) 0)) (st := inClass (top 5) 0) (m2 (.tail _ (.tail _ (.tail _ (.tail _ (.tail _ (.head _))))))) rfl rfl rfl rfl
  exact {
    dl := xr_BadLetters Fl l1 (a4 _ (.tail _ (.tail _ (.tail _ (.head _))))) l2 l3 l4
    dm := xr_TooMany Fm m1 (a4 _ (.tail _ (.tail _ (.tail _ (.tail _ (.head _)))))) m2' m3 m4
    dr := xr_BadRow Fr r1 (a4 _ (.tail _ (.tail _ (.tail _ (.tail _ (.tail _ (.head _))))))) r2 r3 r4
    dn := xr_Lone Fo o1 (a4 _ (.tail _ (.tail _ (.tail _ (.tail _ (.tail _ (.tail _ (.head _)))))))) o2 o3 o4
    gX := a4 "TreesError" (.tail _ (.tail _ (.head _)))
    ll := em _ _ _ (by decide +kernel)
    ml := em _ _ _ (by decide +kernel)
    mm := em _ _ _ (by decide +kernel)
    rl := em _ _ _ (by decide +kernel)
    rm := em _ _ _ (by decide +kernel)
    rr := em _ _ _ (by decide +kernel)
    ol := em _ _ _ (by decide +kernel)
    om := em _ _ _ (by decide +kernel)
    or := em _ _ _ (by decide +kernel)
    oo := em _ _ _ (by decide +kernel)
    kr := of_decide_eq_true (He.ba more.2).1 }
end
end SK
namespace SK
open PySem PySem.Spec PyProof.Rows L2 LamX NdefX
abbrev RR : PySem.W.OpenRow := PySem.W.OpenLaw.row PySem.Challenge.rw_lettertrees_k13_trees_refused
def names13 : List Str := [("TreesError" : Str), ("BadLetters" : Str), ("TooMany" : Str), ("BadRow" : Str), ("Lone" : Str), ("NoPlace" : Str), ("BadWord" : Str), ("ALPHABET" : Str), ("LONGEST_WORD" : Str), ("MOST_PLACES" : Str), ("is_letters" : Str), ("check_letters" : Str), ("is_word" : Str), ("check_words" : Str), ("check_places" : Str), ("in_order" : Str), ("is_row" : Str), ("table_of" : Str), ("letters_below" : Str), ("shared" : Str), ("number_of_beginnings" : Str), ("marks_of" : Str), ("Tree" : Str), ("_law_pen_of" : Str), ("_law_draw" : Str), ("_law_pick" : Str), ("_law_shuffled" : Str), ("_law_letters_of" : Str), ("_law_some_words" : Str), ("_law_in_order" : Str), ("_law_beginnings" : Str), ("_law_some_rows" : Str), ("_law_met" : Str), ("_law_are_letters" : Str), ("_law_is_row" : Str), ("_law_due" : Str), ("_law_spoilt" : Str), ("_law_many" : Str)]
theorem run13 (w : World) : HandSHeadRun.RunEq RR (PySem.W.view RR.prog [41]) hk13 ob13 9000 names13 w := by
  intro os
  kernel_rfl
end SK
open PySem PySem.W PySem.Calls PyProof.Rows
theorem PySem.Challenge.cw_lettertrees_k13_trees_refused_holds : PySem.Challenge.rw_lettertrees_k13_trees_refused.Holds := by
  w_on; o_law
  refine HandSHeadRun.head_any (r := SK.RR) (q := view SK.RR.prog [41]) (H := SK.hk13) (ob := SK.ob13) (M := 9000) (loose := SK.names13) (d := HandSHeadRun.topDef SK.RR.prog 41) (kwd := []) SK.ob13_eq
    (by kernel_rfl) (fun s => by kernel_rfl) SK.run13 (by kernel_rfl) (by kernel_rfl) (by kernel_rfl) (by rfl) (by first | assumption | decide +kernel) (by decide +kernel) ⟨rfl, rfl, rfl, rfl, rfl, by decide +kernel⟩ ?hw ?hc
  case hw => w_witness2
  case hc =>
    refine Att.attach_call (l := PySem.Challenge.rw_lettertrees_k13_trees_refused) (n := 63) rfl (by kernel_rfl) fun w s₀ s₁ mg mb fa o pm cd doc a vs ns G Y ho hd hcd hmg hobj hints hlen hg => ?_
    obtain ⟨K, KX, c⟩ := Y
    have hl : mg ("law" : PySem.Str) = some (.ref (He.ga K "law")) := He.glo_ok KX G.T.g (c.t.d.facts (f := .glo "law") (List.mem_append_left _ (List.mem_map.mpr ⟨("law", 41), by decide +kernel, rfl⟩)))
    have hmg' : mg ("law" : PySem.Str) = some (.ref fa) := by
      have e : (HandSHeadRun.topDef SK.RR.prog 41).name = ("law" : PySem.Str) := by kernel_rfl
      rw [← e]
      exact hmg
    rw [hmg'] at hl
    have ef : fa = He.ga K "law" := Value.ref.inj (Option.some.inj hl)
    rw [ef]
    exact SK.run_law3 (K := K) (mg := mg) (mb := mb) (fun base Kb hm TB => SK.facts13 c Kb hm TB) KX G.T.g G.T.b G.T.builtins G.T.nolimit hg (c.empty _ (.head _)) (c.out _ (.head _)) (codeHd_of_K KX (c.hd _ (.head _))) G.T.bmain hobj hints hlen
