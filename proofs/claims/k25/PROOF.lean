import PyProof.Rows.All
import Wide.All
import OpenK.AllK
import Wide.FinOn
import HandS.ForSpec
import HandS.ExcInit
import KE.KExcIs
import HandS.IsInst
import HandS.ExcValue
import HandS.Dict
import HandS.SortKw
import KE.SortKeyHeap
import KE.SortCalls
import HandS.Comp
import HandS.Iter
import HandS.Nested
import HandS.Walk
import HandS.DictComp
import KE.GoesMore
import KE.GoesEnum
import HandS.Text
import HandS.Style
import HandS.WordsDict
import PyProof.StrLaws
import HandS.Strs
import HandS.SetTxt0
import HandS.Steps
import HandS.Conv
import HandS.TryMany
import HandS.ExcField
import HandS.ExcIs
import HandS.Replace
import HandS.Deep
import HandS.OwnEq
import HandS.Gcd
import HandS.Wide
import HandS.WideMore
import HandS.FStr
import HandS.Defaults
import PyProof.EqKinds
import PyProof.TwoTypes
import KE.KCallOwn
import PyProof.InstEq
import HandS.More
import HandS.SetKeys
import PyProof.NeKinds
import PyProof.StrLawsRepr
import PyProof.Rows.StrMul
import PyProof.Rows.StrJoinRep
import HandS.DeepEq
import KE.KEqNest
import HandS.TryOnly
import HandS.ClsMeth
import PyProof.AssignAttr
import KE.GoesZip
import HandS.Finally
import PyProof.ListStr
import HandS.Lambda
import HandS.Property
import HandS.EndTab
import KE.KStateDown
import Lean
import HandS.Head0
import HandS.Head1
import HandS.Head2
import HandS.HeadEnd
import HandS.HeadHook4
import HandS.HeadNt
import PySem.Challenge.RW_lettertrees_k25_whole_groves_read
set_option Elab.async false
set_option linter.all false
set_option maxRecDepth 100000
set_option maxHeartbeats 0
/-! ### calls of an own exception class with keywords: the boot's __new__ takes any, the own __init__ gets them -/
namespace K0
open PySem PySem.W PySem.Calls PySem.HandSPX
section
variable {M : Model} {A : Around} {E : Value → Shared → Prop} {h : Heap} {g : Array GenState} {d : Drawn} {t : Nat} {os : OsState}
variable {nm q : Str} {C N : Addr} {bs bm bmB : List Value} {hdct : Bool} {sn : List Str} {sub : List Value} {ab : Bool} {col : Option Bool} {dd : Option Addr}
variable {k0 k1 k2 k3 k5 : Option Value} {B newId initId : String}

theorem kw_check_new (F : ExcBaseFacts B newId initId bmB) (hT : ∀ X : String, bm.contains (.type X) = bmB.contains (.type X)) {rest : List Value} {kw : List (Str × Value)} {Q : Unit → Shared → Prop}
    (hC : h.get? C = some (excClassObj nm q C N bs bm hdct sn sub ab col dd k0 k1 k2 k3 k5 newId)) (hq : Q () ⟨h, g, d, t, os⟩) :
    wpAny M A (checkBuiltinCall newId ⟨.ref C :: rest, kw⟩) Q E ⟨h, g, d, t, os⟩ := by
  have hB : (Value.ref C :: bm).contains (.type B) = true := by
    rw [List.contains_cons, hT, F.hasB, Bool.or_true]
  have hs := F.noStar
  simp only [checkBuiltinCall, F.newKind, F.newSplit, F.newRow]
  repeat
    first
    | refine wpAny_loadPart_at hC ?_
    | (refine wpAny_isSubtype_exc hC ?_
       rw [hB])
    | refine wpAny_staticBase_exc hC ?_
    | refine wpAny_madeBy_exc hC ?_
    | simp only [bne_self_eq_false, Bool.false_eq_true, if_false]
    | wp_step
  exact hq
end
section
variable {prog : Program} {w : World} {A : Around} {E : Value → Shared → Prop} {R : Result → Shared → Prop} {h : Heap} {g : Array GenState} {d : Drawn} {t : Nat} {os : OsState}
variable {nm q : Str} {C N : Addr} {bs bm bmB : List Value} {hdct : Bool} {sn : List Str} {sub : List Value} {ab : Bool} {col : Option Bool} {dd : Option Addr}
variable {k0 k1 k2 k3 k5 : Option Value} {B newId initId : String}

/-- the heap with a new exception of the class at C, its args behind it -/
abbrev twoMore (h : Heap) (C : Addr) (rest : List Value) : Heap := (h.push (W.kdv_tup rest)).push (excO C h.objs.size)

theorem kw_new (F : ExcBaseFacts B newId initId bmB) (hT : ∀ X : String, bm.contains (.type X) = bmB.contains (.type X)) {rest : List Value} {kw : List (Str × Value)}
    (hC : h.get? C = some (excClassObj nm q C N bs bm hdct sn sub ab col dd k0 k1 k2 k3 k5 newId))
    (hq : R (.ok (.ret (.ref (h.objs.size + 1)))) ⟨twoMore h C rest, g, d, t, os⟩) (hz : rest.length ≤ sizeLine) :
    codeAny (model prog w) A (.builtin newId ⟨.ref C :: rest, kw⟩) R ⟨h, g, d, t, os⟩ := by
  have e0 := F.ends
  have cB : (Value.ref C :: bm).contains (.type B) = true := by
    rw [List.contains_cons, hT, F.hasB, Bool.or_true]
  have cA : (Value.ref C :: bm).contains (.type "AttributeError") = false := by
    rw [List.contains_cons, hT, F.noAttr] <;> rfl
  have cN : (Value.ref C :: bm).contains (.type "NameError") = false := by
    rw [List.contains_cons, hT, F.noName] <;> rfl
  refine codeAny_builtinAt F.entry ?_
  unfold Builtin.«BaseException.__new__»
  refine wpAt_bind ?_
  show wpAt _ _ _ (stack >>= _) _ _ _
  refine wpAt_bind (wpAt_stack fun p below => wpAt_of_wpAny ?_)
  wp_walk
  refine wpAt_of_wpAny ?_
  rw [F.owner]
  repeat
    first
    | with_reducible refine wpAny_madeHere_exc F.canon hC ?_
    | with_reducible refine wpAny_loadPart_at hC ?_
    | (with_reducible refine wpAny_isSubtype_exc hC ?_
       first | rw [cB] | rw [cA] | rw [cN])
    | wp_step
  show R _ _
  rw [Heap.size_push]
  exact hq

theorem kw_typeCall (F : ExcBaseFacts B newId initId bmB) (hT : ∀ X : String, bm.contains (.type X) = bmB.contains (.type X)) {rest : List Value} {kw : List (Str × Value)} {fI : Addr} {Q : Fin → Shared → Prop}
    (hC : h.get? C = some (excClassObj nm q C N bs bm hdct sn sub ab col dd k0 k1 k2 k3 k5 newId))
    (hi : W.Looks (model prog w) h (typeLookup (.ref C) "__init__") (some (.ref fI))) (hb : ∀ self, W.Looks (model prog w) h (bindSpecial (.ref fI) self) (.ref fI, [self])) (hz : rest.length ≤ sizeLine)
    (hq : codeAny (model prog w) A (.call (.ref fI) ⟨.ref (h.objs.size + 1) :: rest, kw⟩)
      (fun r s' => match r with | .ok (.ret v) => v = .none ∧ Q (.done (.ret (.ref (h.objs.size + 1)))) s' | .ok _ => False | .error e => E e s') ⟨twoMore h C rest, g, d, t, os⟩) :
    wpAny (model prog w) A (Builtin.«type.__call__» ⟨.ref C :: rest, kw⟩) Q E ⟨h, g, d, t, os⟩ := by
  repeat
    first
    | with_reducible refine wpAny_loadPart_at hC ?_
    | with_reducible refine wpAny_madeBy_exc hC ?_
    | wp_step
  refine codeAny_call_builtin_code (Code.quiet_builtin _ F.quiet) (kw_check_new F hT hC ?_)
  refine kw_new F hT hC ?_ hz
  show wpAny _ _ _ _ _ _
  have k : ∀ b o, h.get? b = some o → (twoMore h C rest).get? b = some o := fun b o e => Heap.get?_push_of_some _ (Heap.get?_push_of_some _ e)
  have hC1 := k _ _ hC
  have hx : (twoMore h C rest).get? (h.objs.size + 1) = some (excO C h.objs.size) := by heap_get
  have cC : (Value.ref C :: bm).contains (.ref C) = true := by simp
  have i1 := hi.keeps k
  have b1 := (hb (.ref (h.objs.size + 1))).keeps k
  unfold isInstance
  repeat
    first
    | with_reducible refine wpAny_loadPart_at hx ?_
    | (with_reducible refine wpAny_isSubtype_exc hC1 ?_
       rw [cC])
    | wp_step
  show wpAny _ _ (typeLookup (.ref C) _) _ _ _
  refine i1.at ?_
  refine wpAny_holding (wpAny_bind (b1.at ?_))
  refine wpAny_bind (wpAny_call (codeAny_mono hq fun r s' z => ?_))
  cases r with
  | error e => exact z
  | ok f =>
    cases f with
    | ret v =>
      obtain ⟨rfl, z⟩ := z
      first
      | exact wpAny_pure (wpAny_pure z)
      | (wp_walk
         exact z)
    | next => exact z.elim
    | brk => exact z.elim
    | cont => exact z.elim

theorem kw_checkCall {M : Model} {rest : List Value} {kw : List (Str × Value)} {Q : Unit → Shared → Prop} (hC : h.get? C = some (excClassObj nm q C N bs bm hdct sn sub ab col dd k0 k1 k2 k3 k5 newId))
    (hq : Q () ⟨h, g, d, t, os⟩) : wpAny M A (checkBuiltinCall "type.__call__" ⟨.ref C :: rest, kw⟩) Q E ⟨h, g, d, t, os⟩ := by
  have e3 := tc_sub
  have ty : (⟨h, g, d, t, os⟩ : Shared).TypeIs (.ref C) "type" := ⟨_, hC, rfl⟩
  simp only [checkBuiltinCall, tc_kind, tc_split]
  repeat (any_goals (first
    | assumption
    | with_reducible refine wpAny_loadPart_at hC ?_
    | with_reducible refine wpAny_onRaise ?_
    | with_reducible refine wpAny_map ?_
    | wp_step))

theorem kw_call (F : ExcBaseFacts B newId initId bmB) (hT : ∀ X : String, bm.contains (.type X) = bmB.contains (.type X)) {rest : List Value} {kw : List (Str × Value)} {fI : Addr}
    (hC : h.get? C = some (excClassObj nm q C N bs bm hdct sn sub ab col dd k0 k1 k2 k3 k5 newId))
    (hi : W.Looks (model prog w) h (typeLookup (.ref C) "__init__") (some (.ref fI))) (hb : ∀ self, W.Looks (model prog w) h (bindSpecial (.ref fI) self) (.ref fI, [self])) (hz : rest.length ≤ sizeLine)
    (hq : codeAny (model prog w) (A.under (.builtin "type.__call__" ⟨.ref C :: rest, kw⟩)) (.call (.ref fI) ⟨.ref (h.objs.size + 1) :: rest, kw⟩) (W.InitBack (h.objs.size + 1) R) ⟨twoMore h C rest, g, d, t, os⟩) :
    codeAny (model prog w) A (.call (.ref C) ⟨rest, kw⟩) R ⟨h, g, d, t, os⟩ := by
  have f1 := tc_lookup
  have f2 := tc_bind (.ref C)
  have ty : (⟨h, g, d, t, os⟩ : Shared).TypeIs (.ref C) "type" := ⟨_, hC, rfl⟩
  refine codeAny_of_tree ?_
  show wpAny _ _ (callAny (.ref C) _) _ _ _
  repeat (any_goals (first
    | assumption
    | with_reducible refine wpAny_loadPart_at hC ?_
    | wp_step))
  refine ⟨rfl, ?_⟩
  refine codeAny_call_builtin_at (Code.quiet_builtin _ (by decide +kernel)) entry_typeCall (kw_checkCall hC (kw_typeCall F hT hC hi hb hz ?_))
  refine codeAny_mono hq fun r s' z => ?_
  cases r with
  | error e => exact z
  | ok f => cases f <;> exact z
end
end K0
namespace K0
open PySem PySem.Spec PyProof.Rows L2
abbrev St := L2.St
section
variable {X : Cx} {pins : List (Addr × Obj)} {σ : St} {H H' : Hp} {s : Shared}
/-- things told by what is true of their one object may be forgotten -/
theorem forget (I : Inv X pins σ H' s) (sub : ∀ b o, H b = some o → H' b = some o) (ext : ∀ b o, H' b = some o → H b = some o ∨ ∃ φ, o = HO.ext φ) : Inv X pins σ H s := by
  have fr : ∀ b, H' b = none → H b = none := fun b n => by
    cases q : H b with
    | none => rfl
    | some o =>
      rw [sub b o q] at n
      cases n
  have back : ∀ b o, H' b = some o → (∀ φ, o ≠ HO.ext φ) → H b = some o := fun b o q n => by
    rcases ext b o q with z | ⟨φ, z⟩
    · exact z
    · exact absurd z (n φ)
  refine ⟨I.ok, I.os, I.bare, ⟨I.base.keep, I.base.slot, fun b o e n hx => fr b (I.base.free b o e n hx), I.base.there, fun b xs q => ?_, fun b o u q => ?_, fun b ps q => ?_⟩, I.loc, I.cell, fr _ I.free, fun x c e => fr c (I.freeC x c e), fun p hp => ?_, fun b o q => ?_, I.len⟩
  · exact back b _ (I.base.tups b xs q) (fun φ z => nomatch z)
  · exact back b _ (I.base.frzs b o u q) (fun φ z => nomatch z)
  · obtain ⟨m, z⟩ := I.base.tbls b ps q
    exact ⟨m, back b _ z (fun φ z => nomatch z)⟩
  · obtain ⟨h1, h2, h3, h4, h5⟩ := I.pin p hp
    exact ⟨h1, fr _ h2, h3, h4, h5⟩
  · exact (I.hok b o (sub b o q)).stay (fun c v _ z => z) (fun c z => back c _ z (fun φ z => nomatch z)) fun c xs z => back c _ z (fun φ z => nomatch z)
end

/-! ### an exception of an own class with its own __init__ -/
structure XCl (K : PySem.W.Frag) (C : Addr) : Prop where
  T : OexC K C
  ga : PySem.W.findIn K (.ref C) "__getattribute__" = some (some (.builtin "BaseException.__getattribute__"))
  gg : PySem.W.findIn K (.ref C) "__getattr__" = some none
  hd : PySem.W.hasDictIn K C = true
  ha : PySem.W.findIn K (.ref C) "__class__" = some (some (.builtin "object.__class__"))
  hn : PySem.W.specialIn K (.builtin "object.__class__") "__get__" = some (some (.builtin "getset_descriptor.__get__"))
  ht : PySem.W.takesIn K (.builtin "object.__class__") = some true
  hm : PySem.W.mroIn K C (.type "object") = some true
/-- the heap with an exception of C at a, its dict of the fields fs at dx -/
abbrev withX (H : Hp) (C a dx : Addr) (fs : List (Str × V)) : Hp := upd (upd H dx (exd dx fs)) a (exo a C (some dx))
/-- what such an __init__ does: the fields fs get the arguments -/
def spX (C : Addr) (fs : List Str) : Sp := fun vs H Q _ => ∃ (a : Addr) (ys : List V), vs = .ref a :: ys ∧ ys.length = fs.length ∧ H a = some (exo a C none) ∧
  ∀ dx, H dx = none → dx ≠ a → Q .non (withX H C a dx (fs.zip ys).reverse)
theorem withX_sub {H : Hp} {C a dx : Addr} {fs : List (Str × V)} (ha : H a = none) (hd : H dx = none) : ∀ b o, H b = some o → withX H C a dx fs b = some o := fun b o e => by
  show upd (upd H dx _) a _ b = some o
  rw [upd_ne (ne_of_none e ha), upd_ne (ne_of_none e hd)]
  exact e
theorem withX_ext {H : Hp} {C a dx : Addr} {fs : List (Str × V)} : ∀ b o, withX H C a dx fs b = some o → H b = some o ∨ ∃ φ, o = HO.ext φ := fun b o e => by
  have e' : upd (upd H dx (exd dx fs)) a (exo a C (some dx)) b = some o := e
  by_cases hb : b = a
  · subst hb
    rw [upd_same] at e'
    exact .inr ⟨_, (Option.some.inj e').symm⟩
  · rw [upd_ne hb] at e'
    by_cases hd : b = dx
    · subst hd
      rw [upd_same] at e'
      exact .inr ⟨_, (Option.some.inj e').symm⟩
    · rw [upd_ne hd] at e'
      exact .inl e'
section
variable {X : Cx} {k : Nat} {f C : Addr} {fd : FuncData} {ps : List Str} {sp : Sp}
theorem run_mx {pins : List (Addr × Obj)} {σ : St} {H : Hp} {s : Shared} {Q : VK} {us args : List Value} {kw : List (Str × Value)} {vs : List V} (T : OexC X.K C) (iC : PySem.W.findIn X.K (.ref C) "__init__" = some (some (.ref f)))
    (tI : PySem.W.typeIn X.K (.ref f) = some (.type "function")) (F : FnOk X.prog X.w X.K X.mg X.base CX0 k f fd ps sp) (hr : Room (k + 1) X.A)
    (hb : ∀ (s : Shared) (self : Value), X.K.In s.heap → BindsTo s fd ⟨self :: us, kw⟩ (ps.zip (self :: args))) (I : Inv X pins σ H s) (hz : us.length ≤ sizeLine) (r : Vals vs args)
    (h : ∀ a, H a = none → sp (.ref a :: vs) (upd H a (exo a C none)) (fun v H2 => v = .non ∧ Q (.ref a) H2) E0) :
    wpAny (model X.prog X.w) X.A (call (.ref C) us kw) (EP X pins σ Q) X.xe s := by
  obtain ⟨nm, q, N, bs, bm, sn, sub, ab, col, dd, k0, k1, k2, k3, k5, hC, hbm⟩ := T.cls
  obtain ⟨hp, g, dr, tk, os⟩ := s
  have up : hp.objs.size ≤ hp.objs.size + 1 := Nat.le_succ _
  have hq := h (hp.objs.size + 1) (I.hok.fresh up)
  have keep : ∀ b o, hp.get? b = some o → (twoMore hp C us).get? b = some o := fun b o e => Heap.get?_push_of_some _ (Heap.get?_push_of_some _ e)
  have there : (twoMore hp C us).get? (hp.objs.size + 1) = some (PySem.HandSPX.excO C hp.objs.size) := by heap_get
  have I2 : Inv X pins σ (upd H (hp.objs.size + 1) (exo (hp.objs.size + 1) C none)) ⟨twoMore hp C us, g, dr, tk, os⟩ := I.laid (t' := tk) keep up (exo_ok there)
  have r2 : Vals (V.ref (hp.objs.size + 1) :: vs) (Value.ref (hp.objs.size + 1) :: args) := .cons rfl r
  refine wpAny_call (kw_call PySem.F.excBase_ValueError (fun Y => PySem.HandSPX.refsVE_contains Y bm hbm) (I.kIn _ _ hC) (PySem.W.looks_findIn I.kIn iC) (fun self => PySem.W.bind_fn I.kIn self tI) hz
    (codeAny_mono (F.run _ X.stack _ _ ⟨Value.ref (hp.objs.size + 1) :: us, kw⟩ _ _ _ E0 (hr.make C us kw) (I2.env0.make C us kw) (hb _ _ I2.kIn) r2 hq) fun r s' hq' => ?_))
  cases r with
  | error er => exact hq'.elim
  | ok fl =>
    cases fl with
    | ret u =>
      obtain ⟨v, H3, I3, rv, ev, q3⟩ := I2.after hq'
      subst ev
      exact ⟨rv, ⟨V.ref (hp.objs.size + 1), H3, I3, rfl, q3⟩⟩
    | next => exact False.elim hq'
    | brk => exact False.elim hq'
    | cont => exact False.elim hq'
/-- the class made, its fields kept: as a value -/
theorem run_mv {fs : List Str} {pins : List (Addr × Obj)} {σ : St} {H : Hp} {s : Shared} {Q : VK} {us args : List Value} {kw : List (Str × Value)} {vs : List V} (T : OexC X.K C) (iC : PySem.W.findIn X.K (.ref C) "__init__" = some (some (.ref f)))
    (tI : PySem.W.typeIn X.K (.ref f) = some (.type "function")) (F : FnOk X.prog X.w X.K X.mg X.base CX0 k f fd ps (spX C fs)) (hr : Room (k + 1) X.A)
    (hb : ∀ (s : Shared) (self : Value), X.K.In s.heap → BindsTo s fd ⟨self :: us, kw⟩ (ps.zip (self :: args))) (I : Inv X pins σ H s) (hz : us.length ≤ sizeLine) (r : Vals vs args) (hl : vs.length = fs.length)
    (h : ∀ a dx, H a = none → H dx = none → dx ≠ a → Q (.ref a) (withX H C a dx (fs.zip vs).reverse)) :
    wpAny (model X.prog X.w) X.A (call (.ref C) us kw) (EP X pins σ Q) X.xe s := by
  refine run_mx T iC tI F hr hb I hz r fun a na => ⟨a, vs, rfl, hl, upd_same, fun dx nd ne => ⟨rfl, ?_⟩⟩
  have nd' : H dx = none := by
    rw [upd_ne ne] at nd
    exact nd
  have e : withX (upd H a (exo a C none)) C a dx (fs.zip vs).reverse = withX H C a dx (fs.zip vs).reverse := by
    funext b
    show upd (upd (upd H a _) dx _) a _ b = upd (upd H dx _) a _ b
    by_cases hb : b = a
    · rw [hb, upd_same, upd_same]
    · rw [upd_ne hb, upd_ne hb]
      by_cases hd : b = dx
      · rw [hd, upd_same, upd_same]
      · rw [upd_ne hd, upd_ne hd, upd_ne hb]
  rw [e]
  exact h a dx na nd' ne
end
end K0
namespace K0
open PySem PySem.Spec PyProof.Rows L2
section
variable {X : Cx} {k : Nat} {f C : Addr} {fd : FuncData} {ps : List Str} {fs : List Str} {x n : Str} {e : Expr} {es : List Expr} {ta : TA} {te : TE} {p pos pos' : Pos} {kws : List Keyword}
/-- what the top says of such a class and its __init__ -/
structure XMk (X : Cx) (x : Str) (C : Addr) (fs : List Str) : Prop where
  cl : XCl X.K C
  gC : X.mg x = some (.ref C)
  ini : ∃ f fd k, PySem.W.findIn X.K (.ref C) "__init__" = some (some (.ref f)) ∧ PySem.W.typeIn X.K (.ref f) = some (.type "function") ∧ FnOk X.prog X.w X.K X.mg X.base CX0 k f fd (("self" : Str) :: fs) (spX C fs) ∧ Room (k + 1) X.A ∧
    (∀ (s : Shared) (self : Value) (us : List Value), us.length = fs.length → BindsTo s fd ⟨self :: us, []⟩ ((("self" : Str) :: fs).zip (self :: us))) ∧
    (∀ (s : Shared) (self : Value) (us : List Value), us.length = fs.length → BindsTo s fd ⟨[self], fs.zip us⟩ ((("self" : Str) :: fs).zip (self :: us)))
/-- C(e, ..) : whatever is asked of the arguments and the heap there, the new exception stands behind it -/
structure PX (X : Cx) (e : Expr) (C : Addr) (fs : List Str) (ta : TA) : Prop where
  run : ∀ (pins : List (Addr × Obj)) (s : Shared) (σ : St) (H : Hp) (P : List V → Hp → Prop), Inv X pins σ H s → (ta σ H fun vs H1 => vs.length = fs.length ∧ vs.length ≤ 1000 ∧ P vs H1) →
    wpAny (model X.prog X.w) X.A (eval e X.env) (fun u s1 => ∃ (vs : List V) (H1 : Hp) (a dx : Addr), u = .ref a ∧ H1 a = none ∧ H1 dx = none ∧ dx ≠ a ∧ Inv X pins σ (withX H1 C a dx (fs.zip vs).reverse) s1 ∧ P vs H1) X.xe s
theorem us_small {vs : List V} {us : List Value} (r : Vals vs us) (h : vs.length ≤ 1000) : us.length ≤ sizeLine := by
  rw [← Paired.length r, sizeLine_eq]
  omega
theorem px_pos (M : XMk X x C fs) (hg : Gl X x) (ha : PA X (e :: es) ta) (hdb : (x == ("__debug__" : Str)) = false := by decide)
    (he : starEach (e :: es) X.env = (false, eval e X.env) :: starEach es X.env := by rfl) (hpl : (backTo pos (starEach es X.env)).any (·.1) = false := by rfl) :
    PX X (.Call (.Name x p) (e :: es) [] pos) C fs ta := by
  refine ⟨fun pins s σ H P I h => ?_⟩
  obtain ⟨f, fd, k, iC, tI, F, hr, b1, _⟩ := M.ini
  refine wpAny_Call_Name_kw (ld_glob I hg M.gC ?_ hdb)
  refine PySem.W.callWith_K (h₀ := X.base) I.ok.mod.kin M.cl.T.kC (thn (ha.run pos pins s σ H _ I h) fun us s1 ⟨vs, H1, I1, r, hl, hz, q⟩ => ⟨I1.kIn, ?_⟩) he hpl
  refine thn (run_mv (fs := fs) (Q := fun v H2 => ∃ a dx, v = .ref a ∧ H1 a = none ∧ H1 dx = none ∧ dx ≠ a ∧ H2 = withX H1 C a dx (fs.zip vs).reverse) M.cl.T iC tI F hr (fun s self _ => b1 s self us (r.length.symm.trans hl)) I1 (us_small r hz) r hl
    fun a dx na nd ne => ⟨a, dx, rfl, na, nd, ne, rfl⟩) fun u s2 ⟨v, H2, I2, rv, a, dx, ev, na, nd, ne, eH⟩ => ?_
  subst ev eH
  exact ⟨vs, H1, a, dx, rv, na, nd, ne, I2, q⟩
theorem px_kw (M : XMk X x C fs) (hg : Gl X x) (hkw : PK X kws ta) (hall : (backToKw pos (keywordEach kws X.env)).all (·.1.isSome) = true := by rfl) (hks : (backToKw pos (keywordEach kws X.env)).filterMap (·.1) = fs := by rfl)
    (hdb : (x == ("__debug__" : Str)) = false := by decide) (hpl : ((backTo pos (starEach [] X.env)).any (·.1) || (backToKw pos (keywordEach kws X.env)).any (·.1.isNone)) = false := by rfl) :
    PX X (.Call (.Name x p) [] kws pos) C fs ta := by
  refine ⟨fun pins s σ H P I h => ?_⟩
  obtain ⟨f, fd, k, iC, tI, F, hr, _, b2⟩ := M.ini
  refine wpAny_Call_Name_kw (ld_glob I hg M.gC ?_ hdb)
  refine PySem.W.callWith_KW0 (h₀ := X.base) I.ok.mod.kin M.cl.T.kC hall (thn (hkw.run pos pins s σ H _ I h) fun us s1 ⟨vs, H1, I1, r, hl, hz, q⟩ => ⟨I1.kIn, ?_⟩) hpl
  rw [hks]
  refine thn (run_mv (fs := fs) (us := []) (Q := fun v H2 => ∃ a dx, v = .ref a ∧ H1 a = none ∧ H1 dx = none ∧ dx ≠ a ∧ H2 = withX H1 C a dx (fs.zip vs).reverse) M.cl.T iC tI F hr (fun s self _ => b2 s self us (r.length.symm.trans hl)) I1 (Nat.zero_le _) r hl
    fun a dx na nd ne => ⟨a, dx, rfl, na, nd, ne, rfl⟩) fun u s2 ⟨v, H2, I2, rv, a, dx, ev, na, nd, ne, eH⟩ => ?_
  subst ev eH
  exact ⟨vs, H1, a, dx, rv, na, nd, ne, I2, q⟩
/-- C(e, ..) as a value -/
def tMx (C : Addr) (fs : List Str) (ta : TA) : TE := fun σ H Q => ta σ H fun vs H1 => vs.length = fs.length ∧ vs.length ≤ 1000 ∧ ∀ a dx, H1 a = none → H1 dx = none → dx ≠ a → Q (.ref a) (withX H1 C a dx (fs.zip vs).reverse)
theorem pe_mx (h : PX X e C fs ta) : PE X e (tMx C fs ta) := by
  refine ⟨fun pins s σ H Q I h0 => thn (h.run pins s σ H _ I h0) fun u s1 hh => ?_⟩
  obtain ⟨vs, H1, a, dx, rfl, na, nd, ne, I1, q⟩ := hh
  exact ⟨.ref a, _, I1, rfl, q a dx na nd ne⟩
/-- C(e, ..).n: the exception itself is let go -/
def tFx (fs : List Str) (n : Str) (ta : TA) : TE := fun σ H Q => ta σ H fun vs H1 => vs.length = fs.length ∧ vs.length ≤ 1000 ∧ ∃ v, (fs.zip vs).reverse.lookup n = some v ∧ Q v H1
theorem pe_fx (cl : XCl X.K C) (hno : PySem.W.findIn X.K (.ref C) n = some none) (h : PX X e C fs ta) (hb : attributeBase e n X.env (eval e X.env) = eval e X.env := by rfl) : PE X (.Attribute e n pos) (tFx fs n ta) := by
  refine ⟨fun pins s σ H Q I h0 => attr_of hb (thn (h.run pins s σ H _ I h0) fun u s1 hh => ?_)⟩
  obtain ⟨vs, H1, a, dx, rfl, na, nd, ne, I1, v, l, q⟩ := hh
  have ea : withX H1 C a dx (fs.zip vs).reverse a = some (exo a C (some dx)) := upd_same
  have ed : withX H1 C a dx (fs.zip vs).reverse dx = some (exd dx (fs.zip vs).reverse) := (upd_ne ne).trans upd_same
  obtain ⟨t1, ho⟩ := exo_at I1.hok ea
  obtain ⟨mA, hns, rel⟩ := exd_at I1.hok ed
  obtain ⟨od, hd, hl⟩ := lookIn_ns hns
  obtain ⟨u, hu, ru⟩ := RelO.some_of (v := v) (o := mA n) (by rw [← l]; exact rel n)
  have J : PySem.W.InstAt s1.heap a _ C (some od) := ⟨ho, rfl, rfl, hd⟩
  exact PySem.HandSPX.exc_get I1.kIn J cl.ga cl.gg cl.T.exC (PySem.W.findObj_own cl.hd hno rfl (by rw [hl, hu])) (handed_of ru) ⟨v, H1, (forget I1 (withX_sub na nd) withX_ext).tok _, ru, q⟩
/-! ### C(), a class without an own __init__ -/
theorem pe_m0 {newId initId B : String} {bmB : List Value} (F : ExcBaseFacts B newId initId bmB) (q : PySem.W.excIn X.K C bmB newId = true) (gC : X.mg x = some (.ref C)) (kC : PySem.W.keepIn X.K (.ref C) = true) (hg : Gl X x) (hdb : (x == ("__debug__" : Str)) = false := by decide) :
    PE X (.Call (.Name x p) [] [] pos) (fun _ H Q => ∀ a, H a = none → Q (.ref a) (upd H a (exo a C none))) := by
  refine ⟨fun pins s σ H Q I h => ?_⟩
  refine wpAny_Call_Name_kw (ld_glob I hg gC ?_ hdb)
  refine PySem.W.callWith_K0 I.kIn kC ?_
  show wpAny _ _ (call (.ref C) []) _ _ _
  obtain ⟨bm, N, nm, qn, bs, hdct, sn, sub, ab, col, dd, k0, k1, k2, k3, k5, mN, hC, hN, hni, T⟩ := exc_obj I.kIn q
  refine wpAny_call_exc_subT F T hC hN hni (fun h' a hm => ?_) (Nat.zero_le _)
  have hn : H a = none := I.hok.gone hm.new
  obtain ⟨t, ht, _, _⟩ := hm.there
  exact ⟨.ref a, upd H a (exo a C none), I.laidN hm.keeps hm.new hn (exo_ok ht), rfl, h a hn⟩
/-! ### isinstance(e, c), e such an exception -/
def rIsx (K : PySem.W.Frag) : List V → Hp → VK → Prop := fun xs H Q => ∃ (a D : Addr) (c : V) (u : Value) (b : Bool), xs = [.ref a, c] ∧ ClsV c u ∧ XCl K D ∧ (H a = some (exo a D none) ∨ ∃ dx gs, H a = some (exo a D (some dx)) ∧ H dx = some (exd dx gs)) ∧
  PySem.W.kitOne K (.ref D) u = some b ∧ Q (.bl b) H
theorem call_isx : CallR X (.builtin "isinstance") (rIsx X.K) := by
  intro pins s σ H xs us Q I r h
  obtain ⟨a, D, c, u, b, rfl, k, cl, ha, e, q⟩ := h
  obtain ⟨u1, u2, rfl, r1, r2⟩ := vals2 r
  obtain rfl : u1 = Value.ref a := r1
  have e2 := k.eq r2
  subst e2
  have hc : (PySem.W.clsIn X.K D).isSome = true := by
    obtain ⟨cd, hcd, _⟩ := PySem.W.any_some cl.hd
    rw [hcd]
    rfl
  have J : ∃ ox od, PySem.W.InstAt s.heap a ox D od := by
    rcases ha with ha | ⟨dx, gs, ha, hd⟩
    · obtain ⟨t1, ho⟩ := exo_at I.hok ha
      exact ⟨_, none, ho, rfl, rfl, trivial⟩
    · obtain ⟨t1, ho⟩ := exo_at I.hok ha
      obtain ⟨mA, hns, rel⟩ := exd_at I.hok hd
      obtain ⟨od, hd, hl⟩ := lookIn_ns hns
      exact ⟨_, some od, ho, rfl, rfl, hd⟩
  obtain ⟨ox, od, J⟩ := J
  exact PySem.W.kia_one (PySem.W.kitx_exc (ox := ox) (od := od) hc cl.ga cl.gg cl.T.exC cl.ha cl.hn cl.ht cl.hm) I.kIn J e (fun z => nomatch z) fun tk => ⟨.bl b, H, I.tok tk, rfl, q⟩
end
/-! ### repr of data with empty dicts -/
mutual
inductive De (K : PySem.W.Frag) (H : Hp) : V → PyData → Prop
  | non : De K H .non .none
  | bl (b : Bool) : De K H (.bl b) (.bool b)
  | int (i : Int) : De K H (.int i) (.int i)
  | str (x : Str) : De K H (.str x) (.str x)
  | lst {a : Addr} {xs : List V} {ds : List PyData} : H a = some (.lst xs) → DeAll K H xs ds → De K H (.ref a) (.list ds)
  | tup {a : Addr} {xs : List V} {ds : List PyData} : H a = some (.tup xs) → DeAll K H xs ds → De K H (.ref a) (.tuple ds)
  | dic {a : Addr} : H a = some (.dK []) → De K H (.ref a) (.dict [])
inductive DeAll (K : PySem.W.Frag) (H : Hp) : List V → List PyData → Prop
  | nil : DeAll K H [] []
  | cons {v : V} {vs : List V} {d : PyData} {ds : List PyData} : De K H v d → DeAll K H vs ds → DeAll K H (v :: vs) (d :: ds)
end
section
variable {X : Cx} {pins : List (Addr × Obj)} {σ : St} {H : Hp} {s : Shared}
theorem off {a : Addr} {o : HO} (hs : H sysModules = none) (h : H a = some o) : sysModules ≠ a := fun e => by
  rw [← e, hs] at h
  cases h
mutual
theorem de_reads (I : Inv X pins σ H s) (hs : H sysModules = none) : ∀ (d : PyData) (v : V) (u : Value), De X.K H v d → RelV v u → ∃ as, Reads s.heap u d as ∧ sysModules ∉ as
  | .none, _, _, h, r => by
    cases h
    obtain rfl : _ = Value.none := r
    exact ⟨_, Reads.none, by simp⟩
  | .bool b, _, _, h, r => by
    cases h
    obtain rfl : _ = Value.bool b := r
    exact ⟨_, Reads.bool b, by simp⟩
  | .int i, _, _, h, r => by
    cases h
    obtain ⟨t, rfl⟩ := r
    exact ⟨_, Reads.int i t, by simp⟩
  | .str x, _, _, h, r => by
    cases h
    obtain ⟨t, rfl⟩ := r
    exact ⟨_, Reads.str x t, by simp⟩
  | .list ds, _, _, h, r => by
    cases h with
    | @lst a xs _ ha hd =>
      obtain rfl : _ = Value.ref a := r
      obtain ⟨_, its, n, rv, ho⟩ := (show ObjOk X.prog X.w H s.heap a (.lst xs) from I.hok a _ ha)
      obtain ⟨as, hr, hn⟩ := de_all I hs ds xs its hd rv
      refine ⟨_, Reads.list ho rfl rfl hr, fun z => ?_⟩
      rcases List.mem_cons.mp z with z | z
      · exact off hs ha z
      · exact hn z
  | .tuple ds, _, _, h, r => by
    cases h with
    | @tup a xs _ ha hd =>
      obtain rfl : _ = Value.ref a := r
      obtain ⟨_, its, rv, o, ho, hc, n, hd2⟩ := (show ObjOk X.prog X.w H s.heap a (.tup xs) from I.hok a _ ha)
      obtain ⟨as, hr, hn⟩ := de_all I hs ds xs its hd rv
      exact ⟨_, Reads.tuple ho hc hd2 hr, hn⟩
  | .dict _, _, _, h, r => by
    cases h with
    | @dic a ha =>
      obtain rfl : _ = Value.ref a := r
      obtain ⟨_, _, vs, rv, o, es, ep, ho, hx, hd, _, hp, _⟩ := (show ObjOk X.prog X.w H s.heap a (.dK []) from I.hok a _ ha)
      cases rv
      have e0 : es.toList = [] := by
        have z := hp.length
        exact List.eq_nil_of_length_eq_zero z
      refine ⟨_, Reads.dict (as := []) (bs := []) ho hx.1 hd (by rw [e0]; exact ReadsAll.nil) (by rw [e0]; exact ReadsAll.nil), fun z => ?_⟩
      simp at z
      exact off hs ha z
theorem de_all (I : Inv X pins σ H s) (hs : H sysModules = none) : ∀ (ds : List PyData) (vs : List V) (us : List Value), DeAll X.K H vs ds → Vals vs us → ∃ as, ReadsAll s.heap us ds as ∧ sysModules ∉ as
  | [], _, _, h, r => by
    cases h
    cases r
    exact ⟨_, ReadsAll.nil, by simp⟩
  | d :: ds, _, _, h, r => by
    cases h with
    | cons h1 h2 =>
      cases r with
      | cons r1 r2 =>
        obtain ⟨as, q1, n1⟩ := de_reads I hs d _ _ h1 r1
        obtain ⟨bs, q2, n2⟩ := de_all I hs ds _ _ h2 r2
        exact ⟨_, ReadsAll.cons q1 q2, fun z => (List.mem_append.mp z).elim n1 n2⟩
end
end
section
variable {X : Cx}
/-- repr(xs), xs a list of data -/
def rRep (K : PySem.W.Frag) : List V → Hp → VK → Prop := fun xs H Q => ∃ (a : Addr) (d : PyData), xs = [.ref a] ∧ De K H (.ref a) d ∧ d.showable = true ∧ d.depth ≤ 8 ∧ d.shown.length ≤ sizeLine ∧ Q (.str d.shown) H
theorem call_rep (hg : X.A.guards = some []) (hu : X.A.units + 64 < cLine) (hsys : ∃ o, X.K.lookup sysModules = some o) : CallR X (.builtin "repr") (rRep X.K) := by
  intro pins s σ H xs us Q I r h
  obtain ⟨a, d, rfl, hd, hsh, hdp, hz, q⟩ := h
  obtain ⟨oS, hoS⟩ := hsys
  have hs : H sysModules = none := (I.bs _ _ (I.ok.mod.kin _ _ hoS)).2
  obtain ⟨u, rfl, ru⟩ := vals1 r
  obtain rfl : u = Value.ref a := ru
  obtain ⟨as, hr, hn⟩ := de_reads I hs d _ _ hd rfl
  exact repr_of_reads' hr hsh (fun _ => hn) hg (by omega) (fun _ _ z => z) (fun h' t tk hk => ⟨.str d.shown, H, I.kept hk, ⟨t, rfl⟩, q⟩) hz
end
end K0
/-! ### sorted(xs, key=f), f's calls seen by an invariant of one's own; the keys are texts -/
namespace SK
open PySem PySem.W PySem.Calls PyProof.Rows
def IsText (v : Value) (k : Str) : Prop := ∃ t, v = .str k t
abbrev Texts (us : List Value) (ks : List Str) : Prop := EachIs IsText us ks
section
variable {prog : Program} {w : World} {A : Around} {E : Value → Shared → Prop} {s : Shared} {a kS : Addr} {b : Bool} {vs : List Value} {ks : List Str} {e1 : Nat} {P : PySem.Fin → Shared → Prop}
theorem texts_read {h : Heap} : ∀ {us : List Value} {ks : List Str}, Texts us ks → EachIs (fun v d => ∃ as, Reads h v d as) us (ks.map PyData.str)
  | _, _, .nil => .nil
  | _, _, .cons ⟨t, e⟩ r => .cons ⟨[], by rw [e]; exact .str _ t⟩ (texts_read r)
theorem alike_texts (ks : List Str) : AllAlike (ks.map PyData.str) := AllAlike.of fun x y => by simp [alike]
theorem sortable_texts (ks : List Str) : Sortable (ks.map PyData.str) := Sortable.others fun x => ⟨(nomatch ·), fun xs => (nomatch ·)⟩
/-- what an invariant J of the sort has to tell -/
structure ByJ (prog : Program) (w : World) (A : Around) (a kS : Addr) (e1 : Nat) (f : Value) (vs : List Value) (ks : List Str) (J : Nat → Shared → Prop) : Prop where
  is : ∀ i s, J i s → ∃ kA e, s.heap.get? kS = some (seqObj "list" kA e) ∧ Texts kA.toList (ks.take i) ∧ s.heap.get? a = some (seqObj "list" #[] e1)
  turn : ∀ (i : Nat) (v : Value) (k : Str), vs[i]? = some v → ks[i]? = some k → ∀ s, J i s → wpAny (model prog w) A (call f [v]) (fun u s2 => IsText u k ∧ ∃ kA e, s2.heap.get? kS = some (seqObj "list" kA e) ∧ Texts kA.toList (ks.take i) ∧
    ∀ h3 e3, Heap.SameBut kS s2.heap h3 → h3.get? kS = some (seqObj "list" (kA.push u) e3) → J (i + 1) { s2 with heap := h3 }) (fun _ _ => False) s
theorem rest_by {f : Value} {J : Nat → Shared → Prop} (B : ByJ prog w A a kS e1 f vs ks J) (hka : kS ≠ a) (hlen : ks.length = vs.length) (hZ : vs.length ≤ sizeLine) (hu : A.units < cLine) (j0 : J 0 s)
    (h : ∀ s' h' tk out c, J vs.length s' → (∀ b o, b ≠ a → b ≠ kS → s'.heap.get? b = some o → h'.get? b = some o) → h'.get? a = some (seqObj "list" (List.toArray out) c) → KeyedOut b (ks.map PyData.str) vs out → P (.done (.ret .none)) { s' with heap := h', toks := tk }) :
    wpAny (model prog w) A (ksk_rest a f b vs.toArray e1 (.ref kS)) P E s := by
  unfold ksk_rest
  refine wpAny_bind (wpAny_rule ?_)
  first
    | rw [List.forIn_toArray]
    | (rw [← Array.forIn_toList]; simp only [List.toList_toArray])
  refine wpAny_bind (ksk_fold J vs 0 s j0 (fun j x s' hx hJ => ?_) fun s' hJ => ?_)
  · rw [Nat.zero_add] at hJ ⊢
    have hj : j < vs.length := (List.getElem?_eq_some_iff.mp hx).1
    obtain ⟨k, hkj⟩ : ∃ k, ks[j]? = some k := ⟨_, List.getElem?_eq_getElem (by omega)⟩
    refine wpAny_bind (wpAny_attempt (wpAny_mono (B.turn j x k hx hkj s' hJ) (fun u s2 q => ?_) fun _ _ z => z.elim))
    obtain ⟨ht, kA, e, nk, tx, go⟩ := q
    dsimp only
    have hz : kA.size ≤ vs.length := by
      have z := tx.length
      rw [Array.length_toList, List.length_take] at z
      omega
    have hz2 : kA.size ≤ sizeLine := Nat.le_trans hz hZ
    obtain ⟨c2, hc2⟩ : ∃ c2, (s2.heap.update kS (Obj.mapSeq (·.push u))).get? kS = some (seqObj "list" (kA.push u) c2) := ⟨_, get?_update_seq nk (·.push u)⟩
    refine wpAny_bind (listUpdate_at nk rfl ?_ hz2 (by rw [Array.size_push]; omega))
    exact wpAny_pure ⟨rfl, go _ c2 (Heap.SameBut.update s2.heap kS (Obj.mapSeq (·.push u))) hc2⟩
  · rw [Nat.zero_add] at hJ
    obtain ⟨kA, e, nk, tx, na⟩ := B.is _ _ hJ
    refine wpAny_bind (listItems_at nk rfl ?_)
    obtain ⟨G, g1, g2⟩ := L2.restrict s'.heap fun b => decide (b ≠ kS)
    have gs : ∀ b o, G.get? b = some o → s'.heap.get? b = some o := fun b o q => by
      by_cases hb : b = kS
      · rw [hb, g2 kS (decide_eq_false fun z => z rfl)] at q
        cases q
      · rw [← g1 b (decide_eq_true hb)]
        exact q
    have et : ks.take vs.length = ks := List.take_of_length_le (by omega)
    rw [et] at tx
    have er := texts_read (h := s'.heap) tx
    have hsz : kA.size = vs.length := by
      have z := tx.length
      rw [Array.length_toList] at z
      omega
    refine keyH_end (h₁ := G) (κ := dataKind s'.heap (ks.map PyData.str)) (fun b o _ q => gs b o q) (g2 kS (decide_eq_false fun z => z rfl)) nk na hka (SortsAt.data er (alike_texts ks) (sortable_texts ks) fun d hd => ?_) hsz hZ fun h' tk c kp hA => ?_
    · obtain ⟨x, _, rfl⟩ := List.mem_map.mp hd
      simp only [PyData.depth]
      omega
    · exact h s' h' tk _ c hJ (fun b o n1 n2 q => kp b o n1 (by rw [g1 b (decide_eq_true n2)]; exact q)) hA ⟨s'.heap, kA.toList, alike_texts ks, rfl, er⟩
theorem sorted_by {β : Type} {R : Value → β → Prop} {l : Addr} {f : Value} {kw : List (Str × Value)} {Q : Value → Shared → Prop} {bs : List β} (key : β → Str) (hl : s.heap.IsList l vs.toArray) (er : EachIs R vs bs) (hZ : bs.length ≤ sizeLine) (hu : A.units + 2 < cLine) (ha1 : argsOk "sorted" ⟨[.ref l], kw⟩)
    (ha2 : ∀ x, argsOk "list.sort" ⟨[.ref x], kw⟩) (ht : ∀ x, Builtin.«list.sort» ⟨[.ref x], kw⟩ = ksk_tree x f b)
    (go : ∀ (a kS : Addr) (e1 : Nat) (h0 : Heap), (∀ b o, s.heap.get? b = some o → h0.get? b = some o) → s.heap.objs.size ≤ a → s.heap.objs.size ≤ kS → kS ≠ a → h0.get? kS = some (seqObj "list" #[] 0) → h0.get? a = some (seqObj "list" #[] e1) →
      ∃ J : Nat → Shared → Prop, ByJ prog w A.in1.in1 a kS e1 f vs (bs.map key) J ∧ J 0 { s with heap := h0 } ∧
        ∀ s' h' tk out c, J vs.length s' → (∀ b o, b ≠ a → b ≠ kS → s'.heap.get? b = some o → h'.get? b = some o) → h'.get? a = some (seqObj "list" (List.toArray out) c) → out.length = bs.length → EachIs R out (bs.mergeSort (dataLe b fun x => .str (key x))) → Q (.ref a) { s' with heap := h', toks := tk }) :
    wpAny (model prog w) A (call (.builtin "sorted") [.ref l] kw) Q E s := by
  refine sorted_of_sort hl (by rw [er.length]; exact hZ) ha1 ha2 fun E' => ?_
  rw [ht]
  have at0 := copyHeap_at s.heap vs
  generalize ha : s.heap.objs.size + 1 = a at at0 ⊢
  have old : ∀ b o, s.heap.get? b = some o → (copyHeap s.heap vs).get? b = some o := fun b o q => copyHeap_old q
  have hsa : a < (copyHeap s.heap vs).objs.size := Heap.lt_size at0
  generalize copyHeap s.heap vs = h1 at at0 old hsa ⊢
  obtain ⟨e1, ho1⟩ : ∃ e1, (h1.update a (Obj.mapSeq fun _ => (#[] : Array Value))).get? a = some (seqObj "list" #[] e1) := ⟨_, get?_update_seq at0 fun _ => #[]⟩
  have hkS : ((h1.update a (Obj.mapSeq fun _ => (#[] : Array Value))).push (seqObj "tuple" vs.toArray 0)).objs.size = h1.objs.size + 1 := by
    rw [size_push', Heap.size_update]
  unfold ksk_tree
  refine wpAny_bind (listItems_at at0 rfl ?_)
  refine wpAny_bind (listUpdate_at at0 rfl ?_ (by rw [List.size_toArray, er.length]; exact hZ) (Nat.zero_le _))
  refine wpAny_bind (seqEpoch_at ho1 rfl ?_)
  refine wpAny_bind (wpAny_newTuple ?_ (by show vs.length ≤ _; rw [er.length]; exact hZ))
  refine wpAny_bind (wpAny_newList ?_ (Nat.zero_le _))
  refine wpAny_holding ?_
  rw [hkS]
  have nka : h1.objs.size + 1 ≠ a := by omega
  have za : s.heap.objs.size ≤ a := by omega
  have zk : s.heap.objs.size ≤ h1.objs.size + 1 := by omega
  have nba : ∀ b o, s.heap.get? b = some o → b ≠ a := fun b o q => Nat.ne_of_lt (Nat.lt_of_lt_of_le (Heap.lt_size q) za)
  obtain ⟨J, B, j0, fin⟩ := go a (h1.objs.size + 1) e1 (((h1.update a (Obj.mapSeq fun _ => (#[] : Array Value))).push (seqObj "tuple" vs.toArray 0)).push (seqObj "list" #[] 0))
    (fun b o q => Heap.get?_push_of_some _ (Heap.get?_push_of_some _ (((Heap.SameBut.update h1 a (Obj.mapSeq fun _ => (#[] : Array Value))).2 b (nba b o q)).trans (old b o q)))) za zk nka
    (by rw [← hkS]; exact Heap.get?_push_size _ rfl) (Heap.get?_push_of_some _ (Heap.get?_push_of_some _ ho1))
  refine rest_by B nka (by rw [List.length_map]; exact er.length.symm) (by rw [er.length]; exact hZ) (by show A.units + 1 + 1 < cLine; omega) j0 fun s' h' tk out c hJ kp hA ko => ⟨rfl, ?_⟩
  have em : (bs.map key).map PyData.str = bs.map fun x => PyData.str (key x) := by
    rw [List.map_map]
    rfl
  rw [em] at ko
  exact fin s' h' tk out c hJ kp hA ((ko.length (by rw [List.length_map]; exact er.length.symm)).trans er.length) (keyedOut_each (fun x => PyData.str (key x)) ko er)
end
end SK
/-! ### sorted(e, key=lambda x: body), e a list of texts, x's key a text -/
namespace SK
open PySem PySem.Spec PyProof.Rows L2 LamX NdefX
abbrev St := L2.St
abbrev CX0 := C8.CX0
abbrev E0 := C8.E0
section
variable {CX : CXT} {P : Program} {w : World} {K : PySem.W.Frag} {mg : Str → Option Value} {base : Heap} {N ps fr : List Str} {F : NF} {f : Addr} {A : Around} {outer : List Env} {s : Shared} {H : Hp} {E : XK} {us : List Value} {vs : List V} {ws : List (Option V)} {k : Nat} {body : Expr} {tb : TE} {Q : VK} {pm ctv : Value}
/-- a lambda with parameters is called -/
theorem lam_run (S : NScope N ps fr F.scope) (hbind : bindArgs (PySem.W.kla_fn F.name F.qual F.params body F.scope F.cl pm (.ref F.c) ctv) ⟨us, []⟩ = pure (ps.zip us)) (ho : s.heap.get? f = some (PySem.W.kla_obj F.name F.qual F.params body F.scope F.cl pm F.c ctv))
    (hco : H F.c = some (CodeO F.c F.qual)) (hr : Room (k + 1) A) (e0 : Env0 P w K mg base A outer s H) (C : CellsAt F.cl fr ws s.heap H) (r : Vals vs us) (hl : vs.length = ps.length) (hbody : PE (ncx CX P w K mg base N F f A outer s H E) body tb)
    (hq : tb (startF N vs ws) H Q) : codeAny (model P w) A (.call (.ref f) ⟨us, []⟩) (CR CX outer P w H s Q E) s := by
  have lim : s.heap.NoLimit := e0.mod.nolimit.keeps fun b o e => (e0.bs b o e).1
  refine PySem.W.kla_callFunE hr.depth ho rfl S.co S.gen rfl (codeO_at e0.hok hco) ?_
  rw [hbind]
  refine wpAny_pure (wpAny_newFunctionEnv S.nocell (fun ⟨n, _⟩ hy => S.par n (List.of_mem_zip hy).1) (fun h₁ hns hsb => ⟨lim.fresh _ hsb, ?_⟩) S.kind)
  show codeAny _ _ (.expr body (envF F f s.heap.objs.size)) _ _
  have kp : ∀ b o, s.heap.get? b = some o → h₁.get? b = some o := fun b o e => hsb.extBut b o (Nat.ne_of_lt (Heap.lt_size e)) (Heap.get?_push_of_some _ e)
  have J := inv_startN (CX := CX) (f := f) (E := E) (tk := s.toks + (ps.zip us).length) S hr.hd e0 hl r C hns kp
  refine PySem.W.kla_codeExpr (wpAny_mono (hbody.run [] _ _ H Q J hq) (fun v s' hs => ?_) fun e s' hs => hs)
  obtain ⟨x, H', J', rv, q⟩ := hs
  exact ⟨x, H', J'.os, J'.bare, J'.base, J'.hok, rv, q⟩
end
/-- what the sort knows of its two lists -/
def aO (a : Addr) (e1 : Nat) : HO := .ext fun h => h.get? a = some (seqObj "list" #[] e1)
def kO (kS : Addr) (ks : List Str) : HO := .ext fun h => ∃ kA e, h.get? kS = some (seqObj "list" kA e) ∧ Texts kA.toList ks
theorem aO_ok {P : Program} {w : World} {H : Hp} {h : Heap} {a : Addr} {e1 : Nat} (q : h.get? a = some (seqObj "list" #[] e1)) : ObjOk P w H h a (aO a e1) := ⟨q, ⟨_, q⟩, fun h1 h2 z st => st _ z⟩
theorem kO_ok {P : Program} {w : World} {H : Hp} {h : Heap} {a : Addr} {ks : List Str} {kA : Array Value} {e : Nat} (q : h.get? a = some (seqObj "list" kA e)) (t : Texts kA.toList ks) : ObjOk P w H h a (kO a ks) :=
  ⟨⟨kA, e, q, t⟩, ⟨_, q⟩, fun h1 h2 ⟨k1, e1, z, t1⟩ st => ⟨k1, e1, st _ z, t1⟩⟩
theorem aO_at {P : Program} {w : World} {H : Hp} {h : Heap} {a : Addr} {e1 : Nat} (x : HOk P w H h) (e : H a = some (aO a e1)) : h.get? a = some (seqObj "list" #[] e1) := (x a _ e).1
theorem kO_at {P : Program} {w : World} {H : Hp} {h : Heap} {a : Addr} {ks : List Str} (x : HOk P w H h) (e : H a = some (kO a ks)) : ∃ kA e, h.get? a = some (seqObj "list" kA e) ∧ Texts kA.toList ks := (x a _ e).1
theorem vals_texts : ∀ {ws : List Str} {us : List Value}, Vals (ws.map V.str) us → Texts us ws
  | [], [], _ => .nil
  | [], _ :: _, h => by cases h
  | _ :: _, [], h => by cases h
  | w :: ws, u :: us, h => by
    cases h with
    | cons h1 h2 => exact .cons h1 (vals_texts h2)
theorem texts_vals : ∀ {us : List Value} {ws : List Str}, Texts us ws → Vals (ws.map V.str) us
  | _, _, .nil => .nil
  | _, _, .cons h1 h2 => .cons h1 (texts_vals h2)
theorem each_get {α β : Type} {R : α → β → Prop} : ∀ {us : List α} {ws : List β}, PySem.W.EachIs R us ws → ∀ {i : Nat} {u : α} {x : β}, us[i]? = some u → ws[i]? = some x → R u x
  | _, _, .nil, i, u, x, h, _ => by simp at h
  | _, _, .cons r t, 0, u, x, h1, h2 => by
    simp at h1 h2
    subst h1 h2
    exact r
  | _, _, .cons r t, i + 1, u, x, h1, h2 => each_get t (by simpa using h1) (by simpa using h2)
theorem texts_snoc {us : List Value} {ks : List Str} {u : Value} {k : Str} : Texts us ks → IsText u k → Texts (us ++ [u]) (ks ++ [k])
  | .nil, h => .cons h .nil
  | .cons a t, h => .cons a (texts_snoc t h)
/-- the reading, behind the list: its words, the key of each by the lambda's body, then the new list in their order -/
def sTail (K : PySem.W.Frag) (T : List (Addr × Str)) (H0 : Hp) (N : List Str) (js : List Nat) (tb : TE) (σ : St) (Q : VK) (x : V) (H1 : Hp) : Prop := ∃ (l : Addr) (ws : List Str) (key : Str → Str), x = .ref l ∧ SqL K H1 l (ws.map V.str) ∧ Tabs T H1 ∧ ExtN H0 H1 ∧
  ∀ H2, ExtN H1 H2 → Tabs T H2 → (∀ y ∈ ws, ∀ H3, Same H2 H3 → tb (startF N [.str y] (js.map (slotAt σ))) H3 fun v H4 => v = .str (key y) ∧ Same H3 H4) ∧
    ∀ H5 p, H2 p = none → Same H2 H5 → H5 p = some (.lst ((ws.mergeSort (PySem.W.dataLe false fun x => .str (key x))).map V.str)) → Q (.ref p) H5
def tSort (K : PySem.W.Frag) (T : List (Addr × Str)) (H0 : Hp) (N : List Str) (js : List Nat) (te tb : TE) : TE := fun σ H Q => te σ H (sTail K T H0 N js tb σ Q)
theorem extN_seq {K : PySem.W.Frag} {H H' : Hp} {l : Addr} {xs : List V} (e : ExtN H H') (h : SqL K H l xs) : SqL K H' l xs := by
  rcases h with (h | ⟨o, h⟩) | h
  · exact .inl (.inl (e _ _ h fun ps z => nomatch z))
  · exact .inl (.inr ⟨o, e _ _ h fun ps z => nomatch z⟩)
  · exact .inr h
section
variable {X : Cx}
theorem pe_sortkey {T : List (Addr × Str)} {c P : Addr} {k : Nat} {e body : Expr} {params : Arguments} {scope : Scope} {te tb : TE} {p lpos kpos pos : Pos} {N fr : List Str} {a1 : Str} {js : List Nat} (hg : Gl X "sorted") (hm : X.mg "sorted" = none) (ha : PE X e te) (TB : TabB X.base X.mg c P) (hcode : X.env.code = .ref c)
    (hmT : (P, X.env.qual ++ "<lambda>") ∈ T) (hu : ∀ p ∈ T, p.1 = P → p.2 = X.env.qual ++ "<lambda>") (hr : Room (k + 3) X.A) (hex : X.ex = []) (S : NScope N [a1] fr scope)
    (hnd : ndefB X.env.scope scope fr = true) (hjs : js.map (fun j => X.N[j]?) = fr.map some) (hdef : defaultsOf params X.env = ([], []))
    (hbind : ∀ (q : Str) (cl : List (Str × Addr)) (pm cv ctv v : Value), bindArgs (PySem.W.kla_fn "<lambda>" q params body scope cl pm cv ctv) ⟨[v], []⟩ = pure [(a1, v)])
    (hbody : ∀ (A : Around) (outer : List Env) (s : Shared) (H : Hp) (f c' : Addr) (cl : List (Str × Addr)), Room k (A.deeper (envF ⟨"<lambda>", X.env.qual ++ "<lambda>", params, [], scope, cl, c'⟩ f s.heap.objs.size)) →
      PE (ncx CX0 X.prog X.w X.K X.mg X.base N ⟨"<lambda>", X.env.qual ++ "<lambda>", params, [], scope, cl, c'⟩ f A outer s H E0) body tb)
    (hs1 : starEach [e] X.env = [(false, eval e X.env)] := by rfl) :
    PE X (.Call (.Name "sorted" p) [e] [⟨some "key", .Lambda params body scope lpos, kpos⟩] pos) (tSort X.K T X.H_0 N js te tb) := by
  have hfree := ndef_free hnd
  have hfr := ndef_fr hnd
  refine ⟨fun pins s σ H Q I h => ?_⟩
  refine wpAny_Call_Name_kw (ld_blt I hg hm PyProof.Rows.boot_sorted ?_)
  refine PyProof.Rows.callWith_kw ?_ (by rw [hs1]; rfl) (by rw [hs1]; rfl) (by rfl) (by rfl)
  refine thn ((pa_cons ha pa_nil hs1).run pos pins s σ H (fun vs H1 => match vs with
    | [x] => sTail X.K T X.H_0 N js tb σ Q x H1
    | _ => False) I h) fun us s1 ⟨vs, H1, I1, r1, q1⟩ => ?_
  match vs, r1, q1 with
  | [x], r1, q1 =>
  obtain ⟨l, ws, key, rfl, hS, hT, h01, q⟩ := q1
  obtain ⟨u, rfl, ru⟩ := vals1 r1
  obtain rfl : u = Value.ref l := ru
  have hcl : ∀ y ∈ scope.names, y.2 = .free → ∃ c, X.env.cells.lookup y.1 = some c := fun y hy e => (hfree y hy e).elim (fun z => I1.ok.has _ (.inl z)) fun z => I1.ok.has _ (.inr z)
  show wpAny _ _ (evalAll ((do let v ← eval (.Lambda params body scope lpos) X.env; standAt pos; pure v) :: (backToKw pos (keywordEach [] X.env)).map (·.2))) _ _ s1
  refine wpAny_evalAll_cons (wpAny_bind (lam_make2 I1 TB hcode hmT hu hT hdef hcl fun f c' pm ctv H2 s2 I2 eN T2 ho hfn hfs hco => wpAny_bind (wpAny_standAt (wpAny_pure ?_))))
  refine wpAny_evalAll_nil ?_
  show wpAny _ _ (call (.builtin "sorted") [.ref l] [(Str.ofString "key", .ref f)]) _ _ s2
  obtain ⟨qa, qend⟩ := q H2 eN T2
  obtain ⟨its, rv, hl, hz⟩ := I2.list (extN_seq eN hS)
  rw [List.length_map] at hz
  have hu2 : X.A.units + 2 < cLine := by
    have z := hr.un
    omega
  have tx := vals_texts rv
  refine sorted_by (b := false) key hl.isList tx hz hu2 (PyProof.Rows.ksk_s1 _ _) (fun x => PyProof.Rows.ksk_l1 _ _) (fun x => PyProof.Rows.ksk_t1 _ _) fun a kS e1 h0 k0 za zk nka hk ha0 => ?_
  have na : H2 a = none := I2.hok.fresh za
  have nk : H2 kS = none := I2.hok.fresh zk
  have fr0 : ∀ b, H2 b = none → Fr0 X.H_0 b := fun b n o e => by
    by_cases ht : ∃ ps, o = .tbl ps
    · exact ht
    · have z := eN b o (h01 b o e fun ps w => ht ⟨ps, w⟩) fun ps w => ht ⟨ps, w⟩
      rw [n] at z
      cases z
  refine ⟨fun i s' => ∃ H', Inv X pins σ H' s' ∧ Same H2 H' ∧ H' a = some (aO a e1) ∧ H' kS = some (kO kS ((ws.map key).take i)) ∧ s'.heap.get? f = some (PySem.W.kla_obj "<lambda>" (X.env.qual ++ "<lambda>") params body scope (cloFrom X.env.cells scope.names []) pm c' ctv) ∧ H' f = none,
    ⟨fun i s' ⟨H', I', sm, oa, ok, of, nf⟩ => ?_, fun i v k0 hv hk0 s' ⟨H', I', sm, oa, ok, of, nf⟩ => ?_⟩, ?_, fun s' h' tk out c0 ⟨H', I', sm, oa, ok, of, nf⟩ kp hA hlen er => ?_⟩
  · obtain ⟨kA, e, z1, z2⟩ := kO_at I'.hok ok
    exact ⟨kA, e, z1, z2, aO_at I'.hok oa⟩
  · obtain ⟨y, hy, rfl⟩ : ∃ y, ws[i]? = some y ∧ key y = k0 := by
      rw [List.getElem?_map] at hk0
      cases e : ws[i]? with
      | none =>
        rw [e] at hk0
        cases hk0
      | some y =>
        rw [e] at hk0
        exact ⟨y, rfl, Option.some.inj hk0⟩
    obtain ⟨t, rfl⟩ := each_get tx hv hy
    have C := cells_of I' (Caps.made I'.ok hfree hfr hjs)
    have hr2 : Room (k + 1) X.A.in1.in1 := hr.in1.in1
    have rc := lam_run (CX := CX0) (E := E0) (F := ⟨"<lambda>", X.env.qual ++ "<lambda>", params, [], scope, cloFrom X.env.cells scope.names [], c'⟩) (f := f) (us := [.str y t]) (vs := [.str y]) (Q := fun v H4 => v = .str (key y) ∧ Same H' H4) S (hbind _ _ _ _ _ _) of (sm _ _ hco) hr2 I'.env0.in1.in1 C
      (.cons ⟨t, rfl⟩ .nil) rfl (hbody _ _ _ _ _ _ _ (hr2.deeper _)) (qa y (List.mem_of_getElem? hy) H' sm)
    refine wpAny_call (codeAny_mono rc fun r s3 hq => ?_)
    cases r with
    | error e => exact (show False from hq).elim
    | ok fl =>
      cases fl with
      | next => exact (show False from hq).elim
      | brk => exact (show False from hq).elim
      | cont => exact (show False from hq).elim
      | ret u =>
        obtain ⟨v2, H4, os, bare, un, hok, rv2, rfl, sm4⟩ := (show CE X.stack X.prog X.w H' s' _ u s3 from hq)
        obtain ⟨hh, g, d, t4, os'⟩ := s3
        obtain rfl : os' = s'.os := os
        have I4 : Inv X pins σ H4 ⟨hh, g, d, t4, s'.os⟩ := I'.call (h' := hh) (g' := g) (d' := d) (t' := t4) (ch := []) un hok bare (fun b z => absurd z (by simp))
        obtain ⟨kA, e, nk4, tx4⟩ := kO_at I4.hok (sm4 _ _ ok)
        have nfk : f ≠ kS := fun z => by
          rw [z, ok] at nf
          cases nf
        have of4 := un.keep f _ of nf hfs (by simp)
        have nf4 := un.free f _ of nf (by simp)
        refine ⟨rv2, kA, e, nk4, tx4, fun h3 e3 hsb hk3 => ?_⟩
        have tx5 : Texts (kA.push u).toList ((ws.map key).take (i + 1)) := by
          have e5 : (ws.map key).take (i + 1) = (ws.map key).take i ++ [key y] := by
            rw [List.take_add_one, List.getElem?_map, hy]
            rfl
          rw [e5, Array.toList_push]
          exact texts_snoc tx4 rv2
        refine ⟨upd H4 kS (kO kS ((ws.map key).take (i + 1))), I4.write (x := kS) (e := kS) (by rw [sm4 _ _ ok]; trivial) (.inl rfl) (fun b o hb z => (hsb.2 b hb).trans z) ⟨_, hk3⟩ (kO_ok hk3 tx5), fun b o z => ?_, ?_, upd_same, ?_, ?_⟩
        · rw [upd_ne (ne_of_none z nk)]
          exact sm4 _ _ (sm _ _ z)
        · rw [upd_ne nka.symm]
          exact sm4 _ _ oa
        · exact (hsb.2 f nfk).trans of4
        · rw [upd_ne nfk]
          exact nf4
  · obtain ⟨G, g1, g2⟩ := restrict h0 fun b => decide (b ≠ kS)
    have lt : ∀ b o, s2.heap.get? b = some o → b ≠ kS ∧ b ≠ a := fun b o z => ⟨Nat.ne_of_lt (Nat.lt_of_lt_of_le (Heap.lt_size z) zk), Nat.ne_of_lt (Nat.lt_of_lt_of_le (Heap.lt_size z) za)⟩
    have gG : ∀ b o, b ≠ kS → h0.get? b = some o → G.get? b = some o := fun b o n z => by
      rw [g1 b (decide_eq_true n)]
      exact z
    have Gh : ∀ b o, G.get? b = some o → h0.get? b = some o := fun b o z => by
      by_cases hb : b = kS
      · rw [hb, g2 kS (decide_eq_false fun z => z rfl)] at z
        cases z
      · rw [← g1 b (decide_eq_true hb)]
        exact z
    have Ia := I2.laidN (h' := G) (t' := s2.toks) (a := a) (o := aO a e1) (fun b o z => gG b o (lt b o z).1 (k0 b o z)) (Heap.get?_none_of_le za) na (aO_ok (gG a _ nka.symm ha0))
    have nk2 : upd H2 a (aO a e1) kS = none := by
      rw [upd_ne nka]
      exact nk
    have Ik := Ia.laidN (h' := h0) (t' := s2.toks) (a := kS) (o := kO kS []) Gh (g2 kS (decide_eq_false fun z => z rfl)) nk2 (kO_ok hk .nil)
    refine ⟨_, Ik, fun b o z => ?_, ?_, ?_, k0 _ _ ho, ?_⟩
    · rw [upd_ne (ne_of_none z nk), upd_ne (ne_of_none z na)]
      exact z
    · rw [upd_ne nka.symm, upd_same]
    · rw [upd_same, List.take_zero]
    · rw [upd_ne (lt _ _ ho).1, upd_ne (lt _ _ ho).2]
      exact hfn
  · obtain ⟨G1, a1, a2, I5⟩ := I'.untrack ok (fr0 kS nk) hex
    obtain ⟨G2, b1, b2, I6⟩ := I5.untrack (a := a) (by rw [delH_ne nka.symm]; exact oa) (fr0 a na) hex
    have hlm : ((ws.mergeSort (PySem.W.dataLe false fun x => .str (key x))).map V.str).length ≤ sizeLine := by
      rw [List.length_map, List.length_mergeSort]
      exact hz
    have I7 := I6.laidN (h' := h') (t' := tk) (a := a) (o := .lst ((ws.mergeSort (PySem.W.dataLe false fun x => .str (key x))).map V.str))
      (fun b o z => kp b o (fun w => by rw [w, b2] at z; cases z) (fun w => by have z2 := b1 b o z; rw [w] at z2; have z3 := z2; rw [a2] at z3; cases z3) (a1 _ _ (b1 _ _ z))) b2 delH_same ⟨hlm, out, c0, texts_vals er, hA⟩
    refine ⟨.ref a, _, I7, rfl, qend _ a na (fun b o z => ?_) upd_same⟩
    rw [upd_ne (ne_of_none z na), delH_ne (ne_of_none z na), delH_ne (ne_of_none z nk)]
    exact sm _ _ z
end
end SK
/-! ### enumerate of a text and of a tuple; dict comprehensions over any walk -/
namespace SK
open PySem PySem.Spec PyProof.Rows L2 LamX NdefX
def ItES (x : Str) : It := ⟨fun i _ => i < x.cps.size, fun i H v H' => ∃ T c, v = .ref T ∧ H T = none ∧ H' = upd H T (.tup [.int (i : Nat), .str ⟨#[c]⟩]) ∧ x.cps[i]? = some c, fun i _ => i = x.cps.size⟩
def ItET (a : Addr) (xs : List V) : It := ⟨fun i H => H a = some (.tup xs) ∧ i < xs.length, fun i H v H' => ∃ T x, v = .ref T ∧ H T = none ∧ H' = upd H T (.tup [.int (i : Nat), x]) ∧ xs[i]? = some x, fun i H => H a = some (.tup xs) ∧ i = xs.length⟩
/-- a pair that enumerate hands out -/
theorem enum_turn {X : Cx} {pins : List (Addr × Obj)} {s : Shared} {σ : St} {H : Hp} {E : Value → Shared → Prop} {J : It} {fp : List Addr} {n i : Nat} {Pd : Nat → Value → Prop} {Sd : Nat → Heap → Prop} {e it : Addr} {elts : List Expr} {kk : Nat} {tpos : Pos} {tn : Nat → Heap → Prop} (I : Inv X pins σ H s)
    (D : PySem.Draws X.prog X.w X.A.in1 it fp n Pd Sd) (hf : ∀ b ∈ [e, it], FpOk X pins H b) (he : ∃ old, IsEnum s.heap e it ((i : Nat) : Int) old) (hst : Sd i s.heap) (hlt : i < n) (hne : e ≠ it) (hef : e ∉ fp)
    (hit : ∃ o, s.heap.get? it = some o) (rel : ∀ u, Pd i u → ∃ x, RelV x u ∧ ∀ H' T, H T = none → H' = upd H T (.tup [.int (i : Nat), x]) → J.yld i H (.ref T) H') (nx : ∀ h' h'', Sd (i + 1) h' → (∀ b o, b ≠ e → h'.get? b = some o → h''.get? b = some o) → (∃ old, IsEnum h'' e it (((i + 1 : Nat)) : Int) old) → tn (i + 1) h'') :
    wpAny (model X.prog X.w) X.A (pyNext (.ref e)) (fun r s1 => ∃ u, r = some u ∧
      wpAny (model X.prog X.w) X.A (letOwnedTupleGo (.Tuple elts kk tpos) (.ref e) u) (fun _ s2 => ∃ x H', Inv X pins σ H' s2 ∧ RelV x u ∧ J.yld i H x H' ∧ tn (i + 1) s2.heap ∧ ∀ b ∈ [e, it], H' b = none) E s1) E s := by
  obtain ⟨old, he⟩ := he
  have hel : e < s.heap.objs.size := Heap.lt_size he
  have hil : it < s.heap.objs.size := by
    obtain ⟨o, q⟩ := hit
    exact Heap.lt_size q
  refine wpAny_pyNext_enum_itemD D he hst hlt hne hef fun u h' tk hP ho hst' hT hsz hk => ?_
  obtain ⟨x, ru, hy⟩ := rel u hP
  refine ⟨_, rfl, wpAny_letOwnedTupleGo_enum (s := { s with heap := h', toks := tk + 1 }) ho fun h'' he' sb => ?_⟩
  have hT2 : h''.get? s.heap.objs.size = some { cls := .type "tuple", data := .seq #[.int i tk, u] } := (sb.2 _ (Nat.ne_of_gt hel)).trans hT
  have nw : ObjOk X.prog X.w (upd H s.heap.objs.size (.tup [.int (i : Nat), x])) h'' s.heap.objs.size (.tup [.int (i : Nat), x]) :=
    ⟨by show 2 ≤ sizeLine; decide, [.int i tk, u], .cons ⟨_, rfl⟩ (.cons ru .nil), ⟨_, hT2, rfl, _, rfl⟩⟩
  have I1 : Inv X pins σ (upd H s.heap.objs.size (.tup [.int (i : Nat), x])) { s with heap := h'', toks := tk + 1 } :=
    I.turnedNew (ch := [e, it]) (fun b ob hb q => (sb.2 b (fun z => hb (by simp [z]))).trans (hk b ob (fun z => hb (by simp [z])) (fun z => hb (by simp [z])) q)) hf (Nat.le_refl _) nw
  refine ⟨.ref s.heap.objs.size, _, I1, rfl, hy _ _ (I.hok.fresh (Nat.le_refl _)) rfl, nx h' h'' hst' (fun b o hb q => (sb.2 b hb).trans q) ⟨u, ?_⟩, fun b hb => ?_⟩
  · have e1 : ((i + 1 : Nat) : Int) = (i : Int) + 1 := by omega
    rw [e1]
    exact he'
  · have hb' : b < s.heap.objs.size := by
      have e' : b = e ∨ b = it := by simpa using hb
      rcases e' with z | z
      · rw [z]; exact hel
      · rw [z]; exact hil
    rw [upd_ne (Nat.ne_of_lt hb')]
    exact (hf b hb).1
theorem turn_enumS {P : Program} {w : World} {K : PySem.W.Frag} {elts : List Expr} {kk : Nat} {tpos : Pos} (x : Str) (t : Tok) (e it : Addr) :
    Turn P w K (.Tuple elts kk tpos) (ItES x) [e, it] e (fun i h => (∃ old, IsEnum h e it ((i : Nat) : Int) old) ∧ h.IsStrIter it (strIterType x) x t i ∧ e ≠ it) where
  mem := by simp
  obj := fun i h st b hb => by
    obtain ⟨⟨old, he⟩, ⟨o, ho, hc, hd⟩, _⟩ := st
    have e' : b = e ∨ b = it := by simpa using hb
    rcases e' with z | z
    · rw [z]
      exact ⟨_, he, fun v q => nomatch q⟩
    · rw [z]
      exact ⟨o, ho, fun v q => by rw [hd] at q; cases q⟩
  keep := fun i h h' st k => by
    obtain ⟨⟨old, he⟩, ⟨o, ho, r⟩, hne⟩ := st
    exact ⟨⟨old, k e (by simp) _ he⟩, ⟨o, k it (by simp) o ho, r⟩, hne⟩
  item := by
    intro X hP hw hK hc i pins s σ H E I hf st hg
    subst hP hw hK
    obtain ⟨he, hit, hne⟩ := st
    have hli : ∃ o, s.heap.get? it = some o := by
      obtain ⟨o, q, _⟩ := hit
      exact ⟨o, q⟩
    refine enum_turn (J := ItES x) (tn := fun i h => (∃ old, IsEnum h e it ((i : Nat) : Int) old) ∧ h.IsStrIter it (strIterType x) x t i ∧ e ≠ it) I (PySem.Draws.text (A := X.A.in1) (I.ok.hd hc) it x t) hf he hit hg hne (by simpa using hne) hli (fun u ⟨c, tu, hx, eu⟩ => ⟨.str ⟨#[c]⟩, ⟨tu, eu⟩, fun H' T hT eH => ⟨T, c, rfl, hT, eH, hx⟩⟩) fun h' h'' hs k hE => ?_
    obtain ⟨o, ho, r⟩ := hs
    exact ⟨hE, ⟨o, k it o (Ne.symm hne) ho, r⟩, hne⟩
  done := by
    intro X hP hw hK hc i pins s σ H E I hf st hg
    subst hP hw hK
    obtain ⟨⟨old, he⟩, hit, hne⟩ := st
    obtain ⟨f0, f1, f2, f3, f4, f5⟩ := hf it (by simp)
    have hg : i = x.cps.size := hg
    rw [hg] at hit
    exact wpAny_pyNext_enum_endD (PySem.Draws.text (A := X.A.in1) (I.ok.hd hc) it x t) he hit fun h' eb => ⟨rfl, I.turned (t' := s.toks) (fun b o hb q => eb b o hb q) f0 f1 f3 f4 f5⟩
  self := fun A i s Q E st h => let ⟨⟨_, he⟩, _⟩ := st; wpAny_pyIter_enum he h
theorem turn_enumT {P : Program} {w : World} {K : PySem.W.Frag} {elts : List Expr} {kk : Nat} {tpos : Pos} (a : Addr) (xs : List V) (e it : Addr) :
    Turn P w K (.Tuple elts kk tpos) (ItET a xs) [e, it] e (fun i h => (∃ old, IsEnum h e it ((i : Nat) : Int) old) ∧ h.IsTupleIter it a i ∧ e ≠ it) where
  mem := by simp
  obj := fun i h st b hb => by
    obtain ⟨⟨old, he⟩, ⟨o, ho, hc, hd⟩, _⟩ := st
    have e' : b = e ∨ b = it := by simpa using hb
    rcases e' with z | z
    · rw [z]
      exact ⟨_, he, fun v q => nomatch q⟩
    · rw [z]
      exact ⟨o, ho, fun v q => by rw [hd] at q; cases q⟩
  keep := fun i h h' st k => by
    obtain ⟨⟨old, he⟩, hi, hne⟩ := st
    exact ⟨⟨old, k e (by simp) _ he⟩, hi.at fun o q => k it (by simp) o q, hne⟩
  item := by
    intro X hP hw hK hc i pins s σ H E I hf st hg
    subst hP hw hK
    obtain ⟨he, hit, hne⟩ := st
    obtain ⟨ha, hlt⟩ := hg
    obtain ⟨its, rv, p, hz⟩ := I.tuple (.inl (.inl ha))
    have hl := rv.length
    have nat : ∀ b ∈ [e, it], a ≠ b := fun b hb z => by
      have q := (hf b hb).1
      rw [← z, ha] at q
      cases q
    have hli : ∃ o, s.heap.get? it = some o := by
      obtain ⟨o, q, _⟩ := hit
      exact ⟨o, q⟩
    have hp : s.heap.IsTuple a its.toArray := p
    refine enum_turn (J := ItET a xs) (tn := fun i h => (∃ old, IsEnum h e it ((i : Nat) : Int) old) ∧ h.IsTupleIter it a i ∧ e ≠ it) I (PySem.Draws.tuple (A := X.A.in1) (I.ok.hd hc) it a (nat it (by simp)) its.toArray) hf he ⟨hit, hp⟩ (by simpa [← hl] using hlt) hne (by simp only [List.mem_cons, List.mem_nil_iff, or_false, not_or]; exact ⟨hne, Ne.symm (nat e (by simp))⟩) hli (fun u hu => ?_) fun h' h'' hs k hE => ⟨hE, hs.1.at fun o q => k it o (Ne.symm hne) q, hne⟩
    obtain ⟨x, hx⟩ : ∃ x, xs[i]? = some x := ⟨_, List.getElem?_eq_getElem hlt⟩
    obtain ⟨u2, hu2, ru⟩ := rv.get hx
    have e2 : u2 = u := by
      have z : its.toArray[i]? = some u2 := by simpa using hu2
      exact Option.some.inj (z.symm.trans hu)
    subst e2
    exact ⟨x, ru, fun H' T hT eH => ⟨T, x, rfl, hT, eH, hx⟩⟩
  done := by
    intro X hP hw hK hc i pins s σ H E I hf st hg
    subst hP hw hK
    obtain ⟨⟨old, he⟩, hit, hne⟩ := st
    obtain ⟨ha, hlt⟩ := hg
    obtain ⟨its, rv, p, hz⟩ := I.tuple (.inl (.inl ha))
    have hl := rv.length
    obtain ⟨f0, f1, f2, f3, f4, f5⟩ := hf it (by simp)
    have nat : a ≠ it := fun z => by
      rw [← z, ha] at f0
      cases f0
    have hp : s.heap.IsTuple a its.toArray := p
    have ei : i = its.toArray.size := by
      rw [List.size_toArray, ← hl]
      exact hlt
    rw [ei] at hit
    exact wpAny_pyNext_enum_endD (PySem.Draws.tuple (A := X.A.in1) (I.ok.hd hc) it a nat its.toArray) he ⟨hit, hp⟩ fun h' eb => ⟨rfl, I.turned (t' := s.toks) (fun b o hb q => eb b o hb q) f0 f1 f3 f4 f5⟩
  self := fun A i s Q E st h => let ⟨⟨_, he⟩, _⟩ := st; wpAny_pyIter_enum he h
section
variable {X : Cx}
def iEnumS (ta : TA) : TI := fun σ H R => ta σ H fun vs H1 => ∃ x, vs = [.str x] ∧ R (ItES x) H1
theorem pi_enumS {e : Expr} {ta : TA} {p pos tpos : Pos} {elts : List Expr} {kk : Nat} (hg : Gl X "enumerate") (hm : X.mg "enumerate" = none) (ha : PA X [e] ta) (hs : starEach [e] X.env = [(false, eval e X.env)] := by rfl) :
    PI X (.Tuple elts kk tpos) (.Call (.Name "enumerate" p) [e] [] pos) (iEnumS ta) := by
  refine ⟨fun pins s σ H R I h => ?_⟩
  refine Call_ (ld_blt I hg hm boot_enumerate (PyProof.Rows.callWith_type1 (thn (ha.run pos pins s σ H _ I h) fun us s1 ⟨vs, H1, I1, r1, q1⟩ => ?_) hs rfl))
  obtain ⟨x, rfl, q⟩ := q1
  obtain ⟨u, rfl, t, rfl⟩ := vals1 r1
  refine call_enumerate_str fun h' he hit hsz hk => wpAny_pyIter_enum he ?_
  have I2 : Inv X pins σ H1 { s1 with heap := h' } := I1.kept (t' := s1.toks) hk
  refine ⟨s1.heap.objs.size + 1, [s1.heap.objs.size + 1, s1.heap.objs.size], _, _, H1, rfl, I2, turn_enumS x t (s1.heap.objs.size + 1) s1.heap.objs.size, ⟨⟨.none, he⟩, hit, Nat.succ_ne_self _⟩, fun b hb => ?_, q⟩
  have e' : b = s1.heap.objs.size + 1 ∨ b = s1.heap.objs.size := by simpa using hb
  have hle : s1.heap.objs.size ≤ b := by
    rcases e' with z | z
    · rw [z]; exact Nat.le_add_right _ _
    · rw [z]; exact Nat.le_refl _
  exact I1.fpOk hle (I1.hok.fresh hle)
def iEnumT (ta : TA) : TI := fun σ H R => ta σ H fun vs H1 => ∃ a xs, vs = [.ref a] ∧ H1 a = some (.tup xs) ∧ R (ItET a xs) H1
theorem walk_enumS {x : Str} : Walk (ItES x) x.cps.size (fun _ => True) (YPair (fun i => some (.int (i : Nat))) (fun i => x.cps[i]?.map fun c => .str ⟨#[c]⟩)) := by
  refine ⟨fun _ _ hi _ => hi, fun _ _ => rfl, fun i H v H' _ _ y => ?_⟩
  obtain ⟨T, c, h1, h2, h3, h4⟩ := y
  exact ⟨T, _, _, h1, h2, h3, rfl, by show x.cps[i]?.map _ = _; rw [h4]; rfl⟩
theorem walk_enumT {a : Addr} {xs : List V} : Walk (ItET a xs) xs.length (fun H => H a = some (.tup xs)) (YPair (fun i => some (.int (i : Nat))) (fun i => xs[i]?)) := by
  refine ⟨fun _ _ hi q => ⟨q, hi⟩, fun _ q => ⟨q, rfl⟩, fun i H v H' _ _ y => ?_⟩
  obtain ⟨T, x, h1, h2, h3, h4⟩ := y
  exact ⟨T, _, _, h1, h2, h3, rfl, h4⟩
end
/-- a dict comprehension over a walk -/
theorem dc_it {J : It} {n : Nat} {G : Hp → Prop} {Y : Nat → Hp → V → Hp → Prop} (w : Walk J n G Y) {g : TG} {tt : TT} {tk tv : TE} {vs : List Nat} {σ : St} {H1 : Hp} {D : Addr} {Qd : Hp → Prop} (Pv : Nat → Hp → Prop) (h0 : Pv 0 (upd H1 D (.dK []))) (hG : ∀ i H, i ≤ n → Pv i H → G H)
    (hs : ∀ i x H H', i < n → Pv i H → Y i H x H' → g x (wipe σ vs) H' fun σ2 H2 => wipe σ2 vs = wipe σ vs ∧ tt σ2 H2 fun b H3 =>
      if b = true then tk σ2 H3 fun y H4 => tv σ2 H4 fun z H5 => ∃ kvs k, y = kV k ∧ H5 D = some (.dK kvs) ∧ kvs.length < sizeLine ∧ Pv (i + 1) (upd H5 D (.dK (putK kvs k z))) else Pv (i + 1) H3) (hd : ∀ H, Pv n H → Qd H) :
    ∃ W : Nat → Nat → Hp → Prop, (∃ m, W 0 m (upd H1 D (.dK []))) ∧ ∀ i m H, W i m H →
      (J.stop i H ∧ Qd H) ∨ (J.go i H ∧ ∃ Nx : Hp → Prop, (∀ H', Nx H' → ∃ m', m' < m ∧ W (i + 1) m' H') ∧ ∀ x H', J.yld i H x H' → g x (wipe σ vs) H' fun σ2 H2 => wipe σ2 vs = wipe σ vs ∧ tt σ2 H2 fun b H3 =>
        if b = true then tk σ2 H3 fun y H4 => tv σ2 H4 fun z H5 => ∃ kvs k, y = kV k ∧ H5 D = some (.dK kvs) ∧ kvs.length < sizeLine ∧ Nx (upd H5 D (.dK (putK kvs k z))) else Nx H3) := by
  refine ⟨fun i m H => m + i = n ∧ Pv i H, ⟨n, rfl, h0⟩, fun i m H ⟨em, p⟩ => ?_⟩
  have q := hG i H (by omega) p
  rcases Nat.lt_or_ge i n with hlt | hge
  · exact .inr ⟨w.goes i H hlt q, Pv (i + 1), fun H' p' => ⟨n - (i + 1), by omega, by omega, p'⟩, fun x H' y => hs i x H H' hlt p (w.yields i H x H' hlt q y)⟩
  · obtain rfl : i = n := by omega
    exact .inl ⟨w.stops H q, hd H p⟩
end SK
namespace SK
open PySem PySem.Spec PyProof.Rows L2 LamX NdefX
/-- enumerate(v) with no start -/
theorem enum_new1 {v : Value} {o : Obj} {C : Heap → Prop} (B : Begins v o C) :
    Meets (Builtin.«enumerate.__new__» ⟨[.type "enumerate", v], []⟩) (fun _ R s => C s.heap ∧
      R (.ok (.ret (.ref (s.heap.push o).objs.size))) { s with heap := (s.heap.push o).push { cls := .type "enumerate", data := .fields #[.none, .bool false, .ref s.heap.objs.size, rawInt 0, .none, .none] } }) :=
  .of_wp fun prog w A R s h => by
    obtain ⟨hp, g, d, tk, os⟩ := s
    obtain ⟨h1, h⟩ := h
    have sub0 := sub_enumerate
    have it0 : ∀ {A' : Around} {E : Value → Shared → Prop} {Q : Value → Shared → Prop}, Q (.ref hp.objs.size) ⟨hp.push o, g, d, tk, os⟩ → wpAny (model prog w) A' (pyIter v) Q E ⟨hp, g, d, tk, os⟩ :=
      fun q => B.iter prog w _ _ ⟨hp, g, d, tk, os⟩ _ h1 q
    wp_walk using it0
    refine wpAny_stack_any fun st => wpAny_pure ?_
    split
    · rename_i c _ _ _ _ _
      cases (c == Value.type "enumerate")
      all_goals
        wp_walk using it0
        exact ⟨_, rfl, h⟩
    · wp_walk using it0
      exact ⟨_, rfl, h⟩
end SK
namespace SK
open PySem PySem.Spec PyProof.Rows L2 LamX NdefX
section
variable {prog : Program} {w : World} {A : Around} {E : Value → Shared → Prop} {s : Shared}
theorem enum_tuple {a : Addr} {items : Array Value} {Q : Value → Shared → Prop} (ht : s.heap.IsTuple a items)
    (h : ∀ h', IsEnum h' (s.heap.objs.size + 1) s.heap.objs.size 0 .none → h'.IsTupleIter s.heap.objs.size a 0 → (∀ b o, s.heap.get? b = some o → h'.get? b = some o) → Q (.ref (s.heap.objs.size + 1)) { s with heap := h' }) :
    wpAny (model prog w) A (call (.type "enumerate") [.ref a]) Q E s := by
  refine callType_new F.called_enumerate (by decide) (F.typeCall_enumerate_1 _) (F.newCall_enumerate_1 _) (fun obj => F.args_object_init_2 obj _) F.entry_enumerate_new (enum_new1 (begins_tuple a items)) ⟨ht, ?_⟩
  generalize ho : ({ cls := .type "tuple_iterator", data := .fields #[.ref a, .int 0 0] } : Obj) = o
  have hfr : o.isFreed = false := by
    rw [← ho]
    rfl
  have hz : (s.heap.push o).objs.size = s.heap.objs.size + 1 := Heap.size_push ..
  show _ ∧ _
  rw [hz]
  have he : IsEnum ((s.heap.push o).push { cls := .type "enumerate", data := .fields #[.none, .bool false, .ref s.heap.objs.size, rawInt 0, .none, .none] }) (s.heap.objs.size + 1) s.heap.objs.size 0 .none := by
    have q := Heap.get?_push_size (s.heap.push o) (o := { cls := .type "enumerate", data := .fields #[.none, .bool false, .ref s.heap.objs.size, rawInt 0, .none, .none] }) rfl
    rw [hz] at q
    exact q
  have hi : (s.heap.push o).get? s.heap.objs.size = some o := Heap.get?_push_size _ hfr
  refine ⟨⟨_, he, rfl⟩, h _ he ⟨o, Heap.get?_push_of_some _ hi, by rw [← ho], by rw [← ho]; rfl⟩ fun b u q => Heap.get?_push_of_some _ (Heap.get?_push_of_some _ q)⟩
end
section
variable {X : Cx}
theorem pi_enumT {e : Expr} {ta : TA} {p pos tpos : Pos} {elts : List Expr} {kk : Nat} (hg : Gl X "enumerate") (hm : X.mg "enumerate" = none) (ha : PA X [e] ta) (hs : starEach [e] X.env = [(false, eval e X.env)] := by rfl) :
    PI X (.Tuple elts kk tpos) (.Call (.Name "enumerate" p) [e] [] pos) (iEnumT ta) := by
  refine ⟨fun pins s σ H R I h => ?_⟩
  refine Call_ (ld_blt I hg hm boot_enumerate (PyProof.Rows.callWith_type1 (thn (ha.run pos pins s σ H _ I h) fun us s1 ⟨vs, H1, I1, r1, q1⟩ => ?_) hs rfl))
  obtain ⟨a, xs, rfl, hq, q⟩ := q1
  obtain ⟨u, rfl, ru⟩ := vals1 r1
  obtain rfl : u = Value.ref a := ru
  obtain ⟨its, rv, pt, hz⟩ := I1.tuple (.inl (.inl hq))
  have pt' : s1.heap.IsTuple a its.toArray := pt
  refine enum_tuple pt' fun h' he hit hk => wpAny_pyIter_enum he ?_
  have I2 : Inv X pins σ H1 { s1 with heap := h' } := I1.kept (t' := s1.toks) hk
  refine ⟨s1.heap.objs.size + 1, [s1.heap.objs.size + 1, s1.heap.objs.size], _, _, H1, rfl, I2, turn_enumT a xs (s1.heap.objs.size + 1) s1.heap.objs.size, ⟨⟨.none, he⟩, hit, Nat.succ_ne_self _⟩, fun b hb => ?_, q⟩
  have hle : s1.heap.objs.size ≤ b := by
    simp only [List.mem_cons, List.mem_nil_iff, or_false] at hb
    rcases hb with z | z
    · rw [z]; exact Nat.le_add_right _ _
    · rw [z]; exact Nat.le_refl _
  exact I1.fpOk hle (I1.hok.fresh hle)
/-- y = {k: v for .. in ..}, y a local name -/
theorem ps_setDc {i : Nat} {y : Str} {py : Pos} {kx vx tg iter : Expr} {ifs : List Expr} {scope : Scope} {own : List (Str × Nat)} {pos spos : Pos} {wi : TI} {g : TG} {tt : TT} {tk tv : TE} (hc : X.calm = true) (hN : X.N.Nodup) (hy : X.N[i]? = some y) (hyl : X.env.scope.names.lookup y = some .local)
    (hsw : swapsWith (.DictComp kx vx [⟨tg, iter, ifs, 0⟩] scope pos) (some (.Name y py)) spos.line X.env = pure true) (hi : PI X tg iter wi) (ok : BlkOk X.N X.env.scope scope own)
    (hg : ∀ (s : Shared) (H : Hp) (C : Addr) (cl : List (Str × Addr)) (fp : List Addr), PG (X.blk s H scope (compEnvC scope cl C X.env) fp) tg g) (ht : ∀ (s : Shared) (H : Hp) (C : Addr) (cl : List (Str × Addr)) (fp : List Addr), PTs (X.blk s H scope (compEnvC scope cl C X.env) fp) ifs tt)
    (hk : ∀ (s : Shared) (H : Hp) (C : Addr) (cl : List (Str × Addr)) (fp : List Addr), PE (X.blk s H scope (compEnvC scope cl C X.env) fp) kx tk)
    (he : ∀ (s : Shared) (H : Hp) (C : Addr) (cl : List (Str × Addr)) (fp : List Addr), PE (X.blk s H scope (compEnvC scope cl C X.env) fp) vx tv) (hs : ∀ x, foldedSetIterable iter X.env x = pure x := by intro _; rfl) :
    PS X (.Assign [.Name y py] (.DictComp kx vx [⟨tg, iter, ifs, 0⟩] scope pos) spos) (tAsg (tDc wi g tt tk tv (own.map (·.2))) (gName i)) := by
  refine ⟨fun pins s σ H D I h => ?_⟩
  rw [exec_Assign_Name_used _ _ _ _ hsw]
  refine wpAny_bind (wpAny_standAt (wpAny_bind ?_))
  show wpAny _ X.A (do let _ ← comprehension (.DictComp kx vx [⟨tg, iter, ifs, 0⟩] scope pos) scope X.env (firstIterPos [⟨tg, iter, ifs, 0⟩] pos) newDict false (eval iter X.env) (some (assign (.Name y py) X.env))) _ _ s
  have hh : tDc wi g tt tk tv (own.map (·.2)) σ H (fun x H1 => gName i x σ H1 D.nx) := h
  refine wpAny_bind (thn (dc_core (Qf := fun _ s' => SP X pins D .next s') hc hN I hi ok hg ht hk he hs hh fun L C s' m H' I' q hn f => ?_) fun _ s' hq => wpAny_pure (wpAny_pure hq))
  show wpAny _ _ (assign (.Name y py) X.env (.ref L)) _ _ _
  refine wpAny_assign_Name (store_ok2 (v := V.ref L) I' hN hy (.inl hyl) rfl (fun s2 I2 ⟨a, sb, ha⟩ => ?_) (.inr hyl))
  obtain ⟨f0, f1, f2, f3, f4, f5⟩ := f
  have haC : C ≠ a := ha.elim (fun z => by rw [z]; exact f1) fun z e => f4 y a z e.symm
  refine ⟨m, hn.sameBut sb haC, fun h3 sb3 => ?_⟩
  exact ⟨_, H', I2.turned (t' := s2.toks) (fun b o hb e => (sb3.2 b hb).trans e) f0 f1 f3 f4 f5, q⟩
theorem swD_true {kx vx : Expr} {gs : List Comprehension} {scope : Scope} {pos py : Pos} {y : Str} {l : Nat} {env : Env} (hk : env.scope.kind = .function) (hy : env.scope.names.lookup y = some .local) (hl : (py.line == pos.line) = true)
    (ha : (scope.names.any fun (n, k) => n == y && (k == .local || k == .cell)) = false) : swapsWith (.DictComp kx vx gs scope pos) (some (.Name y py)) l env = pure true := by
  have ky : env.kindOf y = some .local := hy
  have hb : env.blockKind = .function := by
    unfold Env.blockKind
    rw [hk]
    rfl
  unfold swapsWith
  simp only [hb, ky, ha, Expr.pos, hl]
  rfl
end
end SK
namespace SK
open PySem PySem.Spec PyProof.Rows L2 LamX NdefX
def retE : Stmt → Expr
  | .Return (some e) _ => e
  | _ => .Name "" ⟨0, 0, 0, 0⟩
def kwE : Expr → Expr
  | .Call _ _ [k] _ => k.value
  | e => e
def lamSc : Expr → Scope
  | .Lambda _ _ s _ => s
  | _ => { kind := .function, names := [], isGenerator := false, isCoroutine := false, more := [] }
theorem upd_new {p : Addr} {o : HO} {H : Hp} (n : H p = none) : Same H (upd H p o) := fun c u h => by
  rw [upd_ne (ne_of_none h n)]
  exact h
def top (i : Nat) : Stmt := PySem.Challenge.pw_lettertrees_k25_whole_groves_read.main.body.getD i (.Pass ⟨0, 0, 0, 0⟩)
/-- a def of the top whose code object is known -/
structure FunT (K : PySem.W.Frag) (x qual : Str) (st : Stmt) (f : Addr) (fd : FuncData) (c : Addr) : Prop where
  ex : ∃ (oc : Value) (od : Option Addr) (kV doc pm : Value) (an : Option Addr) (ct : Value) (osl : Array (Option Value)),
    fd = PySem.W.fnOf x qual (defArgs st) (defBody st) (defScope st) .none kV doc pm an (.ref c) ct ∧ K.lookup f = some ⟨oc, od, .func fd, osl⟩ ∧ PySem.W.codeIn K (.ref c) qual = true
  kp : PySem.W.keepIn K (.ref f) = true
theorem FunT.ok {P : Program} {w : World} {K : PySem.W.Frag} {mg : Str → Option Value} {base : Heap} {x qual : Str} {st : Stmt} {f c : Addr} {fd : FuncData} {N ps : List Str} {k : Nat} {sp : Sp} (F : FunT K x qual st f fd c) (S : FnScope N ps (defScope st)) (len : ∀ vs H Q E, sp vs H Q E → vs.length = ps.length)
    (hbody : ∀ (A : Around) (outer : List Env) (s : Shared) (H : Hp) (vs : List V) (Q : VK) (E : XK), Room k (A.deeper (envOfC qual (defScope st) s.heap.objs.size f (.ref c))) → sp vs H Q E →
      ∃ t, PSs (cxOf CX0 P w K mg base N qual (defScope st) f (.ref c) A outer s H E).nox (defBody st) t ∧ t { nx := fun _ H' => Q .non H', rt := Q } (start N vs) H) : FnOk P w K mg base CX0 (k + 1) f fd ps sp := by
  obtain ⟨oc, od, kV, doc, pm, an, ct, osl, rfl, lk, hcd⟩ := F.ex
  refine fn_of lk hcd S len fun A outer s H vs Q E hr hsp => ?_
  obtain ⟨t, h, q⟩ := hbody A outer s H vs Q E hr hsp
  exact ⟨t, h.nox, q⟩
/-! ### the order of words -/
def alpha : Str := "abcdefghijklmnopqrstuvwxyz"
structure OkL (ls : Str) : Prop where
  lo : 2 ≤ ls.cps.size
  hi : ls.cps.size ≤ 26
  nd : ls.cps.toList.Nodup
  al : ∀ c ∈ ls.cps.toList, 97 ≤ c ∧ c < 123
def rankOf (ls : Str) (c : Nat) : Nat := ls.cps.toList.idxOf c
def keyW (ls w : Str) : Str := ⟨(w.cps.toList.map fun c => 97 + rankOf ls c).toArray⟩
def OverL (ls w : Str) : Prop := w.cps.size ≤ 200 ∧ ∀ c ∈ w.cps.toList, c ∈ ls.cps.toList
def sortW (ls : Str) (ws : List Str) : List Str := ws.mergeSort (PySem.W.dataLe false fun x => .str (keyW ls x))
theorem alpha_at {i : Nat} (h : i < 26) : alpha.cps.toList[i]? = some (97 + i) := by
  have z : ∀ j < 26, alpha.cps.toList[j]? = some (97 + j) := by decide +kernel
  exact z i h
theorem join_chars : ∀ l : List Nat, Str.join (Str.ofString "") (l.map fun c => (⟨#[c]⟩ : Str)) = ⟨l.toArray⟩
  | [] => rfl
  | [c] => rfl
  | c :: d :: r => by
    have ih := join_chars (d :: r)
    simp only [List.map_cons] at ih ⊢
    show ((⟨#[c]⟩ : Str) ++ Str.ofString "") ++ Str.join (Str.ofString "") ((⟨#[d]⟩ : Str) :: r.map fun c => ⟨#[c]⟩) = _
    rw [ih]
    show (⟨(#[c] ++ (Str.ofString "").cps) ++ (d :: r).toArray⟩ : Str) = _
    have z : (Str.ofString "").cps = #[] := by decide +kernel
    rw [z]
    simp
theorem txt_join_chars (l : List Nat) : Txt.join (Str.ofString "") (l.map fun c => (⟨#[c]⟩ : Str)) = ⟨l.toArray⟩ := by
  show Builtin.Str.glued (Str.ofString "") _ = _
  rw [StrLaws.glued_eq_join]
  exact join_chars l
theorem ndW : (["word", "ranks", "sign"] : List Str).Nodup := by decide +kernel
theorem sum_ones (l : List Nat) : ((l.map fun c => (⟨#[c]⟩ : Str)).map (·.length)).sum = l.length := by
  induction l with
  | nil => rfl
  | cons c r ih =>
    simp only [List.map_cons, List.sum_cons, ih, List.length_cons]
    show 1 + r.length = _
    omega
theorem Same.extN {H H' : Hp} (s : Same H H') : ExtN H H' := ExtN.of s
def rJoin (K : PySem.W.Frag) : V → List V → Hp → VK → Prop := fun x xs H Q => ∃ a p, ∃ ys : List Str, x = .str a ∧ xs = [.ref p] ∧ (SqL K H p (ys.map V.str) ∨ SqT K H p (ys.map V.str)) ∧ (ys.map (·.length)).sum + ys.length * a.length ≤ 16777216 ∧ Q (.str (Txt.join a ys)) H
def tKey (K : PySem.W.Frag) : TE := tBM K "str" (rJoin K) (tC (.str "")) (tCons (tLc (iStr (tVar 0)) (gName 2) tYes (tDGet (tVar 1) (tVar 2)) [2]) tNil)
def spOrder (K : PySem.W.Frag) (T : List (Addr × Str)) : Sp := fun vs H Q _ => ∃ (ls : Str) (a : Addr) (ws : List Str), vs = [.str ls, .ref a] ∧ OkL ls ∧ SqL K H a (ws.map V.str) ∧ (∀ y ∈ ws, OverL ls y) ∧ Tabs T H ∧
  ∀ (H' : Hp) (p : Addr), ExtN H H' → Tabs T H' → H' p = some (.lst ((sortW ls ws).map V.str)) → Q (.ref p) H'
section
variable {P : Program} {w : World} {K : PySem.W.Frag} {mg : Str → Option Value} {base : Heap} {f c Pt : Addr} {fd : FuncData} {T : List (Addr × Str)}
theorem sc17 : FnScope ["letters", "words", "ranks", "rank", "letter"] ["letters", "words"] (defScope (top 30)) := ⟨rfl, rfl, rfl, by decide +kernel, rfl, by decide +kernel, by decide +kernel⟩
theorem ok_order (F : FunT K "in_order" "in_order" (top 30) f fd c) (gE : mg "enumerate" = none) (gS : mg "sorted" = none) {tA : Tok} (gA : mg "ALPHABET" = some (.str alpha tA)) (TB : TabB base mg c Pt) (hm : (Pt, ("in_order" : Str) ++ ".<locals>." ++ "<lambda>") ∈ T) (hu : ∀ p ∈ T, p.1 = Pt → p.2 = ("in_order" : Str) ++ ".<locals>." ++ "<lambda>") :
    FnOk P w K mg base CX0 5 f fd ["letters", "words"] (spOrder K T) := by
  refine F.ok sc17 (fun vs H Q E h => ?_) (fun A outer s H vs Q E hr h => ?_)
  · obtain ⟨ls, a, ws, rfl, _⟩ := h
    rfl
  · obtain ⟨ls, a, ws, rfl, hL, hS, hW, hT, kk⟩ := h
    refine ⟨_, pss_cons (ps_set (i := 2) sc17.nd rfl (Or.inr rfl) (pe_dc (own := [("rank", 3), ("letter", 4)]) (g := gTup K 2 (gCons (gName 3) (gCons (gName 4) gNil))) (tt := tYes) rfl sc17.nd (pi_enumS (by rfl) gE (pa_cons (pv 0) pa_nil))
      (blkOk_by (N := ["letters", "words", "ranks", "rank", "letter"]) (sc := defScope (top 30)) (by decide +kernel)) (fun _ _ _ _ _ => pg_tup rfl (pgs_cons (pg_name (i := 3) sc17.nd rfl (Or.inl rfl)) (pgs_cons (pg_name (i := 4) sc17.nd rfl (Or.inl rfl)) pgs_nil)))
      (fun _ _ _ _ _ => pts_nil) (fun _ _ _ _ _ => pv 4) (fun _ _ _ _ _ => pe_ix ix_str (pe_glob (v := V.str alpha) (by rfl) gA ⟨_, rfl⟩) (pv 3) (fun _ _ => rfl))))
      (pss_one (ps_ret (pe_sortkey (tb := tKey K) (k := 1) (N := ["word", "ranks", "sign"]) (fr := ["ranks"]) (a1 := "word") (js := [2]) (by rfl) gS (pv 1) TB rfl hm hu hr rfl (nscope_by (by decide +kernel)) (show ndefB (defScope (top 30)) (lamSc (kwE (retE ((defBody (top 30)).getD 1 (.Pass ⟨0, 0, 0, 0⟩))))) ["ranks"] = true by decide +kernel) rfl rfl (fun _ _ _ _ _ _ => rfl)
        (fun A2 outer2 s2 H2 f2 c2 cl2 hr2 =>
          pe_bm PySem.F.plainAttrs_str PySem.F.slot_str_join PySem.F.type_str_join mt_join pe_str (pa_cons (pe_lc (own := [("sign", 2)]) (g := gName 2) (tt := tYes) rfl ndW (pi_str (pv 0))
            (blkOk_by (N := ["word", "ranks", "sign"]) (sc := lamSc (kwE (retE ((defBody (top 30)).getD 1 (.Pass ⟨0, 0, 0, 0⟩))))) (by decide +kernel)) (fun _ _ _ _ _ => pg_name (i := 2) ndW rfl (Or.inl rfl)) (fun _ _ _ _ _ => pts_nil) (fun _ _ _ _ _ => pe_dget (hu_of hr2) (pv 1) (pv 2) (fun _ _ => rfl))) pa_nil))))), ?_⟩
    refine ⟨V.str ls, rfl, ls, rfl, fun D hD => dc_it walk_enumS (fun i H1 => ∃ kvs : List (Key × V), H1 D = some (.dK kvs) ∧ kvs.length ≤ i ∧ Same H H1 ∧ ∀ j c, j < i → ls.cps[j]? = some c → valV kvs (.inr ⟨#[c]⟩) = some (.str ⟨#[97 + j]⟩))
      ⟨[], upd_same, Nat.le_refl _, upd_new hD, fun j c h => absurd h (Nat.not_lt_zero _)⟩ (fun _ _ _ _ => trivial) ?_ ?_⟩
    · rintro i x H1 H2 hi ⟨kvs, hd, hl, sm, hv⟩ ⟨T1, x1, y1, rfl, nT, rfl, ex, ey⟩
      obtain rfl : V.int (i : Nat) = x1 := Option.some.inj ex
      obtain ⟨cc, hcc, rfl⟩ : ∃ cc, ls.cps[i]? = some cc ∧ V.str ⟨#[cc]⟩ = y1 := by
        have ey' : (ls.cps[i]?.map fun c => V.str ⟨#[c]⟩) = some y1 := ey
        cases q : ls.cps[i]? with
        | none =>
          rw [q] at ey'
          cases ey'
        | some cc =>
          rw [q] at ey'
          exact ⟨cc, rfl, Option.some.inj ey'⟩
      have hi26 : i < 26 := Nat.lt_of_lt_of_le hi hL.hi
      have nDT : D ≠ T1 := fun z => by
        rw [← z, hd] at nT
        cases nT
      refine ⟨T1, _, rfl, .inl (.inl upd_same), rfl, _, _, rfl, _, _, rfl, rfl, rfl, ?_⟩
      refine ⟨V.str ⟨#[cc]⟩, rfl, V.int i, rfl, alpha, (i : Int), 97 + i, rfl, rfl, (by decide +kernel), atI_nat (alpha_at hi26), kvs, .inr ⟨#[cc]⟩, rfl, (upd_ne nDT).trans hd, Nat.lt_of_le_of_lt hl (Nat.lt_trans hi26 (by decide)), _, upd_same, ?_, ?_, fun j c hj hc => ?_⟩
      · have z := length_putK kvs (.inr ⟨#[cc]⟩ : Key) (V.str ⟨#[97 + i]⟩)
        omega
      · exact fun b o e => by
          have nb : b ≠ D := ne_of_none e hD
          rw [upd_ne nb]
          exact upd_new nT _ _ (sm _ _ e)
      · rw [valV_put]
        by_cases hji : j = i
        · subst hji
          rw [hcc] at hc
          obtain rfl := Option.some.inj hc
          rw [if_pos rfl]
        · have hlt : j < i := by omega
          have hne : ¬ ((.inr ⟨#[c]⟩ : Key) = .inr ⟨#[cc]⟩) := fun z => by
            have z2 : c = cc := by
              injection z with z
              injection z with z
              simpa using z
            subst z2
            have h1 : ls.cps.toList[j]? = some c := by simpa using hc
            have h2 : ls.cps.toList[i]? = some c := by simpa using hcc
            exact hji (nd_ix hL.nd h1 h2)
          rw [if_neg hne]
          exact hv j c hlt hc
    rintro H1 ⟨kvs, hd, hl, sm, hv⟩
    have look : ∀ cc ∈ ls.cps.toList, valV kvs (.inr ⟨#[cc]⟩) = some (.str ⟨#[97 + rankOf ls cc]⟩) := fun cc hcc => by
      have hlt : ls.cps.toList.idxOf cc < ls.cps.toList.length := List.idxOf_lt_length_of_mem hcc
      refine hv _ cc (by simpa [rankOf] using hlt) ?_
      have z : ls.cps.toList[ls.cps.toList.idxOf cc]? = some cc := by
        rw [List.getElem?_eq_getElem hlt, List.getElem_idxOf]
      simpa [rankOf] using z
    refine ⟨V.ref a, rfl, a, ws, keyW ls, rfl, sm.seq hS, hT.ext sm, ExtN.of sm, fun H2 eN T2 => ⟨fun y hy H3 sm3 => ?_, fun H5 p np sm5 h5 => ?_⟩⟩
    · have hd3 : H3 D = some (.dK kvs) := sm3 _ _ (eN _ _ hd fun ps z => nomatch z)
      obtain ⟨hy1, hy2⟩ := hW y hy
      refine ⟨rfl, V.str y, rfl, y, rfl, fun D2 nD2 => lc_it walk_str (fun i H' => Same H3 H' ∧ H' D2 = some (.lst ((y.cps.toList.take i).map fun c => V.str ⟨#[97 + rankOf ls c]⟩))) ⟨upd_new nD2, upd_same⟩ (fun _ _ _ _ => trivial) ?_ ?_⟩
      · rintro i x H4 H5 hi ⟨s4, h4⟩ ⟨rfl, cc, hcc, rfl⟩
        have hm : cc ∈ y.cps.toList := by
          have z : y.cps.toList[i]? = some cc := by simpa using hcc
          exact List.mem_of_getElem? z
        have et : y.cps.toList.take (i + 1) = y.cps.toList.take i ++ [cc] := by
          have z : y.cps.toList[i]? = some cc := by simpa using hcc
          rw [List.take_add_one, z]
          rfl
        have dg := DGet.k (k := (.inr ⟨#[cc]⟩ : Key)) (s4 _ _ hd3)
        rw [look cc (hy2 cc hm)] at dg
        refine ⟨rfl, V.ref D, rfl, V.str ⟨#[cc]⟩, rfl, D, _, rfl, dg, _, h4, ?_, fun b o e => ?_, ?_⟩
        · rw [List.length_map, List.length_take]
          have z : (200 : Nat) < sizeLine := by decide
          omega
        · rw [upd_ne (ne_of_none e nD2)]
          exact s4 _ _ e
        · rw [et, List.map_append]
          exact upd_same
      · rintro H4 ⟨s4, h4⟩
        have e1 : y.cps.toList.take y.cps.size = y.cps.toList := List.take_of_length_le (by simp)
        rw [e1] at h4
        have e2 : (y.cps.toList.map fun c => V.str ⟨#[97 + rankOf ls c]⟩) = ((y.cps.toList.map fun c => 97 + rankOf ls c).map fun c => (⟨#[c]⟩ : Str)).map V.str := by
          rw [List.map_map, List.map_map]
          rfl
        rw [e2] at h4
        refine ⟨"", D2, _, rfl, rfl, .inl (.inl (.inl h4)), ?_, ?_, s4⟩
        · rw [sum_ones]
          have z : (Str.ofString "").length = 0 := by decide
          rw [z, List.length_map, Array.length_toList]
          omega
        · rw [txt_join_chars]
          rfl
    · exact kk H5 p ((ExtN.of sm).trans (eN.trans (ExtN.of sm5))) (T2.ext sm5) h5
end
end SK
/-! ### set(a text) -/
namespace SK
/-- the different ones, as they are met -/
def nub (l : List Nat) : List Nat := l.foldl (fun acc c => if c ∈ acc then acc else acc ++ [c]) []
theorem nub_snoc (l : List Nat) (c : Nat) : nub (l ++ [c]) = if c ∈ nub l then nub l else nub l ++ [c] := by
  unfold nub
  rw [List.foldl_append]
  rfl
theorem snoc_ind {p : List Nat → Prop} (h0 : p []) (hs : ∀ l c, p l → p (l ++ [c])) : ∀ l, p l := fun l => by
  have z : ∀ r : List Nat, p r.reverse := fun r => by
    induction r with
    | nil => exact h0
    | cons c r ih =>
      rw [List.reverse_cons]
      exact hs _ _ ih
  have q := z l.reverse
  rw [List.reverse_reverse] at q
  exact q
theorem mem_nub (c : Nat) : ∀ l, c ∈ nub l ↔ c ∈ l := snoc_ind (by simp [nub]) fun l d ih => by
  rw [nub_snoc]
  by_cases h : d ∈ nub l
  · rw [if_pos h, List.mem_append, ih]
    constructor
    · exact .inl
    · rintro (z | z)
      · exact z
      · obtain rfl := List.mem_singleton.mp z
        exact ih.mp h
  · rw [if_neg h, List.mem_append, List.mem_append, ih]
theorem nub_le : ∀ l, (nub l).length ≤ l.length := snoc_ind (by simp [nub]) fun l d ih => by
  rw [nub_snoc, List.length_append]
  split
  · simp; omega
  · simp; omega
theorem nub_nodup : ∀ l, ((nub l).length = l.length) ↔ l.Nodup := snoc_ind (by simp [nub]) fun l d ih => by
  have le := nub_le l
  rw [nub_snoc, List.nodup_append]
  by_cases h : d ∈ nub l
  · rw [if_pos h]
    have hl := (mem_nub d l).mp h
    constructor
    · intro z
      simp at z
      omega
    · rintro ⟨_, _, z⟩
      exact absurd rfl (z d hl d (by simp))
  · rw [if_neg h]
    have hl : d ∉ l := fun z => h ((mem_nub d l).mpr z)
    constructor
    · intro z
      refine ⟨ih.mp (by simpa using z), by simp, fun a ha b hb e => ?_⟩
      obtain rfl := List.mem_singleton.mp hb
      exact hl (e ▸ ha)
    · rintro ⟨z, _, _⟩
      have := ih.mpr z
      simp [this]
end SK
namespace SK
open PySem PyProof.Rows
/-- what a set of the signs of l holds -/
def inSigns (l : List Nat) (k : Str) : Bool := (nub l).any fun c => decide (k = ⟨#[c]⟩)
theorem inSigns_one (l : List Nat) (c : Nat) : inSigns l ⟨#[c]⟩ = decide (c ∈ nub l) := by
  unfold inSigns
  by_cases h : c ∈ nub l
  · rw [decide_eq_true h]
    exact List.any_eq_true.mpr ⟨c, h, by simp⟩
  · rw [decide_eq_false h, List.any_eq_false]
    intro d hd
    simp only [decide_eq_true_eq]
    intro z
    have : c = d := by
      injection z with z
      simpa using z
    exact h (this ▸ hd)
theorem inSigns_snoc (l : List Nat) (c : Nat) (k : Str) : inSigns (l ++ [c]) k = (inSigns l k || decide (k = ⟨#[c]⟩)) := by
  unfold inSigns
  rw [nub_snoc]
  by_cases h : c ∈ nub l
  · rw [if_pos h]
    by_cases e : k = ⟨#[c]⟩
    · have z : ((nub l).any fun c => decide (k = ⟨#[c]⟩)) = true := List.any_eq_true.mpr ⟨c, h, by simp [e]⟩
      rw [z, Bool.true_or]
    · rw [decide_eq_false e, Bool.or_false]
  · rw [if_neg h, List.any_append]
    simp
section
variable {prog : Program} {w : World} {A : Around} {R : Result → Shared → Prop} {I : Addr} {fp wr : List Addr} {G : Array GenState → Array GenState → Prop} {St : Nat → Shared → Prop}
theorem loop_text (x : Str) (W : WalksS prog w A.in1 I fp wr G x.cps.size (SignAt x) St) (S : Addr) (hSf : S ∉ fp) (hz : x.cps.size + 1 < scanBound) : ∀ (m i : Nat) (s : Shared), m + i = x.cps.size → St i s →
    s.heap.SetOf (strKind prog w) S (inSigns (x.cps.toList.take i)) (nub (x.cps.toList.take i)).length →
    (∀ s', Moved (S :: wr) G s s' → s'.heap.SetOf (strKind prog w) S (inSigns x.cps.toList) (nub x.cps.toList).length → R (.ok (.ret .none)) s') →
    codeAny (model prog w) A (.builtin "set.update.loop" ⟨[.ref S, .ref I], []⟩) R s := by
  have hSw : S ∉ wr := fun h => hSf (W.sub _ h)
  have sub : ∀ b ∈ wr, b ∈ S :: wr := fun b hb => List.mem_cons_of_mem _ hb
  have same : ∀ {i : Nat} {s s' : Shared}, Moved wr G s s' → s.heap.SetOf (strKind prog w) S (inSigns (x.cps.toList.take i)) (nub (x.cps.toList.take i)).length → s'.heap.SetOf (strKind prog w) S (inSigns (x.cps.toList.take i)) (nub (x.cps.toList.take i)).length := fun hm ⟨o, es, ep, tb, ho, r⟩ =>
    ⟨o, es, ep, tb, hm.heap S _ hSw ho, r⟩
  intro m
  induction m with
  | zero =>
    intro i s hk st hS hR
    obtain rfl : i = x.cps.size := by omega
    refine codeAny_builtin PyProof.Rows.F.entry_set_update_loop ?_
    rw [Around.under_plainId PyProof.Rows.F.plain_set_update_loop _]
    show wpAny _ A.in1 (pyNext (.ref I) >>= _) _ _ s
    refine wpAny_bind (W.done s _ _ st fun s' hm => ?_)
    have e : x.cps.toList.take x.cps.size = x.cps.toList := List.take_of_length_le (by simp)
    have q := same hm hS
    rw [e] at q
    show wpAny _ A.in1 (ret Value.none) _ _ s'
    exact wpAny_pure (hR s' (hm.mono sub) q)
  | succ m ih =>
    intro i s hk st hS hR
    have hlt : i < x.cps.size := by omega
    refine codeAny_builtin PyProof.Rows.F.entry_set_update_loop ?_
    rw [Around.under_plainId PyProof.Rows.F.plain_set_update_loop _]
    show wpAny _ A.in1 (pyNext (.ref I) >>= _) _ _ s
    refine wpAny_bind (W.item i s _ _ hlt st fun v s' hP st' hm => ?_)
    obtain ⟨c, t, hc, rfl⟩ := hP
    have q := same hm hS
    have e : x.cps.toList.take (i + 1) = x.cps.toList.take i ++ [c] := by
      have z : x.cps.toList[i]? = some c := by simpa using hc
      rw [List.take_add_one, z]
      rfl
    show wpAny _ A.in1 (holding [Value.str ⟨#[c]⟩ t] (setAdd S (.str ⟨#[c]⟩ t)) >>= _) _ _ s'
    refine wpAny_bind (wpAny_holding ?_)
    unfold setAdd
    refine wpAny_holding ?_
    have isk : (strKind prog w).is (⟨#[c]⟩ : Str) (.str ⟨#[c]⟩ t) = true := Froz.is_str _ _
    refine wpAny_bind ((strKind prog w).pyHash (k := (⟨#[c]⟩ : Str)) isk ?_)
    have room : (nub (x.cps.toList.take i)).length + 1 < scanBound := by
      have h1 := nub_le (x.cps.toList.take i)
      rw [List.length_take] at h1
      omega
    refine wpAny_setAddHashed_of (knd := strKind prog w) (s := { s' with toks := s'.toks + 1 }) isk rfl q room fun h' hsb hS2 => ?_
    have hSi : h'.SetOf (strKind prog w) S (inSigns (x.cps.toList.take (i + 1))) (nub (x.cps.toList.take (i + 1))).length := by
      rw [e]
      refine SetOf_congr hS2 (fun k => (inSigns_snoc _ c k).symm) ?_
      rw [inSigns_one, nub_snoc]
      by_cases hm : c ∈ nub (x.cps.toList.take i)
      · rw [if_pos hm, if_pos (decide_eq_true hm)]
      · rw [if_neg hm, if_neg (by rw [decide_eq_false hm]; exact Bool.false_ne_true), List.length_append]
        rfl
    refine wpAny_pure ⟨plainId_quiet PyProof.Rows.F.plain_set_update_loop _, ih (i + 1) _ (by omega) (W.frame _ s' _ _ st' (Nat.le_succ _) fun b hb o z => ?_) hSi fun s2 hm2 hS3 => ?_⟩
    · have nb : b ≠ S := fun h => hSf (h ▸ hb)
      exact (hsb.2 b nb).trans z
    · refine hR s2 (Moved.trans W.gtrans ((hm.mono sub).then_heap (Nat.le_succ _) fun b o hb z => ?_) hm2) hS3
      have nb : b ≠ S := fun h => hb (by rw [h]; exact List.mem_cons_self)
      exact (hsb.2 b nb).trans z
end
end SK
namespace SK
open PySem PyProof.Rows
theorem sub_str_set : isSubtype (.type "str") (.type "set") = pure false := by
  rw [isSubtype_type]
  kernel_rfl
theorem sub_str_froz : isSubtype (.type "str") (.type "frozenset") = pure false := by
  rw [isSubtype_type]
  kernel_rfl
section
variable {prog : Program} {w : World} {A : Around} {E : Value → Shared → Prop} {s : Shared}
theorem call_set_text {x : Str} {t : Tok} {Q : Value → Shared → Prop} (hh : A.handled = none) (ha : x.cps.all (· < 128) = true) (hz : x.cps.size + 1 < scanBound)
    (h : ∀ (h' : Heap) (tk : Nat), h'.SetOf (strKind prog w) s.heap.objs.size (inSigns x.cps.toList) (nub x.cps.toList).length → (∀ b o, b < s.heap.objs.size → s.heap.get? b = some o → h'.get? b = some o) →
      Q (.ref s.heap.objs.size) { s with heap := h', toks := tk }) : wpAny (model prog w) A (call (.type "set") [.str x t]) Q E s := by
  obtain ⟨c, tl, hmro⟩ := PySem.F.called_set.mro
  have made := PySem.F.called_set.made
  have subs := PySem.F.called_set.sub
  refine wpAny_call (codeAny_of_tree ?_)
  show wpAny _ _ (callAny (.type "set") _) _ _ _
  refine wpAny_pure ⟨Code.quiet_builtin _ (by decide +kernel), codeAny_builtin PySem.F.entry_type_call ?_⟩
  rw [Around.under_plain (weight_type_call_type "set" [.str x t] []) rfl]
  have f1 := PySem.F.called_set.notType
  have f2 := PySem.F.called_set.canCreate
  have f3 := PySem.F.typeCall_set_1 (.str x t)
  repeat (any_goals (first | assumption | wp_step))
  refine codeAny_mono (code_set_new_1 (.str x t) (E := E) (Q₁ := fun obj s₁ => ∃ led : Bool, obj = .ref s.heap.objs.size ∧ s₁ = { s with heap := s.heap.push { cls := .type "set", dict := none, data := .set #[] 0 (.fresh 0 0 led) } }) fun led => ⟨led, rfl, rfl⟩) fun r s1 hr => ?_
  cases r with
  | error e => exact hr
  | ok fl =>
    cases fl with
    | ret obj =>
      obtain ⟨led, rfl, rfl⟩ := hr
      generalize hoo : ({ cls := .type "set", dict := none, data := .set #[] 0 (.fresh 0 0 led) } : Obj) = oo
      have fro : oo.isFreed = false := by rw [← hoo]; rfl
      have hS : (s.heap.push oo).get? s.heap.objs.size = some oo := Heap.get?_push_size _ fro
      have hT : Shared.TypeIs { s with heap := s.heap.push oo } (.ref s.heap.objs.size) "set" := ⟨_, hS, by rw [← hoo]⟩
      have hli := PySem.F.called_set.init.lookup
      have hbi := PySem.F.called_set.init.bind (.ref s.heap.objs.size)
      repeat (any_goals (first | assumption | wp_step))
      refine codeAny_mono (codeAny_call_builtin (R := wants (fun r s₂ => r = .none ∧ ∃ h' tk, s₂ = { s with heap := h', toks := tk } ∧ h'.SetOf (strKind prog w) s.heap.objs.size (inSigns x.cps.toList) (nub x.cps.toList).length ∧
          (∀ b o, b < s.heap.objs.size → s.heap.get? b = some o → h'.get? b = some o)) E) PySem.F.called_set.init.plain PySem.F.entry_set_init (check_set_init_1 hT ?_)) fun r2 s2 hr2 => ?_
      · subst hoo
        have g1 := sub_str_set
        have g2 := sub_str_froz
        unfold Builtin.«set.__init__» noKeywords Builtin.Frozenset.updateFrom
        generalize hPI : pyIter = PI
        wp_walk
        subst hPI
        refine wpAny_pyIter_ascii ha ?_
        refine wpAny_bind (wpAny_runValue ?_)
        have hh3 : A.in1.in1.in1.handled = none := by simp [hh]
        generalize hoo : ({ cls := .type "set", dict := none, data := .set #[] 0 (.fresh 0 0 led) } : Obj) = oo at hS hT ⊢
        have sz : (s.heap.push oo).objs.size = s.heap.objs.size + 1 := Heap.size_push ..
        refine loop_text x ((Walks.strAscii hh3 (s.heap.push oo).objs.size x t).toS) s.heap.objs.size (by rw [sz]; simp) hz x.cps.size 0 _ (by omega) ⟨_, Heap.get?_push_size _ rfl, rfl, rfl⟩ ?_ fun s' hm hS' => ?_
        · have hget := Heap.get?_push_of_some ({ cls := .type "str_ascii_iterator", data := .fields #[.str x t, .int 0 0] } : Obj) hS
          rw [← hoo] at hget ⊢
          exact SetOf_congr ((setObjOf_fresh (knd := strKind prog w) led).setOf hget (by unfold scanBound; omega)) (fun _ => rfl) rfl
        · obtain ⟨h', g', d', tk', os'⟩ := s'
          obtain rfl : g' = s.gens := hm.gens
          obtain rfl : d' = s.drawn := hm.drawn
          obtain rfl : os' = s.os := hm.os
          show wpAny _ _ _ _ _ _
          refine wpAny_pure ?_
          show wpAny _ _ (ret Value.none) _ _ _
          refine wpAny_pure ⟨rfl, h', tk', rfl, hS', fun b o hb e => ?_⟩
          have n1 : b ≠ s.heap.objs.size := Nat.ne_of_lt hb
          have n2 : b ≠ (s.heap.push oo).objs.size := by
            rw [sz]
            exact Nat.ne_of_lt (Nat.lt_succ_of_lt hb)
          exact hm.heap b o (by simp only [List.mem_cons, List.mem_singleton, List.not_mem_nil, or_false, not_or]; exact ⟨n1, n2⟩) (Heap.get?_push_of_some _ (Heap.get?_push_of_some _ e))
      · cases r2 with
        | error e => exact hr2
        | ok f2' =>
          cases f2' with
          | ret r =>
            obtain ⟨rfl, h', tk, rfl, hS', hk'⟩ := hr2
            repeat (any_goals (first | assumption | wp_step))
            exact h _ _ hS' hk'
          | _ => exact hr2.elim
    | _ => exact hr.elim
end
end SK
namespace SK
open PySem PySem.Spec PyProof.Rows L2 LamX NdefX
section
variable {X : Cx}
/-- len(set(x)), x a text of ASCII signs -/
def tLenSetT (ta : TE) : TE := fun σ H Q => ta σ H fun v H1 => ∃ x : Str, v = .str x ∧ x.cps.all (· < 128) = true ∧ x.cps.size ≤ 1000 ∧ Q (.int ((nub x.cps.toList).length : Nat)) H1
theorem pe_lenSetT {a : Expr} {ta : TE} {p p2 q pos : Pos} (hc : X.calm = true) (hg : Gl X "len") (hm : X.mg "len" = none) (hg2 : Gl X "set") (hm2 : X.mg "set" = none) (ha : PE X a ta) (na : starEach [a] X.env = (false, eval a X.env) :: starEach [] X.env := by rfl) :
    PE X (.Call (.Name "len" p) [.Call (.Name "set" p2) [a] [] q] [] pos) (tLenSetT ta) := by
  refine ⟨fun pins s σ H Q I h => ?_⟩
  refine Call_ (ld_blt I hg hm PySem.boot_len ?_)
  refine PyProof.Rows.callWith_builtin1 (PyProof.Rows.args_cons ?_ rfl) rfl rfl
  refine Call_ (ld_blt I hg2 hm2 boot_set ?_)
  refine PyProof.Rows.callWith_type1 (PyProof.Rows.args_cons (thn (ha.run pins s σ H _ I h) fun v s1 ⟨x, H1, I1, r1, q1⟩ => PyProof.Rows.args_nil ?_) na) na rfl
  obtain ⟨x, rfl, hasc, hz, q1⟩ := q1
  obtain ⟨t, rfl⟩ := r1
  refine call_set_text (I1.ok.hd hc) hasc (by unfold scanBound; omega) fun h' tk hS hk => PyProof.Rows.args_nil ?_
  obtain ⟨o, es, ep, tb, ho, hex, hd, _, _, _, hf, hn⟩ := hS
  have I2 : Inv X pins σ H1 { s1 with heap := h', toks := tk } := I1.kept fun b o e => hk b o (Heap.lt_size e) e
  have le := nub_le x.cps.toList
  have lz : x.cps.toList.length = x.cps.size := by simp
  refine call_len_set ho hex hd hf (by rw [hn]; omega) ⟨.int _, H1, I2.tok _, ⟨_, by rw [hn]⟩, q1⟩
end
end SK
namespace SK
open PySem PySem.Spec PyProof.Rows L2 LamX NdefX
open K0 (De DeAll)
/-! ### data: of which type, letters, words, rows -/
def isS : PyData → Bool
  | .str _ => true
  | _ => false
def isB : PyData → Bool
  | .bool _ => true
  | _ => false
def isTL : PyData → Bool
  | .tuple _ => true
  | .list _ => true
  | _ => false
def okLb (x : Str) : Bool := decide (2 ≤ x.cps.size) && decide (x.cps.size ≤ 26) && (decide x.cps.toList.Nodup && x.cps.toList.all fun c => decide (c ∈ alpha.cps.toList))
def okLd : PyData → Bool
  | .str x => okLb x
  | _ => false
def okW (ls : Str) : PyData → Bool
  | .str x => decide (x.cps.size ≤ 200) && x.cps.toList.all fun c => decide (c ∈ ls.cps.toList)
  | _ => false
def okR3 (ls : Str) : List PyData → Bool
  | [a, b, c] => okW ls a && (isB b && isB c)
  | _ => false
def okR (ls : Str) : PyData → Bool
  | .tuple ds => okR3 ls ds
  | .list ds => okR3 ls ds
  | _ => false
theorem ty_of {K : PySem.W.Frag} {H : Hp} {v : V} {d : PyData} (h : De K H v d) : ∃ T : String, TyX K H v (.type T) ∧ kitB T "str" = some (isS d) ∧ kitB T "bool" = some (isB d) ∧ ∃ t1 t2, kitB T "tuple" = some t1 ∧ kitB T "list" = some t2 ∧ (t1 || t2) = isTL d := by
  cases h with
  | non => exact ⟨"NoneType", .base .non, (by show kitB "NoneType" "str" = some false; decide +kernel), (by show kitB "NoneType" "bool" = some false; decide +kernel), false, false, by decide +kernel, by decide +kernel, rfl⟩
  | bl b => exact ⟨"bool", .base (.bl b), (by show kitB "bool" "str" = some false; decide +kernel), (by show kitB "bool" "bool" = some true; decide +kernel), false, false, by decide +kernel, by decide +kernel, rfl⟩
  | int i => exact ⟨"int", .base (.int i), (by show kitB "int" "str" = some false; decide +kernel), (by show kitB "int" "bool" = some false; decide +kernel), false, false, by decide +kernel, by decide +kernel, rfl⟩
  | str x => exact ⟨"str", .base (.str x), (by show kitB "str" "str" = some true; decide +kernel), (by show kitB "str" "bool" = some false; decide +kernel), false, false, by decide +kernel, by decide +kernel, rfl⟩
  | lst ha hd => exact ⟨"list", .base (.lst ha), (by show kitB "list" "str" = some false; decide +kernel), (by show kitB "list" "bool" = some false; decide +kernel), false, true, by decide +kernel, by decide +kernel, rfl⟩
  | tup ha hd => exact ⟨"tuple", .base (.tup ha), (by show kitB "tuple" "str" = some false; decide +kernel), (by show kitB "tuple" "bool" = some false; decide +kernel), true, false, by decide +kernel, by decide +kernel, rfl⟩
  | dic ha => exact ⟨"dict", .base (.dK ha), (by show kitB "dict" "str" = some false; decide +kernel), (by show kitB "dict" "bool" = some false; decide +kernel), false, false, by decide +kernel, by decide +kernel, rfl⟩
theorem kit_two {K : PySem.W.Frag} {T : String} {t1 t2 : Bool} (h1 : kitB T "tuple" = some t1) (h2 : kitB T "list" = some t2) : PySem.W.kitAny K (.type T) [.type "tuple", .type "list"] = some (t1 || t2) := by
  refine kitAny_cons (b := t1) (kit_ty h1) (fun e => ?_) (fun e => by rw [e]; rfl)
  rw [e, Bool.false_or]
  refine kitAny_cons (b := t2) (kit_ty h2) (fun e => ?_) (fun e => e)
  rw [e]
  exact kitAny_nil
/-- all([.. for sign in x]) -/
theorem rd_all_text {K : PySem.W.Frag} {tx te : TE} {i : Nat} {vs : List Nat} {σ : St} {H : Hp} {Q : VK} {x : Str} (p : Nat → Bool) (hz : x.cps.size ≤ 1000) (htx : ∀ R : VK, R (.str x) H → tx σ H R) (hw : ∀ v, wipe ((wipe σ vs).set i (some v)) vs = wipe σ vs)
    (hte : ∀ (c : Nat) (H1 : Hp) (R : VK), R (.bl (p c)) H1 → te ((wipe σ vs).set i (some (.str ⟨#[c]⟩))) H1 R) (k : ∀ H1, Same H H1 → Q (.bl (x.cps.toList.all p)) H1) :
    tCB (rAll K) (tCons (tLc (iStr tx) (gName i) tYes te vs) tNil) σ H Q := by
  refine htx _ ⟨x, rfl, fun D nD => lc_it walk_str (fun j H' => Same H H' ∧ H' D = some (.lst ((x.cps.toList.take j).map fun c => V.bl (p c)))) ⟨upd_new nD, upd_same⟩ (fun _ _ _ _ => trivial) ?_ ?_⟩
  · rintro j y H4 H5 hj ⟨s4, h4⟩ ⟨rfl, c, hc, rfl⟩
    have z : x.cps.toList[j]? = some c := by simpa using hc
    have et : x.cps.toList.take (j + 1) = x.cps.toList.take j ++ [c] := by
      rw [List.take_add_one, z]
      rfl
    refine ⟨hw _, hte c _ _ ⟨_, h4, ?_, fun b o e => ?_, ?_⟩⟩
    · rw [List.length_map, List.length_take]
      have z : (1000 : Nat) < sizeLine := by decide
      omega
    · rw [upd_ne (ne_of_none e nD)]
      exact s4 _ _ e
    · rw [et, List.map_append]
      exact upd_same
  · rintro H4 ⟨s4, h4⟩
    have e1 : x.cps.toList.take x.cps.size = x.cps.toList := List.take_of_length_le (by simp)
    rw [e1] at h4
    have e2 : (x.cps.toList.map fun c => V.bl (p c)) = (x.cps.toList.map p).map V.bl := by
      rw [List.map_map]
      rfl
    rw [e2] at h4
    refine ⟨D, _, rfl, .inl (.inl h4), ?_⟩
    have e3 : (x.cps.toList.map p).all id = x.cps.toList.all p := by
      rw [List.all_map]
      rfl
    rw [e3]
    exact k H4 s4
def spLet (K : PySem.W.Frag) : Sp := fun vs H Q _ => ∃ (v : V) (d : PyData), vs = [v] ∧ De K H v d ∧ (∀ x, d = .str x → x.cps.all (· < 128) = true ∧ x.cps.size ≤ 1000) ∧ ∀ H', Same H H' → Q (.bl (okLd d)) H'
def spWord (K : PySem.W.Frag) : Sp := fun vs H Q _ => ∃ (ls : Str) (v : V) (d : PyData), vs = [.str ls, v] ∧ De K H v d ∧ (∀ x, d = .str x → x.cps.size ≤ 1000) ∧ ∀ H', Same H H' → Q (.bl (okW ls d)) H'
section
variable {P : Program} {w : World} {K : PySem.W.Frag} {mg : Str → Option Value} {base : Heap} {f : Addr} {fd : FuncData}
theorem sc12 : FnScope ["letters", "letter"] ["letters"] (defScope (top 25)) := ⟨rfl, rfl, rfl, by decide +kernel, rfl, by decide +kernel, by decide +kernel⟩
theorem ok_letters (F : Fun K "is_letters" "is_letters" (top 25) f fd) (gI : mg "isinstance" = none) (gS : mg "str" = none) (gL : mg "len" = none) (gE : mg "set" = none) (gAl : mg "all" = none) {tA : Tok} (gA : mg "ALPHABET" = some (.str alpha tA)) : FnOk P w K mg base CX0 1 f fd ["letters"] (spLet K) := by
  refine F.ok sc12 (fun vs H Q E h => ?_) (fun cdv A outer s H vs Q E hr h => ?_)
  · obtain ⟨v, d, rfl, _⟩ := h
    rfl
  · obtain ⟨v, d, rfl, hd, hx, k⟩ := h
    refine ⟨_, pss_cons (ps_if (pw_or (pt_not (pt_val (pe_callB call_isi (by rfl) gI PyProof.Rows.boot_isinstance (pa_cons (pv 0) (pa_cons (pe_bltn (v := .ty "str") (by rfl) gS PyProof.Rows.boot_str rfl) pa_nil)))))
        (pw_or1 (pt_not (pt_chain op_le op_le pe_int (pe_callB call_len_str (by rfl) gL PySem.boot_len (pa_cons (pv 0) pa_nil)) (pe_callB call_len_str (by rfl) gL PySem.boot_len (pa_cons (pe_glob (v := V.str alpha) (by rfl) gA ⟨_, rfl⟩) pa_nil)))))).pt (pss_one (ps_ret pe_bl)) pss_nil)
      (pss_one (ps_ret (pe_and (pe_cmpR op_eq (pe_lenSetT rfl (by rfl) gL (by rfl) gE (pv 0)) (pe_callB call_len_str (by rfl) gL PySem.boot_len (pa_cons (pv 0) pa_nil)) (nomark _))
        (pe_one (pe_callB (cr_all rfl) (by rfl) gAl PyProof.Rows.boot_all (pa_cons (pe_lc (own := [("letter", 1)]) (g := gName 1) (tt := tYes) rfl sc12.nd (pi_str (pv 0)) (blkOk_by (N := ["letters", "letter"]) (sc := defScope (top 25)) (by decide +kernel))
          (fun _ _ _ _ _ => pg_name (i := 1) sc12.nd rfl (Or.inl rfl)) (fun _ _ _ _ _ => pts_nil) (fun _ _ _ _ _ => pe_cmpR op_in_sign (pv 1) (pe_glob (v := V.str alpha) (by rfl) gA ⟨_, rfl⟩) (by rfl))) pa_nil)))))), ?_⟩
    obtain ⟨T, tx, k1, _⟩ := ty_of hd
    refine ⟨v, rfl, v, .ty "str", .type T, .type "str", isS d, rfl, .ty _, tx, kit_ty k1, _, rfl, ?_⟩
    cases d with
    | str x =>
      cases hd
      obtain ⟨hasc, hz⟩ := hx x rfl
      have hzs : x.length ≤ sizeLine := by
        have z : (1000 : Nat) ≤ sizeLine := by decide
        exact Nat.le_trans hz z
      refine iteF ⟨V.str x, rfl, x, rfl, hzs, 2, (x.length : Int), rfl, rfl, _, rfl, ?_⟩
      have el : x.length = x.cps.size := rfl
      have fin : ∀ H', Same H H' → okLb x = false → Q (.bl false) H' := fun H' sm e => by
        have z := k H' sm
        simp only [okLd, e] at z
        exact z
      refine ite2 (fun c1 => ?_) (fun c1 => ?_)
      · have c1' : 2 ≤ x.cps.size := by
          have z := of_decide_eq_true c1
          omega
        refine ⟨alpha, rfl, (by decide +kernel), (x.length : Int), ((alpha.length : Nat) : Int), rfl, rfl, _, rfl, ?_⟩
        refine ite2 (fun c2 => ?_) (fun c2 => ?_)
        · have c2' : ¬ x.cps.size ≤ 26 := by
            intro z
            have a26 : alpha.length = 26 := by decide +kernel
            have : decide ((x.length : Int) ≤ (alpha.length : Nat)) = true := decide_eq_true (by rw [a26]; omega)
            rw [this] at c2
            exact absurd c2 (by decide)
          refine fin H (Same.refl H) ?_
          unfold okLb
          rw [decide_eq_false c2']
          simp
        · have c2' : x.cps.size ≤ 26 := by
            have a26 : alpha.length = 26 := by decide +kernel
            have z : decide ((x.length : Int) ≤ (alpha.length : Nat)) = true := by simpa using c2
            have z2 := of_decide_eq_true z
            rw [a26] at z2
            omega
          refine ⟨V.str x, rfl, x, rfl, hasc, hz, V.str x, rfl, x, rfl, hzs, rfl, _, rfl, ?_⟩
          refine ite2 (fun c3 => ?_) (fun c3 => ?_)
          · have nd : x.cps.toList.Nodup := (nub_nodup _).mp (by
              have z := of_decide_eq_true c3
              injection z with z
              have z2 : (nub x.cps.toList).length = x.length := by omega
              rw [z2, el, Array.length_toList])
            refine rd_all_text (fun c => decide (c ∈ alpha.cps.toList)) hz (fun R h => ⟨_, rfl, h⟩) (fun _ => rfl) (fun c H1 R h => ⟨_, rfl, c, alpha, rfl, rfl, h⟩) fun H1 sm => ?_
            have z := k H1 sm
            simp only [okLd, okLb, decide_eq_true c1', decide_eq_true c2', decide_eq_true nd, Bool.true_and] at z
            exact z
          · refine fin H (Same.refl H) ?_
            have nd : ¬ x.cps.toList.Nodup := fun nd => c3 (decide_eq_true (by rw [(nub_nodup _).mpr nd, Array.length_toList]; rfl))
            unfold okLb
            rw [decide_eq_false nd]
            simp
      · refine ⟨_, rfl, iteT ?_⟩
        refine fin H (Same.refl H) ?_
        have c1' : ¬ 2 ≤ x.cps.size := fun z => c1 (decide_eq_true (by omega))
        unfold okLb
        rw [decide_eq_false c1']
        simp
    | _ => exact iteT (iteT (k H (Same.refl H)))
end
end SK
namespace SK
open PySem PySem.Spec PyProof.Rows L2 LamX NdefX
open K0 (De DeAll)
mutual
theorem de_mono {K : PySem.W.Frag} {H H' : Hp} (m : ∀ b o, H b = some o → H' b = some o) : ∀ (d : PyData) (v : V), De K H v d → De K H' v d
  | .none, _, h => by
    cases h
    exact .non
  | .bool b, _, h => by
    cases h
    exact .bl b
  | .int i, _, h => by
    cases h
    exact .int i
  | .str x, _, h => by
    cases h
    exact .str x
  | .list ds, _, h => by
    cases h with
    | lst ha hd => exact .lst (m _ _ ha) (de_monoAll m ds _ hd)
  | .tuple ds, _, h => by
    cases h with
    | tup ha hd => exact .tup (m _ _ ha) (de_monoAll m ds _ hd)
  | .dict _, _, h => by
    cases h with
    | dic ha => exact .dic (m _ _ ha)
theorem de_monoAll {K : PySem.W.Frag} {H H' : Hp} (m : ∀ b o, H b = some o → H' b = some o) : ∀ (ds : List PyData) (vs : List V), DeAll K H vs ds → DeAll K H' vs ds
  | [], _, h => by
    cases h
    exact .nil
  | d :: ds, _, h => by
    cases h with
    | cons h1 h2 => exact .cons (de_mono m d _ h1) (de_monoAll m ds _ h2)
end

/-- no text in it is too long -/
def Fit (d : PyData) : Prop := ∀ ds, (d = .tuple ds ∨ d = .list ds) → ∀ x, PyData.str x ∈ ds → x.cps.size ≤ 1000
def spRow (K : PySem.W.Frag) : Sp := fun vs H Q _ => ∃ (ls : Str) (v : V) (d : PyData), vs = [.str ls, v] ∧ De K H v d ∧ Fit d ∧ ∀ H', Same H H' → Q (.bl (okR ls d)) H'
theorem deAll_len {K : PySem.W.Frag} {H : Hp} : ∀ {vs : List V} {ds : List PyData}, DeAll K H vs ds → vs.length = ds.length
  | _, _, .nil => rfl
  | _, _, .cons _ t => congrArg Nat.succ (deAll_len t)
section
variable {P : Program} {w : World} {K : PySem.W.Frag} {mg : Str → Option Value} {base : Heap} {f fW : Addr} {fd fdW : FuncData}
theorem sc14 : FnScope ["letters", "word", "letter"] ["letters", "word"] (defScope (top 27)) := ⟨rfl, rfl, rfl, by decide +kernel, rfl, by decide +kernel, by decide +kernel⟩
theorem ok_word (F : Fun K "is_word" "is_word" (top 27) f fd) (gI : mg "isinstance" = none) (gS : mg "str" = none) (gL : mg "len" = none) (gAl : mg "all" = none) {tW : Tok} (gW : mg "LONGEST_WORD" = some (.int 200 tW)) : FnOk P w K mg base CX0 1 f fd ["letters", "word"] (spWord K) := by
  refine F.ok sc14 (fun vs H Q E h => ?_) (fun cdv A outer s H vs Q E hr h => ?_)
  · obtain ⟨ls, v, d, rfl, _⟩ := h
    rfl
  · obtain ⟨ls, v, d, rfl, hd, hx, k⟩ := h
    refine ⟨_, pss_cons (ps_if (pw_or (pt_not (pt_val (pe_callB call_isi (by rfl) gI PyProof.Rows.boot_isinstance (pa_cons (pv 1) (pa_cons (pe_bltn (v := .ty "str") (by rfl) gS PyProof.Rows.boot_str rfl) pa_nil)))))
        (pw_or1 (pt_cmpR op_gt (pe_callB call_len_str (by rfl) gL PySem.boot_len (pa_cons (pv 1) pa_nil)) (pe_glob (v := V.int 200) (by rfl) gW ⟨_, rfl⟩) (nomark _)))).pt (pss_one (ps_ret pe_bl)) pss_nil)
      (pss_one (ps_ret (pe_callB (cr_all rfl) (by rfl) gAl PyProof.Rows.boot_all (pa_cons (pe_lc (own := [("letter", 2)]) (g := gName 2) (tt := tYes) rfl sc14.nd (pi_str (pv 1)) (blkOk_by (N := ["letters", "word", "letter"]) (sc := defScope (top 27)) (by decide +kernel))
          (fun _ _ _ _ _ => pg_name (i := 2) sc14.nd rfl (Or.inl rfl)) (fun _ _ _ _ _ => pts_nil) (fun _ _ _ _ _ => pe_cmpR op_in_sign (pv 2) (pv 0) (by rfl))) pa_nil)))), ?_⟩
    obtain ⟨T, tx, k1, _⟩ := ty_of hd
    refine ⟨v, rfl, v, .ty "str", .type T, .type "str", isS d, rfl, .ty _, tx, kit_ty k1, _, rfl, ?_⟩
    cases d with
    | str x =>
      cases hd
      have hz := hx x rfl
      have hzs : x.length ≤ sizeLine := by
        have z : (1000 : Nat) ≤ sizeLine := by decide
        exact Nat.le_trans hz z
      have el : x.length = x.cps.size := rfl
      refine iteF ⟨V.str x, rfl, x, rfl, hzs, (x.length : Int), 200, rfl, rfl, _, rfl, ?_⟩
      have z := k H (Same.refl H)
      refine ite2 (fun c1 => ?_) (fun c1 => ?_)
      · have c1' : ¬ x.cps.size ≤ 200 := by
          have z := of_decide_eq_true c1
          omega
        simp only [okW, decide_eq_false c1', Bool.false_and] at z
        exact z
      · have c1' : x.cps.size ≤ 200 := by
          refine Decidable.byContradiction fun z => c1 (decide_eq_true ?_)
          omega
        show tCB (rAll K) (tCons (tLc (iStr (tVar 1)) (gName 2) tYes (tOp _ (tVar 2) (tVar 0)) [2]) tNil) _ H _
        refine rd_all_text (fun c => decide (c ∈ ls.cps.toList)) hz (fun R h => ⟨_, rfl, h⟩) (fun _ => rfl) (fun c H1 R h => ⟨_, rfl, _, rfl, c, ls, rfl, rfl, h⟩) fun H1 sm => ?_
        have z := k H1 sm
        simp only [okW, decide_eq_true c1', Bool.true_and] at z
        exact z
    | _ => exact iteT (k H (Same.refl H))
theorem sc18 : FnScope ["letters", "row"] ["letters", "row"] (defScope (top 31)) := ⟨rfl, rfl, rfl, by decide +kernel, rfl, by decide +kernel, by decide +kernel⟩
theorem ok_row (F : Fun K "is_row" "is_row" (top 31) f fd) (gI : mg "isinstance" = none) (gT : mg "tuple" = none) (gLs : mg "list" = none) (gB : mg "bool" = none) (gL : mg "len" = none)
    (gW : mg "is_word" = some (.ref fW)) (kW : PySem.W.keepIn K (.ref fW) = true) (GW : FnOk P w K mg base CX0 1 fW fdW ["letters", "word"] (spWord K)) (bW : Binds K fdW ["letters", "word"] []) : FnOk P w K mg base CX0 2 f fd ["letters", "row"] (spRow K) := by
  refine F.ok sc18 (fun vs H Q E h => ?_) (fun cdv A outer s H vs Q E hr h => ?_)
  · obtain ⟨ls, v, d, rfl, _⟩ := h
    rfl
  · obtain ⟨ls, v, d, rfl, hd, hF, k⟩ := h
    refine ⟨_, pss_cons (ps_if (pw_or (pt_not (pt_val (pe_callB call_isiT (by rfl) gI PyProof.Rows.boot_isinstance (pa_cons (pv 1) (pa_cons (pe_tup (pa_cons (pe_bltn (v := .ty "tuple") (by rfl) gT PyProof.Rows.boot_tuple rfl) (pa_cons (pe_bltn (v := .ty "list") (by rfl) gLs PyProof.Rows.boot_list rfl) pa_nil))) pa_nil)))))
        (pw_or1 (pt_cmpR op_ne (pe_callB call_len_seq (by rfl) gL PySem.boot_len (pa_cons (pv 1) pa_nil)) pe_int (nomark _)))).pt (pss_one (ps_ret pe_bl)) pss_nil)
      (pss_one (ps_ret (pe_and (pe_call GW hr rfl gW kW bW .nil pass0 (pa_cons (pv 0) (pa_cons (pe_ix ix_seq (pv 1) pe_int (fun _ _ => rfl)) pa_nil)))
        (pe_and (pe_callB call_isi (by rfl) gI PyProof.Rows.boot_isinstance (pa_cons (pe_ix ix_seq (pv 1) pe_int (fun _ _ => rfl)) (pa_cons (pe_bltn (v := .ty "bool") (by rfl) gB PyProof.Rows.boot_bool rfl) pa_nil)))
          (pe_one (pe_callB call_isi (by rfl) gI PyProof.Rows.boot_isinstance (pa_cons (pe_ix ix_seq (pv 1) pe_int (fun _ _ => rfl)) (pa_cons (pe_bltn (v := .ty "bool") (by rfl) gB PyProof.Rows.boot_bool rfl) pa_nil)))))))), ?_⟩
    refine ⟨v, rfl, (by show 2 ≤ sizeLine; decide), fun tp hp => ?_⟩
    have s1 := upd_new (o := .tup [.ty "tuple", .ty "list"]) hp
    have t1 : upd H tp (.tup [.ty "tuple", .ty "list"]) tp = some (.tup [.ty "tuple", .ty "list"]) := upd_same
    generalize upd H tp (.tup [.ty "tuple", .ty "list"]) = H1 at s1 t1
    have hd1 := de_mono s1 d v hd
    obtain ⟨T, tx, _, _, b1, b2, k1, k2, kk⟩ := ty_of hd1
    refine ⟨v, tp, [.ty "tuple", .ty "list"], .type T, [.type "tuple", .type "list"], isTL d, rfl, t1, .cons (.ty _) (.cons (.ty _) .nil), tx, (by rw [← kk]; exact kit_two k1 k2), _, rfl, ?_⟩
    have shape : (isTL d = false ∧ okR ls d = false) ∨ ∃ (p : Addr) (vs : List V) (ds : List PyData), v = .ref p ∧ DeAll K H1 vs ds ∧ (SqL K H1 p vs ∨ SqT K H1 p vs) ∧
        (∀ H2, Same H1 H2 → ∀ (j : Nat) (x : V), vs[j]? = some x → ∀ R : VK, R x H2 → rIx K (.ref p) (.int (j : Int)) H2 R) ∧ isTL d = true ∧ okR ls d = okR3 ls ds ∧ ∀ x, PyData.str x ∈ ds → x.cps.size ≤ 1000 := by
      cases hd1 with
      | @lst a vs ds ha hds => exact .inr ⟨a, vs, ds, rfl, hds, .inl (.inl (.inl ha)), fun H2 s2 j x hx R q => .inl ⟨a, vs, _, x, rfl, rfl, .inl (.inl (s2 _ _ ha)), atI_nat hx, q⟩, rfl, rfl, hF ds (.inr rfl)⟩
      | @tup a vs ds ha hds => exact .inr ⟨a, vs, ds, rfl, hds, .inr (.inl (.inl ha)), fun H2 s2 j x hx R q => .inr (.inl ⟨a, vs, _, x, rfl, rfl, .inl (.inl (s2 _ _ ha)), atI_nat hx, q⟩), rfl, rfl, hF ds (.inl rfl)⟩
      | _ => exact .inl ⟨rfl, rfl⟩
    rcases shape with ⟨e1, e2⟩ | ⟨p, vs, ds, rfl, hda, hsq, hix, e1, e2, hfit⟩
    · rw [e1]
      refine iteT (iteT ?_)
      have z := k H1 s1
      rw [e2] at z
      exact z
    rw [e1]
    have hl := deAll_len hda
    refine iteF ⟨V.ref p, rfl, p, vs, rfl, hsq, rfl, _, rfl, ?_⟩
    have no : ∀ H2, Same H1 H2 → okR3 ls ds = false → Q (.bl false) H2 := fun H2 s2 e => by
      have z := k H2 (s1.trans s2)
      rw [e2, e] at z
      exact z
    refine ite2 (fun c1 => ?_) (fun c1 => ?_)
    · refine no H1 (Same.refl H1) ?_
      have n3 : ds.length ≠ 3 := fun z => by
        have z2 : decide (V.int (vs.length : Nat) = V.int 3) = true := decide_eq_true (by rw [hl, z]; rfl)
        rw [z2] at c1
        exact absurd c1 (by decide)
      match ds, n3 with
      | [], _ => rfl
      | [_], _ => rfl
      | [_, _], _ => rfl
      | [_, _, _], n => exact absurd rfl n
      | _ :: _ :: _ :: _ :: _, _ => rfl
    · have l3 : vs.length = 3 := by
        have z : decide (V.int (vs.length : Nat) = V.int 3) = true := by simpa using c1
        have z2 := of_decide_eq_true z
        injection z2 with z2
        omega
      cases hda with
      | nil => cases l3
      | @cons v0 vs d0 ds h0 t0 =>
        cases t0 with
        | nil => cases l3
        | @cons v1 vs d1 ds h1 t1 =>
          cases t1 with
          | nil => cases l3
          | @cons v2 vs d2 ds h2 t2 =>
            cases t2 with
            | cons _ _ => simp at l3
            | nil =>
              refine ⟨V.str ls, rfl, V.ref p, rfl, hix H1 (Same.refl H1) 0 v0 rfl _ ⟨ls, v0, d0, rfl, h0, fun x e => hfit x (by rw [e]; simp), fun H2 s2 => ⟨okW ls d0, rfl, ?_⟩⟩⟩
              refine ite2 (fun a0 => ?_) (fun a0 => no H2 s2 (by simp only [okR3, Bool.not_eq_true] at a0 ⊢; rw [a0]; rfl))
              obtain ⟨T1, tx1, _, kb1, _⟩ := ty_of (de_mono s2 d1 v1 h1)
              refine ⟨V.ref p, rfl, hix H2 s2 1 v1 rfl _ ⟨v1, .ty "bool", .type T1, .type "bool", isB d1, rfl, .ty _, tx1, kit_ty kb1, _, rfl, ?_⟩⟩
              refine ite2 (fun a1 => ?_) (fun a1 => no H2 s2 (by simp only [okR3, Bool.not_eq_true] at a1 ⊢; rw [a1]; simp))
              obtain ⟨T2, tx2, _, kb2, _⟩ := ty_of (de_mono s2 d2 v2 h2)
              refine ⟨V.ref p, rfl, hix H2 s2 2 v2 rfl _ ⟨v2, .ty "bool", .type T2, .type "bool", isB d2, rfl, .ty _, tx2, kit_ty kb2, ?_⟩⟩
              have z := k H2 (s1.trans s2)
              rw [e2] at z
              simp only [okR3, a0, a1, Bool.true_and] at z
              exact z
end
end SK
namespace SK
open PySem PySem.Spec PyProof.Rows L2 LamX NdefX
open K0 (De DeAll XCl spX withX)
/-- what is told of an own exception class, by its name -/
structure XR (P : Program) (w : World) (K : PySem.W.Frag) (mg : Str → Option Value) (base : Heap) (x : Str) (C : Addr) (fs : List Str) : Prop where
  cl : XCl K C
  gC : mg x = some (.ref C)
  no : ∀ n ∈ fs, PySem.W.findIn K (.ref C) n = some none
  ini : ∃ f fd, PySem.W.findIn K (.ref C) "__init__" = some (some (.ref f)) ∧ PySem.W.typeIn K (.ref f) = some (.type "function") ∧ FnOk P w K mg base CX0 1 f fd (("self" : Str) :: fs) (spX C fs) ∧ Binds K fd (("self" : Str) :: fs) []
theorem withX_at {H : Hp} {a dx C : Addr} {gs : List (Str × V)} : withX H C a dx gs a = some (exo a C (some dx)) := upd_same
theorem withX_dx {H : Hp} {a dx C : Addr} {gs : List (Str × V)} (ne : dx ≠ a) : withX H C a dx gs dx = some (exd dx gs) := (upd_ne ne).trans upd_same
/-- the making of such an exception, read behind its arguments -/
theorem rd_mk {C : Addr} {fs : List Str} {vs : List V} {H1 : Hp} {Q : XK} (hl : vs.length = fs.length) (hz : vs.length ≤ 1000) (k : ∀ (d : Addr) (H' : Hp), Same H1 H' → H1 d = none → H' d = some (.xd (fs.zip vs).reverse) → Q (.ref C) (some d) H') :
    vs.length ≤ 1000 ∧ ∀ a, H1 a = none → spX C fs (.ref a :: (vs ++ [])) (upd H1 a (exo a C none))
      (fun v H2 => v = .non ∧ ∃ (d : Addr) (gs : List (Str × V)), H2 a = some (exo a C (some d)) ∧ H2 d = some (exd d gs) ∧ H1 d = none ∧ Q (.ref C) (some d) (upd (del H2 a) d (.xd gs))) (fun _ _ _ => False) := by
  refine ⟨hz, fun a na => ⟨a, vs ++ [], rfl, by rw [List.append_nil]; exact hl, upd_same, fun dx nd ne => ?_⟩⟩
  rw [upd_ne ne] at nd
  refine ⟨rfl, dx, _, withX_at, withX_dx ne, nd, k dx _ (fun b o e => ?_) nd ?_⟩
  · have n1 : b ≠ a := ne_of_none e na
    have n2 : b ≠ dx := ne_of_none e nd
    rw [upd_ne n2, del_ne n1]
    show upd (upd (upd H1 a _) dx _) a _ b = some o
    rw [upd_ne n1, upd_ne n2, upd_ne n1]
    exact e
  · rw [List.append_nil]
    exact upd_same
/-- what is wanted of an exception of the class C with the fields gs -/
def Thrown (E : XK) (C : Addr) (H : Hp) (gs : List (Str × V)) : Prop := ∀ (H' : Hp) (d : Addr), Same H H' → H d = none → H' d = some (.xd gs) → E (.ref C) (some d) H'
def spCheckL (K : PySem.W.Frag) (C : Addr) : Sp := fun vs H Q E => ∃ (v : V) (d : PyData), vs = [v] ∧ De K H v d ∧ (∀ x, d = .str x → x.cps.all (· < 128) = true ∧ x.cps.size ≤ 1000) ∧ (okLd d = true → ∀ H', Same H H' → Q .non H') ∧ (okLd d = false → Thrown E C H [("letters", v)])
def spCheckP (C : Addr) : Sp := fun vs H Q E => ∃ n : Nat, vs = [.int n] ∧ (1 ≤ n ∧ n ≤ 2000 → Q .non H) ∧ (¬ (1 ≤ n ∧ n ≤ 2000) → Thrown E C H [("most", .int 2000), ("many", .int n), ("what", .str "places")])
theorem Thrown.mono {E : XK} {C : Addr} {H H1 : Hp} {gs : List (Str × V)} (t : Thrown E C H gs) (s : Same H H1) : Thrown E C H1 gs := fun H' d s' n e => t H' d (s.trans s') (s.free n) e
section
variable {P : Program} {w : World} {K : PySem.W.Frag} {mg : Str → Option Value} {base : Heap} {f fL C : Addr} {fd fdL : FuncData}
theorem sc13 : FnScope ["letters"] ["letters"] (defScope (top 26)) := ⟨rfl, rfl, rfl, by decide +kernel, rfl, by decide +kernel, by decide +kernel⟩
theorem ok_checkL (F : Fun K "check_letters" "check_letters" (top 26) f fd) (D : XR P w K mg base "BadLetters" C ["letters"]) (gL : mg "is_letters" = some (.ref fL)) (kL : PySem.W.keepIn K (.ref fL) = true) (GL : FnOk P w K mg base CX0 1 fL fdL ["letters"] (spLet K)) (bL : Binds K fdL ["letters"] []) :
    FnOk P w K mg base (L2.CX P w) 3 f fd ["letters"] (spCheckL K C) := by
  refine F.okX sc13 (fun vs H Q E h => ?_) (fun cdv A outer s H vs Q E hr h => ?_)
  · obtain ⟨v, d, rfl, _⟩ := h
    rfl
  · obtain ⟨v, d, rfl, hd, hx, k1, k2⟩ := h
    obtain ⟨fi, fdi, iC, tI, F1, b1⟩ := D.ini
    refine ⟨_, pss_one (ps_if (pt_not (pt_val (pe_call GL (hr.mono (by decide)) rfl gL kL bL .nil pass0 (pa_cons (pv 0) pa_nil)))) (pss_one (ps_raise rfl (takes_of rfl rfl rfl rfl) (pmk_oex D.cl.T iC tI F1 hr b1 .nil pass0 (by rfl) D.gC (pa_cons (pv 0) pa_nil)))) pss_nil), ?_⟩
    refine ⟨v, rfl, v, d, rfl, hd, hx, fun H1 s1 => ⟨_, rfl, ?_⟩⟩
    cases e : okLd d with
    | true => exact iteF (k1 e H1 s1)
    | false => exact iteT ⟨v, rfl, rd_mk rfl (by show 1 ≤ 1000; decide) fun dx H' s' n q => (k2 e).mono s1 H' dx s' n q⟩
theorem sc16 : FnScope ["many"] ["many"] (defScope (top 29)) := ⟨rfl, rfl, rfl, by decide +kernel, rfl, by decide +kernel, by decide +kernel⟩
theorem ok_checkP (F : Fun K "check_places" "check_places" (top 29) f fd) (D : XR P w K mg base "TooMany" C ["what", "many", "most"]) {tM : Tok} (gM : mg "MOST_PLACES" = some (.int 2000 tM)) : FnOk P w K mg base (L2.CX P w) 3 f fd ["many"] (spCheckP C) := by
  refine F.okX sc16 (fun vs H Q E h => ?_) (fun cdv A outer s H vs Q E hr h => ?_)
  · obtain ⟨n, rfl, _⟩ := h
    rfl
  · obtain ⟨n, rfl, k1, k2⟩ := h
    obtain ⟨fi, fdi, iC, tI, F1, b1⟩ := D.ini
    refine ⟨_, pss_one (ps_if (pt_not (pt_chain op_le op_le pe_int (pv 0) (pe_glob (v := V.int 2000) (by rfl) gM ⟨_, rfl⟩))) (pss_one (ps_raise rfl (takes_of rfl rfl rfl rfl) (pmk_oex D.cl.T iC tI F1 hr b1 .nil pass0 (by rfl) D.gC (pa_cons pe_str (pa_cons (pv 0) (pa_cons (pe_glob (v := V.int 2000) (by rfl) gM ⟨_, rfl⟩) pa_nil)))))) pss_nil), ?_⟩
    refine ⟨V.int n, rfl, 1, (n : Int), rfl, rfl, _, rfl, ?_⟩
    have thr : ¬ (1 ≤ n ∧ n ≤ 2000) → tCons (tC (.str "places")) (tCons (tVar 0) (tCons (tC (.int 2000)) tNil)) (start ["many"] [V.int n]) H fun vs H1 => vs.length ≤ 1000 ∧ ∀ a, H1 a = none → spX C ["what", "many", "most"] (.ref a :: (vs ++ [])) (upd H1 a (exo a C none))
        (fun v H2 => v = .non ∧ ∃ (d : Addr) (gs : List (Str × V)), H2 a = some (exo a C (some d)) ∧ H2 d = some (exd d gs) ∧ H1 d = none ∧ E (.ref C) (some d) (upd (del H2 a) d (.xd gs))) (fun _ _ _ => False) :=
      fun no => ⟨V.int n, rfl, rd_mk rfl (by show 3 ≤ 1000; decide) fun dx H' s' n' q => k2 no H' dx s' n' q⟩
    refine ite2 (fun c1 => ?_) (fun c1 => ?_)
    · have c1' := of_decide_eq_true c1
      refine ⟨(n : Int), 2000, rfl, rfl, _, rfl, ?_⟩
      by_cases c2 : (n : Int) ≤ 2000
      · rw [decide_eq_true c2]
        exact iteF (k1 ⟨by omega, by omega⟩)
      · rw [decide_eq_false c2]
        exact iteT (thr (by omega))
    · refine ⟨_, rfl, iteT (thr fun z => c1 (decide_eq_true (by omega)))⟩
end
end SK
namespace SK
open PySem PySem.Spec PyProof.Rows L2 LamX NdefX
open K0 (De DeAll XCl spX withX)
/-! ### rows into a table -/
def elems : PyData → List PyData
  | .tuple ds => ds
  | .list ds => ds
  | _ => []
def placeOf (d : PyData) : Str := match elems d with
  | .str x :: _ => x
  | _ => Str.empty
/-- the number of the first row that is none, or whose place stands before -/
def scan (ls : Str) : List Str → Nat → List PyData → Option Nat
  | _, _, [] => none
  | seen, i, d :: r => if okR ls d = true ∧ placeOf d ∉ seen then scan ls (seen ++ [placeOf d]) (i + 1) r else some i
theorem okR_elems {ls : Str} {d : PyData} (h : okR ls d = true) : ∃ (x : Str) (b c : PyData), elems d = [.str x, b, c] ∧ isTL d = true ∧ placeOf d = x ∧ x.cps.size ≤ 200 ∧ (∀ c ∈ x.cps.toList, c ∈ ls.cps.toList) := by
  have three : ∀ ds, okR3 ls ds = true → ∃ (x : Str) (b c : PyData), ds = [.str x, b, c] ∧ x.cps.size ≤ 200 ∧ (∀ c ∈ x.cps.toList, c ∈ ls.cps.toList) := fun ds h => by
    match ds, h with
    | [a, b, c], h =>
      simp only [okR3, Bool.and_eq_true] at h
      have h1 := h.1
      match a, h1 with
      | .str x, h1 =>
        simp only [okW, Bool.and_eq_true, decide_eq_true_eq, List.all_eq_true] at h1
        exact ⟨x, b, c, rfl, h1.1, h1.2⟩
  match d, h with
  | .tuple ds, h =>
    obtain ⟨x, b, c, rfl, h1, h2⟩ := three ds h
    exact ⟨x, b, c, rfl, rfl, rfl, h1, h2⟩
  | .list ds, h =>
    obtain ⟨x, b, c, rfl, h1, h2⟩ := three ds h
    exact ⟨x, b, c, rfl, rfl, rfl, h1, h2⟩
/-- the table of the rows ds -/
def TabOk (K : PySem.W.Frag) (G : Hp) (kvs : List (Key × V)) (ds : List PyData) : Prop := kvs.map Prod.fst = ds.map (fun d => (Sum.inr (placeOf d) : Key)) ∧ ∀ (i : Nat) (d : PyData), ds[i]? = some d → ∃ v, kvs[i]? = some (Sum.inr (placeOf d), v) ∧ De K G v (.tuple (elems d))
theorem TabOk.nil {K : PySem.W.Frag} {G : Hp} : TabOk K G [] [] := ⟨rfl, fun i d h => by simp at h⟩
theorem TabOk.mono {K : PySem.W.Frag} {G G' : Hp} {kvs : List (Key × V)} {ds : List PyData} (t : TabOk K G kvs ds) (s : Same G G') : TabOk K G' kvs ds := ⟨t.1, fun i d h => by
  obtain ⟨v, h1, h2⟩ := t.2 i d h
  exact ⟨v, h1, de_mono s _ _ h2⟩⟩
theorem TabOk.snoc {K : PySem.W.Frag} {G : Hp} {kvs : List (Key × V)} {ds : List PyData} {d : PyData} {v : V} (t : TabOk K G kvs ds) (h : De K G v (.tuple (elems d))) : TabOk K G (kvs ++ [(.inr (placeOf d), v)]) (ds ++ [d]) := by
  have hl : kvs.length = ds.length := by
    have z := congrArg List.length t.1
    simpa using z
  refine ⟨by rw [List.map_append, List.map_append, t.1]; rfl, fun i e he => ?_⟩
  by_cases hi : i < ds.length
  · rw [List.getElem?_append_left hi] at he
    obtain ⟨u, h1, h2⟩ := t.2 i e he
    exact ⟨u, by rw [List.getElem?_append_left (by omega)]; exact h1, h2⟩
  · rw [List.getElem?_append_right (by omega)] at he
    have hi2 : i = ds.length := by
      have z := (List.getElem?_eq_some_iff.mp he).1
      simp at z
      omega
    subst hi2
    simp at he
    subst he
    exact ⟨v, by rw [List.getElem?_append_right (by omega), hl]; simp, h⟩
theorem TabOk.has {K : PySem.W.Frag} {G : Hp} {kvs : List (Key × V)} {ds : List PyData} (t : TabOk K G kvs ds) (x : Str) : (valV kvs (.inr x)).isSome = decide (x ∈ ds.map placeOf) := by
  rw [← valV_any]
  have e : (kvs.any fun kv => decide (kv.1 = (.inr x : Key))) = (kvs.map (·.1)).any fun k => decide (k = (.inr x : Key)) := by
    rw [List.any_map]
    rfl
  rw [e, t.1, List.any_map]
  by_cases h : x ∈ ds.map placeOf
  · rw [decide_eq_true h]
    obtain ⟨d, hd, rfl⟩ := List.mem_map.mp h
    exact List.any_eq_true.mpr ⟨d, hd, by simp⟩
  · rw [decide_eq_false h, List.any_eq_false]
    intro d hd
    simp only [Function.comp, decide_eq_true_eq]
    intro z
    injection z with z
    exact h (List.mem_map.mpr ⟨d, hd, z⟩)
def Rows (H : Hp) (a : Addr) (xs : List V) : Prop := H a = some (.lst xs) ∨ H a = some (.tup xs)
def spTable (K : PySem.W.Frag) (C : Addr) : Sp := fun vs H Q E => ∃ (ls : Str) (a : Addr) (xs : List V) (ds : List PyData), vs = [.str ls, .ref a] ∧ Rows H a xs ∧ DeAll K H xs ds ∧ (∀ d ∈ ds, Fit d) ∧ xs.length ≤ 5000 ∧
  (scan ls [] 0 ds = none → ∀ (H' : Hp) (T : Addr) (kvs : List (Key × V)), Same H H' → H T = none → H' T = some (.dK kvs) → TabOk K H' kvs ds → Q (.ref T) H') ∧ (∀ i, scan ls [] 0 ds = some i → Thrown E C H [("number", .int (i : Nat))])
theorem deAll_at {K : PySem.W.Frag} {H : Hp} : ∀ {xs : List V} {ds : List PyData}, DeAll K H xs ds → ∀ {i : Nat} {x : V}, xs[i]? = some x → ∃ d, ds[i]? = some d ∧ De K H x d
  | _, _, .nil, i, x, h => by simp at h
  | _, _, .cons h1 t, 0, x, h => by
    simp at h
    subst h
    exact ⟨_, rfl, h1⟩
  | _, _, .cons h1 t, i + 1, x, h => deAll_at t (by simpa using h)
/-- how far the loop has come -/
structure TLoop (K : PySem.W.Frag) (ls : Str) (a T : Addr) (H : Hp) (xs : List V) (ds : List PyData) (i : Nat) (σ : St) (H1 : Hp) : Prop where
  sl : ∃ x3 x4, σ = [some (.str ls), some (.ref a), some (.ref T), x3, x4]
  hp : ∃ (G : Hp) (kvs : List (Key × V)), Same H G ∧ G T = none ∧ Same G H1 ∧ H1 T = some (.dK kvs) ∧ TabOk K G kvs (ds.take i)
  sc : scan ls [] 0 ds = scan ls ((ds.take i).map placeOf) i (ds.drop i)
section
variable {P : Program} {w : World} {K : PySem.W.Frag} {mg : Str → Option Value} {base : Heap} {f fR C : Addr} {fd fdR : FuncData}
theorem sc19 : FnScope ["letters", "rows", "table", "number", "row"] ["letters", "rows"] (defScope (top 32)) := ⟨rfl, rfl, rfl, by decide +kernel, rfl, by decide +kernel, by decide +kernel⟩
theorem ok_table (F : Fun K "table_of" "table_of" (top 32) f fd) (D : XR P w K mg base "BadRow" C ["number"]) (gE : mg "enumerate" = none) (gT : mg "tuple" = none) (gR : mg "is_row" = some (.ref fR)) (kR : PySem.W.keepIn K (.ref fR) = true)
    (GR : FnOk P w K mg base CX0 2 fR fdR ["letters", "row"] (spRow K)) (bR : Binds K fdR ["letters", "row"] []) : FnOk P w K mg base (L2.CX P w) 3 f fd ["letters", "rows"] (spTable K C) := by
  refine F.okX sc19 (fun vs H Q E h => ?_) (fun cdv A outer s H vs Q E hr h => ?_)
  · obtain ⟨ls, a, xs, ds, rfl, _⟩ := h
    rfl
  · obtain ⟨ls, a, xs, ds, rfl, hrows, hda, hfit, hz, k1, k2⟩ := h
    obtain ⟨fi, fdi, iC, tI, F1, b1⟩ := D.ini
    have hu := hu_of hr
    have hlen := deAll_len hda
    rcases hrows with ha | ha
    · refine ⟨_, pss_cons (ps_set (i := 2) sc19.nd rfl (Or.inl rfl) pe_dnewK) (pss_cons (ps_for (passes_of rfl) rfl (pi_enum (by rfl) gE (pa_cons (pv 1) pa_nil)) (pg_tup rfl (pgs_cons (pg_name (i := 3) sc19.nd rfl (Or.inl rfl)) (pgs_cons (pg_name (i := 4) sc19.nd rfl (Or.inl rfl)) pgs_nil)))
        (pss_cons (ps_if (pw_or (pt_not (pt_val (pe_call GR hr (by rfl) gR kR bR .nil pass0 (pa_cons (pv 0) (pa_cons (pv 4) pa_nil))))) (pw_or1 (pt_cmp (pc_din hu (pe_ix ix_seq (pv 4) pe_int (fun _ _ => rfl)) (pv 2))))).pt
            (pss_one (ps_raise rfl (takes_of rfl rfl rfl rfl) (pmk_oex D.cl.T iC tI F1 hr b1 .nil pass0 (by rfl) D.gC (pa_cons (pv 3) pa_nil)))) pss_nil)
          (pss_one (ps_dput hu (pv 2) (pe_ix ix_seq (pv 4) pe_int (fun _ _ => rfl)) (pe_callTy call_tuple_of (by rfl) gT PyProof.Rows.boot_tuple (pa_cons (pv 4) pa_nil)) rfl))))
        (pss_one (ps_ret (pv 2)))), ?_⟩
      refine fun T nT => ⟨V.ref a, rfl, a, xs, rfl, .inl (.inl (upd_new nT _ _ ha)), for_it (walk_enum (K := K) (xs := xs)) (TLoop K ls a T H xs ds) ?st (fun i σ H1 _ q => ?go) ?tn ?en⟩
      case st => exact ⟨⟨none, none, rfl⟩, ⟨H, [], Same.refl H, nT, upd_new nT, upd_same, TabOk.nil⟩, rfl⟩
      case go =>
        obtain ⟨G, kvs, s1, n1, s2, _, _⟩ := q.hp
        exact .inl (.inl (s2 _ _ (s1 _ _ ha)))
      case en =>
        rintro σ H1 ⟨⟨x3, x4, rfl⟩, ⟨G, kvs, s1, n1, s2, hT, tb⟩, hsc⟩
        rw [hlen, List.take_length] at tb
        rw [hlen, List.drop_length, List.take_length] at hsc
        exact ⟨V.ref T, rfl, k1 hsc H1 T kvs (s1.trans s2) nT hT (tb.mono s2)⟩
      case tn =>
        rintro i x σ H1 H2 hi ⟨⟨x3, x4, rfl⟩, ⟨G, kvs, s1, n1, s2, hT, tb⟩, hsc⟩ ⟨T1, x1, y1, rfl, nT1, rfl, ex, ey⟩
        obtain rfl : V.int (i : Nat) = x1 := Option.some.inj ex
        obtain ⟨d, hdi, hd⟩ := deAll_at hda ey
        have s3 : Same H1 (upd H1 T1 (.tup [.int (i : Nat), y1])) := upd_new nT1
        refine ⟨T1, _, rfl, .inl (.inl upd_same), rfl, _, _, rfl, _, _, rfl, rfl, ?_⟩
        generalize upd H1 T1 (.tup [.int (i : Nat), y1]) = H2 at s3
        have hd2 : De K H2 y1 d := de_mono ((s1.trans s2).trans s3) d y1 hd
        refine ⟨V.str ls, rfl, y1, rfl, ls, y1, d, rfl, hd2, hfit d (List.mem_of_getElem? hdi), fun H3 s4 => ⟨okR ls d, rfl, ?_⟩⟩
        have s13 := (s1.trans s2).trans (s3.trans s4)
        have hil : i < ds.length := by omega
        have ed : ds.drop i = d :: ds.drop (i + 1) := by
          have z := List.drop_eq_getElem_cons hil
          have e2 : ds[i] = d := by
            rw [List.getElem?_eq_getElem hil] at hdi
            exact Option.some.inj hdi
          rw [z, e2]
        have et : ds.take (i + 1) = ds.take i ++ [d] := by
          rw [List.take_add_one, hdi]
          rfl
        rw [ed] at hsc
        have thr : ¬ (okR ls d = true ∧ placeOf d ∉ (ds.take i).map placeOf) → ∀ H4, Same H H4 → Thrown E C H4 [("number", .int (i : Nat))] := fun no H4 s5 => by
          have z : scan ls [] 0 ds = some i := by
            rw [hsc]
            show (if okR ls d = true ∧ placeOf d ∉ (ds.take i).map placeOf then _ else _) = _
            rw [if_neg no]
          exact (k2 i z).mono s5
        cases eR : okR ls d with
        | false => exact iteT (iteT ⟨V.int (i : Nat), rfl, rd_mk rfl (by show 1 ≤ 1000; decide) fun dx H' s' n q => thr (fun z => by rw [eR] at z; exact absurd z.1 (by decide)) H3 s13 H' dx s' n q⟩)
        | true =>
        obtain ⟨px, pb, pc, he, hTL, hpl, hp1, hp2⟩ := okR_elems eR
        have hT3 : H3 T = some (.dK kvs) := s4 _ _ (s3 _ _ hT)
        have hd3 : De K H3 y1 d := de_mono s4 d y1 hd2
        have hdG : De K G y1 d := de_mono s1 d y1 hd
        -- the row as a tuple or a list
        obtain ⟨p, v0, vr, rfl, hG, hsq, hix⟩ : ∃ (p : Addr) (v0 : V) (vr : List V), y1 = .ref p ∧ DeAll K G (v0 :: vr) (elems d) ∧ (G p = some (.lst (v0 :: vr)) ∨ (G p = some (.tup (v0 :: vr)) ∧ De K G (.ref p) (.tuple (elems d)))) ∧
            ∀ H5, Same G H5 → ∀ R : VK, R v0 H5 → rIx K (.ref p) (.int 0) H5 R := by
          cases hdG with
          | @lst a1 vs ds1 ha1 hds =>
            have he' : ds1 = [.str px, pb, pc] := he
            subst he'
            cases hds with
            | @cons v0 vr _ _ h0 t0 => exact ⟨a1, v0, vr, rfl, .cons h0 t0, .inl ha1, fun H5 s5 R q => .inl ⟨a1, _, 0, v0, rfl, rfl, .inl (.inl (s5 _ _ ha1)), atI_nat (j := 0) rfl, q⟩⟩
          | @tup a1 vs ds1 ha1 hds =>
            have he' : ds1 = [.str px, pb, pc] := he
            subst he'
            cases hds with
            | @cons v0 vr _ _ h0 t0 => exact ⟨a1, v0, vr, rfl, .cons h0 t0, .inr ⟨ha1, .tup ha1 (.cons h0 t0)⟩, fun H5 s5 R q => .inr (.inl ⟨a1, _, 0, v0, rfl, rfl, .inl (.inl (s5 _ _ ha1)), atI_nat (j := 0) rfl, q⟩)⟩
          | _ => cases hTL
        have hv0 : v0 = .str (placeOf d) := by
          rw [he] at hG
          cases hG with
          | cons h0 _ =>
            cases h0
            rw [hpl]
        subst hv0
        have sG3 : Same G H3 := s2.trans (s3.trans s4)
        have hget : DGet H3 T (.str (placeOf d)) (valV kvs (.inr (placeOf d))) := DGet.k (k := (.inr (placeOf d) : Key)) hT3
        refine iteF ⟨V.ref p, rfl, hix H3 sG3 _ ⟨V.ref T, rfl, T, _, rfl, hget, _, rfl, ?_⟩⟩
        rw [tb.has]
        refine ite2 (fun c1 => ?_) (fun c1 => ?_)
        · have hm := of_decide_eq_true c1
          exact ⟨V.int (i : Nat), rfl, rd_mk rfl (by show 1 ≤ 1000; decide) fun dx H' s' n q => thr (fun z => z.2 hm) H3 s13 H' dx s' n q⟩
        · have hm : placeOf d ∉ (ds.take i).map placeOf := fun z => c1 (decide_eq_true z)
          have hsc2 : scan ls [] 0 ds = scan ls ((ds.take (i + 1)).map placeOf) (i + 1) (ds.drop (i + 1)) := by
            rw [hsc, et, List.map_append]
            show (if okR ls d = true ∧ placeOf d ∉ (ds.take i).map placeOf then _ else _) = _
            rw [if_pos ⟨eR, hm⟩]
            rfl
          have hnone : valV kvs (.inr (placeOf d)) = none := by
            have z := tb.has (placeOf d)
            rw [decide_eq_false hm] at z
            cases q : valV kvs (.inr (placeOf d)) with
            | none => rfl
            | some v =>
              rw [q] at z
              cases z
          have hkl : kvs.length < sizeLine := by
            have z := congrArg List.length tb.1
            rw [List.length_map, List.length_map, List.length_take] at z
            have z2 : (5000 : Nat) < sizeLine := by decide
            omega
          -- behind the store
          have fin : ∀ (tv : V) (G2 H4 : Hp), Same G G2 → G2 T = none → Same G2 H4 → H4 T = some (.dK kvs) → De K G2 tv (.tuple (elems d)) → TLoop K ls a T H xs ds (i + 1) [some (.str ls), some (.ref a), some (.ref T), some (.int (i : Nat)), some (.ref p)] (upd H4 T (.dK (putK kvs (.inr (placeOf d)) tv))) := fun tv G2 H4 g1 g2 g3 g4 g5 => by
            refine ⟨⟨_, _, rfl⟩, ⟨G2, kvs ++ [(.inr (placeOf d), tv)], s1.trans g1, g2, fun b o e => ?_, ?_, ?_⟩, hsc2⟩
            · rw [upd_ne (ne_of_none e g2)]
              exact g3 _ _ e
            · rw [putK_new tv hnone]
              exact upd_same
            · rw [et]
              exact (tb.mono g1).snoc g5
          rcases hsq with hl | ⟨ht, htd⟩
          · refine ⟨V.ref p, rfl, p, _, rfl, .inl ⟨.inl (.inl (sG3 _ _ hl)), fun l nl => ?_⟩⟩
            have gl : G l = none := sG3.free nl
            have nTl : T ≠ l := fun z => by
              rw [← z, hT3] at nl
              cases nl
            refine ⟨V.ref T, rfl, V.ref p, rfl, hix _ (sG3.trans (upd_new nl)) _ ⟨T, _, rfl, DPut.k (k := (.inr (placeOf d) : Key)) ((upd_ne nTl).trans hT3) hkl, ?_⟩⟩
            refine fin (.ref l) (upd G l (.tup _)) (upd H3 l (.tup _)) (upd_new gl) ((upd_ne nTl).trans n1) (fun b o e => ?_) ((upd_ne nTl).trans hT3) (.tup upd_same (de_monoAll (upd_new gl) _ _ hG))
            by_cases hb : b = l
            · subst hb
              rw [upd_same] at e ⊢
              exact e
            · rw [upd_ne hb] at e ⊢
              exact sG3 _ _ e
          · refine ⟨V.ref p, rfl, p, _, rfl, .inr ⟨.inl (.inl (sG3 _ _ ht)), ?_⟩⟩
            refine ⟨V.ref T, rfl, V.ref p, rfl, hix _ sG3 _ ⟨T, _, rfl, DPut.k (k := (.inr (placeOf d) : Key)) hT3 hkl, ?_⟩⟩
            exact fin (.ref p) G H3 (Same.refl G) n1 sG3 hT3 htd
    · refine ⟨_, pss_cons (ps_set (i := 2) sc19.nd rfl (Or.inl rfl) pe_dnewK) (pss_cons (ps_for (passes_of rfl) rfl (pi_enumT (by rfl) gE (pa_cons (pv 1) pa_nil)) (pg_tup rfl (pgs_cons (pg_name (i := 3) sc19.nd rfl (Or.inl rfl)) (pgs_cons (pg_name (i := 4) sc19.nd rfl (Or.inl rfl)) pgs_nil)))
        (pss_cons (ps_if (pw_or (pt_not (pt_val (pe_call GR hr (by rfl) gR kR bR .nil pass0 (pa_cons (pv 0) (pa_cons (pv 4) pa_nil))))) (pw_or1 (pt_cmp (pc_din hu (pe_ix ix_seq (pv 4) pe_int (fun _ _ => rfl)) (pv 2))))).pt
            (pss_one (ps_raise rfl (takes_of rfl rfl rfl rfl) (pmk_oex D.cl.T iC tI F1 hr b1 .nil pass0 (by rfl) D.gC (pa_cons (pv 3) pa_nil)))) pss_nil)
          (pss_one (ps_dput hu (pv 2) (pe_ix ix_seq (pv 4) pe_int (fun _ _ => rfl)) (pe_callTy call_tuple_of (by rfl) gT PyProof.Rows.boot_tuple (pa_cons (pv 4) pa_nil)) rfl))))
        (pss_one (ps_ret (pv 2)))), ?_⟩
      refine fun T nT => ⟨V.ref a, rfl, a, xs, rfl, upd_new nT _ _ ha, for_it (walk_enumT (xs := xs)) (TLoop K ls a T H xs ds) ?st (fun i σ H1 _ q => ?go) ?tn ?en⟩
      case st => exact ⟨⟨none, none, rfl⟩, ⟨H, [], Same.refl H, nT, upd_new nT, upd_same, TabOk.nil⟩, rfl⟩
      case go =>
        obtain ⟨G, kvs, s1, n1, s2, _, _⟩ := q.hp
        exact s2 _ _ (s1 _ _ ha)
      case en =>
        rintro σ H1 ⟨⟨x3, x4, rfl⟩, ⟨G, kvs, s1, n1, s2, hT, tb⟩, hsc⟩
        rw [hlen, List.take_length] at tb
        rw [hlen, List.drop_length, List.take_length] at hsc
        exact ⟨V.ref T, rfl, k1 hsc H1 T kvs (s1.trans s2) nT hT (tb.mono s2)⟩
      case tn =>
        rintro i x σ H1 H2 hi ⟨⟨x3, x4, rfl⟩, ⟨G, kvs, s1, n1, s2, hT, tb⟩, hsc⟩ ⟨T1, x1, y1, rfl, nT1, rfl, ex, ey⟩
        obtain rfl : V.int (i : Nat) = x1 := Option.some.inj ex
        obtain ⟨d, hdi, hd⟩ := deAll_at hda ey
        have s3 : Same H1 (upd H1 T1 (.tup [.int (i : Nat), y1])) := upd_new nT1
        refine ⟨T1, _, rfl, .inl (.inl upd_same), rfl, _, _, rfl, _, _, rfl, rfl, ?_⟩
        generalize upd H1 T1 (.tup [.int (i : Nat), y1]) = H2 at s3
        have hd2 : De K H2 y1 d := de_mono ((s1.trans s2).trans s3) d y1 hd
        refine ⟨V.str ls, rfl, y1, rfl, ls, y1, d, rfl, hd2, hfit d (List.mem_of_getElem? hdi), fun H3 s4 => ⟨okR ls d, rfl, ?_⟩⟩
        have s13 := (s1.trans s2).trans (s3.trans s4)
        have hil : i < ds.length := by omega
        have ed : ds.drop i = d :: ds.drop (i + 1) := by
          have z := List.drop_eq_getElem_cons hil
          have e2 : ds[i] = d := by
            rw [List.getElem?_eq_getElem hil] at hdi
            exact Option.some.inj hdi
          rw [z, e2]
        have et : ds.take (i + 1) = ds.take i ++ [d] := by
          rw [List.take_add_one, hdi]
          rfl
        rw [ed] at hsc
        have thr : ¬ (okR ls d = true ∧ placeOf d ∉ (ds.take i).map placeOf) → ∀ H4, Same H H4 → Thrown E C H4 [("number", .int (i : Nat))] := fun no H4 s5 => by
          have z : scan ls [] 0 ds = some i := by
            rw [hsc]
            show (if okR ls d = true ∧ placeOf d ∉ (ds.take i).map placeOf then _ else _) = _
            rw [if_neg no]
          exact (k2 i z).mono s5
        cases eR : okR ls d with
        | false => exact iteT (iteT ⟨V.int (i : Nat), rfl, rd_mk rfl (by show 1 ≤ 1000; decide) fun dx H' s' n q => thr (fun z => by rw [eR] at z; exact absurd z.1 (by decide)) H3 s13 H' dx s' n q⟩)
        | true =>
        obtain ⟨px, pb, pc, he, hTL, hpl, hp1, hp2⟩ := okR_elems eR
        have hT3 : H3 T = some (.dK kvs) := s4 _ _ (s3 _ _ hT)
        have hd3 : De K H3 y1 d := de_mono s4 d y1 hd2
        have hdG : De K G y1 d := de_mono s1 d y1 hd
        -- the row as a tuple or a list
        obtain ⟨p, v0, vr, rfl, hG, hsq, hix⟩ : ∃ (p : Addr) (v0 : V) (vr : List V), y1 = .ref p ∧ DeAll K G (v0 :: vr) (elems d) ∧ (G p = some (.lst (v0 :: vr)) ∨ (G p = some (.tup (v0 :: vr)) ∧ De K G (.ref p) (.tuple (elems d)))) ∧
            ∀ H5, Same G H5 → ∀ R : VK, R v0 H5 → rIx K (.ref p) (.int 0) H5 R := by
          cases hdG with
          | @lst a1 vs ds1 ha1 hds =>
            have he' : ds1 = [.str px, pb, pc] := he
            subst he'
            cases hds with
            | @cons v0 vr _ _ h0 t0 => exact ⟨a1, v0, vr, rfl, .cons h0 t0, .inl ha1, fun H5 s5 R q => .inl ⟨a1, _, 0, v0, rfl, rfl, .inl (.inl (s5 _ _ ha1)), atI_nat (j := 0) rfl, q⟩⟩
          | @tup a1 vs ds1 ha1 hds =>
            have he' : ds1 = [.str px, pb, pc] := he
            subst he'
            cases hds with
            | @cons v0 vr _ _ h0 t0 => exact ⟨a1, v0, vr, rfl, .cons h0 t0, .inr ⟨ha1, .tup ha1 (.cons h0 t0)⟩, fun H5 s5 R q => .inr (.inl ⟨a1, _, 0, v0, rfl, rfl, .inl (.inl (s5 _ _ ha1)), atI_nat (j := 0) rfl, q⟩)⟩
          | _ => cases hTL
        have hv0 : v0 = .str (placeOf d) := by
          rw [he] at hG
          cases hG with
          | cons h0 _ =>
            cases h0
            rw [hpl]
        subst hv0
        have sG3 : Same G H3 := s2.trans (s3.trans s4)
        have hget : DGet H3 T (.str (placeOf d)) (valV kvs (.inr (placeOf d))) := DGet.k (k := (.inr (placeOf d) : Key)) hT3
        refine iteF ⟨V.ref p, rfl, hix H3 sG3 _ ⟨V.ref T, rfl, T, _, rfl, hget, _, rfl, ?_⟩⟩
        rw [tb.has]
        refine ite2 (fun c1 => ?_) (fun c1 => ?_)
        · have hm := of_decide_eq_true c1
          exact ⟨V.int (i : Nat), rfl, rd_mk rfl (by show 1 ≤ 1000; decide) fun dx H' s' n q => thr (fun z => z.2 hm) H3 s13 H' dx s' n q⟩
        · have hm : placeOf d ∉ (ds.take i).map placeOf := fun z => c1 (decide_eq_true z)
          have hsc2 : scan ls [] 0 ds = scan ls ((ds.take (i + 1)).map placeOf) (i + 1) (ds.drop (i + 1)) := by
            rw [hsc, et, List.map_append]
            show (if okR ls d = true ∧ placeOf d ∉ (ds.take i).map placeOf then _ else _) = _
            rw [if_pos ⟨eR, hm⟩]
            rfl
          have hnone : valV kvs (.inr (placeOf d)) = none := by
            have z := tb.has (placeOf d)
            rw [decide_eq_false hm] at z
            cases q : valV kvs (.inr (placeOf d)) with
            | none => rfl
            | some v =>
              rw [q] at z
              cases z
          have hkl : kvs.length < sizeLine := by
            have z := congrArg List.length tb.1
            rw [List.length_map, List.length_map, List.length_take] at z
            have z2 : (5000 : Nat) < sizeLine := by decide
            omega
          -- behind the store
          have fin : ∀ (tv : V) (G2 H4 : Hp), Same G G2 → G2 T = none → Same G2 H4 → H4 T = some (.dK kvs) → De K G2 tv (.tuple (elems d)) → TLoop K ls a T H xs ds (i + 1) [some (.str ls), some (.ref a), some (.ref T), some (.int (i : Nat)), some (.ref p)] (upd H4 T (.dK (putK kvs (.inr (placeOf d)) tv))) := fun tv G2 H4 g1 g2 g3 g4 g5 => by
            refine ⟨⟨_, _, rfl⟩, ⟨G2, kvs ++ [(.inr (placeOf d), tv)], s1.trans g1, g2, fun b o e => ?_, ?_, ?_⟩, hsc2⟩
            · rw [upd_ne (ne_of_none e g2)]
              exact g3 _ _ e
            · rw [putK_new tv hnone]
              exact upd_same
            · rw [et]
              exact (tb.mono g1).snoc g5
          rcases hsq with hl | ⟨ht, htd⟩
          · refine ⟨V.ref p, rfl, p, _, rfl, .inl ⟨.inl (.inl (sG3 _ _ hl)), fun l nl => ?_⟩⟩
            have gl : G l = none := sG3.free nl
            have nTl : T ≠ l := fun z => by
              rw [← z, hT3] at nl
              cases nl
            refine ⟨V.ref T, rfl, V.ref p, rfl, hix _ (sG3.trans (upd_new nl)) _ ⟨T, _, rfl, DPut.k (k := (.inr (placeOf d) : Key)) ((upd_ne nTl).trans hT3) hkl, ?_⟩⟩
            refine fin (.ref l) (upd G l (.tup _)) (upd H3 l (.tup _)) (upd_new gl) ((upd_ne nTl).trans n1) (fun b o e => ?_) ((upd_ne nTl).trans hT3) (.tup upd_same (de_monoAll (upd_new gl) _ _ hG))
            by_cases hb : b = l
            · subst hb
              rw [upd_same] at e ⊢
              exact e
            · rw [upd_ne hb] at e ⊢
              exact sG3 _ _ e
          · refine ⟨V.ref p, rfl, p, _, rfl, .inr ⟨.inl (.inl (sG3 _ _ ht)), ?_⟩⟩
            refine ⟨V.ref T, rfl, V.ref p, rfl, hix _ sG3 _ ⟨T, _, rfl, DPut.k (k := (.inr (placeOf d) : Key)) hT3 hkl, ?_⟩⟩
            exact fin (.ref p) G H3 (Same.refl G) n1 sG3 hT3 htd
end
end SK
namespace SK
open PySem PySem.Spec PyProof.Rows L2 LamX NdefX
open K0 (De DeAll XCl spX withX)
/-! ### the letters below each place -/
def initS (p : Str) : Str := ⟨p.cps.toList.dropLast.toArray⟩
theorem cut_init (p : Str) : cutS p none (some (-1)) = initS p := by
  have e : HT.sIx p.length p.length (some (-1)) = p.length - 1 := by
    show (if (-1 : Int) < 0 then (-1 + (p.length : Int)).toNat else min (-1 : Int).toNat p.length) = _
    rw [if_pos (by decide)]
    omega
  unfold cutS initS
  rw [e, HT.sIx_none, List.drop_zero, Nat.sub_zero, List.dropLast_eq_take]
  have z : p.length = p.cps.toList.length := by simp [Str.length]
  rw [z]
theorem at_last {p : Str} (h : p ≠ Str.ofString "") : ∃ c, atI p.cps.toList (-1) = some c := by
  have hn : p.cps.toList ≠ [] := fun z => h (by
    have e : p.cps = #[] := by simpa using z
    obtain ⟨cps⟩ := p
    have e : cps = #[] := e
    rw [e]
    decide +kernel)
  have hp : 0 < p.cps.toList.length := List.length_pos_iff.mpr hn
  have e : ixN p.cps.toList.length (-1) = some (p.cps.toList.length - 1) := by
    unfold ixN
    rw [if_neg (by decide), if_pos (by omega)]
    congr 1
    omega
  exact ⟨_, by unfold atI; rw [e]; exact List.getElem?_eq_getElem (by omega)⟩
def isLone (ps : List Str) (p : Str) : Bool := decide (p ≠ Str.ofString "") && !decide (initS p ∈ ps)
def lone (ps : List Str) : Option Str := ps.find? (isLone ps)
def Keys (kvs : List (Key × V)) (ps : List Str) : Prop := kvs.map Prod.fst = ps.map fun p => (Sum.inr p : Key)
theorem Keys.has {kvs : List (Key × V)} {ps : List Str} (t : Keys kvs ps) (x : Str) : (valV kvs (.inr x)).isSome = decide (x ∈ ps) := by
  rw [← valV_any]
  have e : (kvs.any fun kv => decide (kv.1 = (.inr x : Key))) = (kvs.map Prod.fst).any fun k => decide (k = (.inr x : Key)) := by
    rw [List.any_map]
    rfl
  rw [e, t, List.any_map]
  by_cases h : x ∈ ps
  · rw [decide_eq_true h]
    exact List.any_eq_true.mpr ⟨x, h, by simp⟩
  · rw [decide_eq_false h, List.any_eq_false]
    intro d hd
    simp only [Function.comp, decide_eq_true_eq]
    intro z
    injection z with z
    exact h (z ▸ hd)
theorem Keys.len {kvs : List (Key × V)} {ps : List Str} (t : Keys kvs ps) : kvs.length = ps.length := by
  have z := congrArg List.length t
  simpa using z
theorem Keys.put {kvs : List (Key × V)} {ps : List Str} {x : Str} {v : V} (t : Keys kvs ps) (h : x ∈ ps) : Keys (putK kvs (.inr x) v) ps := by
  have e : (kvs.any fun kv => decide (kv.1 = (.inr x : Key))) = true := by
    rw [valV_any, t.has, decide_eq_true h]
  unfold putK
  rw [if_pos e]
  unfold Keys
  rw [List.map_map, ← t]
  refine List.map_congr_left fun kv _ => ?_
  show (if kv.1 = _ then (kv.1, v) else kv).1 = kv.1
  split <;> rfl
/-! ### what stands below each place -/
def belL (ps : List Str) (q : Str) : List Nat := ps.filterMap fun r => if r ≠ Str.ofString "" ∧ initS r = q then r.cps.toList.getLast? else none
def belS (ps : List Str) (q : Str) : Str := ⟨(belL ps q).toArray⟩
theorem belL_snoc (l : List Str) (p q : Str) : belL (l ++ [p]) q = belL l q ++ (if p ≠ Str.ofString "" ∧ initS p = q then p.cps.toList.getLast? else none).toList := by
  have one : ∀ (f : Str → Option Nat) (x : Str), [x].filterMap f = (f x).toList := fun f x => by
    cases h : f x <;> simp [List.filterMap_cons, h]
  unfold belL
  rw [List.filterMap_append, one]
theorem belL_len (l : List Str) (q : Str) : (belL l q).length ≤ l.length := List.length_filterMap_le _ _
theorem take_next {ps : List Str} {i : Nat} {p : Str} (h : ps[i]? = some p) : ps.take (i + 1) = ps.take i ++ [p] := by
  rw [List.take_add_one, h]
  rfl
theorem valV_key {kvs : List (Key × V)} {k : Key} {v : V} (h : valV kvs k = some v) : ∃ kv ∈ kvs, kv.1 = k ∧ kv.2 = v := by
  unfold valV at h
  cases e : kvs.find? (fun kv => decide (kv.1 = k)) with
  | none =>
    rw [e] at h
    cases h
  | some kv =>
    rw [e] at h
    exact ⟨kv, List.mem_of_find?_eq_some e, (by have z := List.find?_some e; simpa using z), Option.some.inj h⟩
/-- how far the dict is filled -/
def Below (ps : List Str) (i : Nat) (kvs : List (Key × V)) : Prop := ∀ kv ∈ kvs, ∃ q z : Str, kv.1 = .inr q ∧ kv.2 = .str z ∧ z = belS (ps.take i) q ∧ z.length ≤ i
theorem Below.zero {ps : List Str} {kvs : List (Key × V)} (hk : Keys kvs ps) (hv : ∀ kv ∈ kvs, kv.2 = .str "") : Below ps 0 kvs := fun kv h => by
  have m : kv.1 ∈ kvs.map Prod.fst := List.mem_map.mpr ⟨kv, h, rfl⟩
  rw [show kvs.map Prod.fst = _ from hk] at m
  obtain ⟨q, _, e⟩ := List.mem_map.mp m
  exact ⟨q, "", e.symm, hv kv h, (by show Str.ofString "" = (⟨#[]⟩ : Str); decide +kernel), by decide +kernel⟩
theorem Below.nil {ps : List Str} {i : Nat} {kvs : List (Key × V)} {p : Str} (h : Below ps i kvs) (hp : ps[i]? = some p) (he : p = Str.ofString "") : Below ps (i + 1) kvs := fun kv hkv => by
  obtain ⟨q, z, h1, h2, h3, h4⟩ := h kv hkv
  refine ⟨q, z, h1, h2, ?_, by omega⟩
  rw [h3]
  unfold belS
  rw [take_next hp, belL_snoc, if_neg (fun z => z.1 he)]
  simp
theorem Below.at_ {ps : List Str} {i : Nat} {kvs : List (Key × V)} {q : Str} {v : V} (h : Below ps i kvs) (hv : valV kvs (.inr q) = some v) : ∃ z : Str, v = .str z ∧ z = belS (ps.take i) q ∧ z.length ≤ i := by
  obtain ⟨kv, m, e1, e2⟩ := valV_key hv
  obtain ⟨q', z, h1, h2, h3, h4⟩ := h kv m
  rw [e1] at h1
  injection h1 with h1
  subst h1
  exact ⟨z, e2.symm.trans h2, h3, h4⟩
theorem at_get {l : List Nat} {c : Nat} (h : atI l (-1) = some c) : l.getLast? = some c := by
  unfold atI at h
  cases e : ixN l.length (-1) with
  | none =>
    rw [e] at h
    cases h
  | some j =>
    rw [e] at h
    have ej : j = l.length - 1 := by
      unfold ixN at e
      rw [if_neg (by decide)] at e
      split at e
      · have := Option.some.inj e
        omega
      · cases e
    subst ej
    rw [List.getLast?_eq_getElem?]
    exact h
theorem Below.put {ps : List Str} {i : Nat} {kvs : List (Key × V)} {p zz : Str} {cc : Nat} (h : Below ps i kvs) (hp : ps[i]? = some p) (he : p ≠ Str.ofString "") (hc : atI p.cps.toList (-1) = some cc) (hv : valV kvs (.inr (initS p)) = some (.str zz)) (hz : zz = belS (ps.take i) (initS p)) :
    Below ps (i + 1) (putK kvs (.inr (initS p)) (.str (zz ++ ⟨#[cc]⟩))) := fun kv hkv => by
  have last := at_get hc
  have any : (kvs.any fun kv => decide (kv.1 = (.inr (initS p) : Key))) = true := by
    rw [valV_any, hv]
    rfl
  unfold putK at hkv
  rw [if_pos any] at hkv
  obtain ⟨kv0, m, rfl⟩ := List.mem_map.mp hkv
  obtain ⟨q, z, h1, h2, h3, h4⟩ := h kv0 m
  by_cases hk0 : kv0.1 = (.inr (initS p) : Key)
  · rw [if_pos hk0]
    refine ⟨initS p, _, hk0, rfl, ?_, ?_⟩
    · rw [hz]
      unfold belS
      rw [take_next hp, belL_snoc, if_pos ⟨he, rfl⟩, last]
      show (⟨(belL (ps.take i) (initS p)).toArray ++ #[cc]⟩ : Str) = _
      simp
    · obtain ⟨z', e1, _, e3⟩ := h.at_ hv
      injection e1 with e1
      subst e1
      rw [PySem.Str.length_append]
      show zz.length + 1 ≤ i + 1
      omega
  · rw [if_neg hk0]
    refine ⟨q, z, h1, h2, ?_, by omega⟩
    rw [h3]
    unfold belS
    rw [take_next hp, belL_snoc, if_neg (fun w => hk0 (by rw [h1, w.2]))]
    simp
theorem Below.done {ps : List Str} {kvs : List (Key × V)} (h : Below ps ps.length kvs) (hk : Keys kvs ps) : ∀ p ∈ ps, valV kvs (.inr p) = some (.str (belS ps p)) := fun p hp => by
  have z := hk.has p
  rw [decide_eq_true hp] at z
  obtain ⟨v, hv⟩ := Option.isSome_iff_exists.mp z
  obtain ⟨zz, rfl, e, _⟩ := h.at_ hv
  rw [List.take_length] at e
  rw [hv, e]
def spBelow (C : Addr) : Sp := fun vs H Q E => ∃ (a : Addr) (ps : List Str), vs = [.ref a] ∧ H a = some (.lst (ps.map V.str)) ∧ ps.Nodup ∧ (∀ p ∈ ps, p.cps.size ≤ 200) ∧ ps.length ≤ 5000 ∧
  (lone ps = none → ∀ (H' : Hp) (B : Addr) (kvs : List (Key × V)), Same H H' → H B = none → H' B = some (.dK kvs) → Keys kvs ps → (∀ p ∈ ps, valV kvs (.inr p) = some (.str (belS ps p))) → Q (.ref B) H') ∧ (∀ p, lone ps = some p → Thrown E C H [("place", .str p)])
structure BLoop (a B : Addr) (H : Hp) (ps : List Str) (i : Nat) (σ : St) (H1 : Hp) : Prop where
  sl : ∃ x2 x3, σ = [some (.ref a), some (.ref B), x2, x3]
  hp : ∃ kvs : List (Key × V), Same H H1 ∧ H1 B = some (.dK kvs) ∧ Keys kvs ps ∧ Below ps i kvs
  no : ∀ j p, j < i → ps[j]? = some p → isLone ps p = false
theorem valV_mem {kvs : List (Key × V)} {k : Key} {v : V} (h : valV kvs k = some v) : ∃ kv ∈ kvs, kv.2 = v := by
  unfold valV at h
  cases e : kvs.find? (fun kv => decide (kv.1 = k)) with
  | none =>
    rw [e] at h
    cases h
  | some kv =>
    rw [e] at h
    exact ⟨kv, List.mem_of_find?_eq_some e, Option.some.inj h⟩
theorem lone_none {ps : List Str} (h : ∀ j p, j < ps.length → ps[j]? = some p → isLone ps p = false) : lone ps = none := by
  unfold lone
  rw [List.find?_eq_none]
  intro p hp
  obtain ⟨j, hj⟩ := List.mem_iff_getElem?.mp hp
  rw [h j p (List.getElem?_eq_some_iff.mp hj).1 hj]
  exact Bool.false_ne_true
theorem lone_first {ps : List Str} {i : Nat} {p : Str} (h : ∀ j q, j < i → ps[j]? = some q → isLone ps q = false) (hi : ps[i]? = some p) (hl : isLone ps p = true) : lone ps = some p := by
  unfold lone
  have hlt := (List.getElem?_eq_some_iff.mp hi).1
  have e : ps = ps.take i ++ p :: ps.drop (i + 1) := by
    have z := List.drop_eq_getElem_cons hlt
    have e2 : ps[i] = p := by
      rw [List.getElem?_eq_getElem hlt] at hi
      exact Option.some.inj hi
    rw [e2] at z
    rw [← z, List.take_append_drop]
  generalize hp : isLone ps = P at h hl ⊢
  rw [e, List.find?_append]
  have n : (ps.take i).find? P = none := by
    rw [List.find?_eq_none]
    intro q hq
    obtain ⟨j, hj⟩ := List.mem_iff_getElem?.mp hq
    have hji : j < i := by
      have z := (List.getElem?_eq_some_iff.mp hj).1
      rw [List.length_take] at z
      omega
    rw [List.getElem?_take_of_lt hji] at hj
    rw [h j q hji hj]
    exact Bool.false_ne_true
  rw [n]
  simp [List.find?_cons, hl]
section
variable {P : Program} {w : World} {K : PySem.W.Frag} {mg : Str → Option Value} {base : Heap} {f C : Addr} {fd : FuncData}
theorem sc20 : FnScope ["places", "below", "place", "parent"] ["places"] (defScope (top 33)) := ⟨rfl, rfl, rfl, by decide +kernel, rfl, by decide +kernel, by decide +kernel⟩
theorem ok_below (F : Fun K "letters_below" "letters_below" (top 33) f fd) (D : XR P w K mg base "Lone" C ["place"]) : FnOk P w K mg base (L2.CX P w) 3 f fd ["places"] (spBelow C) := by
  refine F.okX sc20 (fun vs H Q E h => ?_) (fun cdv A outer s H vs Q E hr h => ?_)
  · obtain ⟨a, ps, rfl, _⟩ := h
    rfl
  · obtain ⟨a, ps, rfl, ha, nd, h200, hz, k1, k2⟩ := h
    obtain ⟨fi, fdi, iC, tI, F1, b1⟩ := D.ini
    have hu := hu_of hr
    refine ⟨_, pss_cons (ps_setDc (i := 1) (own := [("place", 2)]) (g := gName 2) (tt := tYes) rfl sc20.nd rfl rfl (swD_true rfl rfl rfl (by decide +kernel)) (pi_list (pv 0)) (blkOk_by (N := ["places", "below", "place", "parent"]) (sc := defScope (top 33)) (by decide +kernel))
        (fun _ _ _ _ _ => pg_name (i := 2) sc20.nd rfl (Or.inl rfl)) (fun _ _ _ _ _ => pts_nil) (fun _ _ _ _ _ => pv 2) (fun _ _ _ _ _ => pe_str))
      (pss_cons (ps_for (passes_of rfl) rfl (pi_list (pv 0)) (pg_name (i := 2) sc20.nd rfl (Or.inl rfl))
        (pss_one (ps_if (pt_cmpR op_ne (pv 2) pe_str (nomark _)) (pss_cons (ps_set (i := 3) sc20.nd rfl (Or.inl rfl) (pe_slice sl_str (pv 2) po_none (po_some (pe_un un_neg pe_int))))
          (pss_cons (ps_if (pt_cmp (pc_dnotin hu (pv 3) (pv 1))) (pss_one (ps_raise rfl (takes_of rfl rfl rfl rfl) (pmk_oex D.cl.T iC tI F1 hr b1 .nil pass0 (by rfl) D.gC (pa_cons (pv 2) pa_nil)))) pss_nil)
          (pss_one (ps_daug hu (pv 1) (pv 3) (pe_ix ix_str (pv 2) (pe_un un_neg pe_int) (fun _ _ => rfl)) in_addS (fun _ _ _ => rfl))))) pss_nil)))
      (pss_one (ps_ret (pv 1)))), ?_⟩
    refine ⟨V.ref a, rfl, a, rfl, ⟨_, .inl (.inl ha)⟩, fun B nB => dc_it (walk_list (K := K) (xs := ps.map V.str)) (fun i H1 => ∃ kvs : List (Key × V), Same H H1 ∧ H1 B = some (.dK kvs) ∧ Keys kvs (ps.take i) ∧ ∀ kv ∈ kvs, kv.2 = .str "")
      ⟨[], upd_new nB, upd_same, rfl, fun kv h => absurd h (by simp)⟩ (fun i H1 _ ⟨kvs, sm, _⟩ => .inl (.inl (sm _ _ ha))) ?_ ?_⟩
    · rintro i x H1 H2 hi ⟨kvs, sm, hB, hk, hv⟩ ⟨rfl, hx⟩
      obtain ⟨p, hp, rfl⟩ : ∃ p, ps[i]? = some p ∧ V.str p = x := by
        rw [List.getElem?_map] at hx
        cases q : ps[i]? with
        | none =>
          rw [q] at hx
          cases hx
        | some p =>
          rw [q] at hx
          exact ⟨p, rfl, Option.some.inj hx⟩
      have et : ps.take (i + 1) = ps.take i ++ [p] := by
        rw [List.take_add_one, hp]
        rfl
      have hnone : valV kvs (.inr p) = none := by
        have z := hk.has p
        have nm : p ∉ ps.take i := fun hm => by
          obtain ⟨j, hj⟩ := List.mem_iff_getElem?.mp hm
          have hji : j < i := by
            have z := (List.getElem?_eq_some_iff.mp hj).1
            rw [List.length_take] at z
            omega
          rw [List.getElem?_take_of_lt hji] at hj
          have := nd_ix nd hj hp
          omega
        rw [decide_eq_false nm] at z
        cases q : valV kvs (.inr p) with
        | none => rfl
        | some v =>
          rw [q] at z
          cases z
      refine ⟨rfl, V.str p, rfl, kvs, .inr p, rfl, hB, ?_, kvs ++ [(.inr p, .str "")], fun b o e => ?_, ?_, ?_, fun kv hkv => ?_⟩
      · have z := hk.len
        rw [List.length_take] at z
        have z2 : (5000 : Nat) < sizeLine := by decide
        omega
      · rw [upd_ne (ne_of_none e nB)]
        exact sm _ _ e
      · rw [putK_new _ hnone]
        exact upd_same
      · unfold Keys
        rw [et, List.map_append, List.map_append]
        have z : kvs.map Prod.fst = _ := hk
        rw [z]
        rfl
      · rcases List.mem_append.mp hkv with z | z
        · exact hv kv z
        · rw [List.mem_singleton.mp z]
    rintro H1 ⟨kvs, sm, hB, hk, hv⟩
    rw [List.length_map, List.take_length] at hk
    refine ⟨V.ref a, rfl, a, rfl, ⟨_, .inl (.inl (sm _ _ ha))⟩, for_it (walk_list (K := K) (xs := ps.map V.str)) (BLoop a B H ps) ⟨⟨none, none, rfl⟩, ⟨kvs, sm, hB, hk, Below.zero hk hv⟩, fun j p h => absurd h (Nat.not_lt_zero _)⟩
      (fun i σ H2 _ q => by
        obtain ⟨_, s2, _⟩ := q.hp
        exact .inl (.inl (s2 _ _ ha))) ?_ ?_⟩
    · rintro i x σ H2 H3 hi ⟨⟨x2, x3, rfl⟩, ⟨kvs, sm, hB, hk, hv⟩, hno⟩ ⟨rfl, hx⟩
      obtain ⟨p, hp, rfl⟩ : ∃ p, ps[i]? = some p ∧ V.str p = x := by
        rw [List.getElem?_map] at hx
        cases q : ps[i]? with
        | none =>
          rw [q] at hx
          cases hx
        | some p =>
          rw [q] at hx
          exact ⟨p, rfl, Option.some.inj hx⟩
      have hp2 := h200 p (List.mem_of_getElem? hp)
      have hpl : p.length ≤ sizeLine := Nat.le_trans hp2 (by decide)
      have next : ∀ (kvs2 : List (Key × V)) (H4 : Hp) (y2 y3 : Option V), isLone ps p = false → Same H H4 → H4 B = some (.dK kvs2) → Keys kvs2 ps → Below ps (i + 1) kvs2 → BLoop a B H ps (i + 1) [some (.ref a), some (.ref B), y2, y3] H4 := fun kvs2 H4 y2 y3 nl s4 h4 k4 v4 =>
        ⟨⟨_, _, rfl⟩, ⟨kvs2, s4, h4, k4, v4⟩, fun j q hj hq => by
          by_cases hji : j = i
          · subst hji
            rw [hp] at hq
            obtain rfl := Option.some.inj hq
            exact nl
          · exact hno j q (by omega) hq⟩
      refine ⟨V.str p, rfl, rfl, _, rfl, ?_⟩
      by_cases he : p = Str.ofString ""
      · have hd : (!decide (V.str p = V.str (Str.ofString ""))) = false := by
          rw [he]
          simp
        rw [hd]
        refine iteF (next kvs _ _ _ ?_ sm hB hk (hv.nil hp he))
        unfold isLone
        rw [he]
        simp
      · have hd : (!decide (V.str p = V.str (Str.ofString ""))) = true := by
          have z : ¬ V.str p = V.str (Str.ofString "") := fun z => he (by injection z)
          rw [decide_eq_false z]
          rfl
        rw [hd]
        refine iteT ⟨V.str p, rfl, 1, rfl, (-1 : Int), rfl, p, rfl, hpl, ?_⟩
        rw [cut_init]
        refine ⟨V.str (initS p), rfl, V.ref B, rfl, B, _, rfl, DGet.k (k := (.inr (initS p) : Key)) hB, _, rfl, ?_⟩
        rw [hk.has]
        by_cases hm : initS p ∈ ps
        · rw [decide_eq_true hm]
          have hnl : isLone ps p = false := by
            unfold isLone
            rw [decide_eq_true hm]
            simp
          refine iteF ?_
          obtain ⟨v, hvv⟩ : ∃ v, valV kvs (.inr (initS p)) = some v := by
            have z := hk.has (initS p)
            rw [decide_eq_true hm] at z
            exact Option.isSome_iff_exists.mp z
          obtain ⟨zz, rfl, hz1, hz2⟩ := hv.at_ hvv
          obtain ⟨cc, hcc⟩ := at_last he
          have dg := DGet.k (k := (.inr (initS p) : Key)) hB
          rw [hvv] at dg
          have hkl : kvs.length < sizeLine := by
            have z := hk.len
            have z2 : (5000 : Nat) < sizeLine := by decide
            omega
          have hil : i < ps.length := by simpa using hi
          refine ⟨V.ref B, rfl, V.str (initS p), rfl, B, _, rfl, dg, V.str p, rfl, 1, rfl, p, (-1 : Int), cc, rfl, rfl, hpl, hcc, zz, ⟨#[cc]⟩, rfl, rfl, ?_, _, DPut.k (k := (.inr (initS p) : Key)) hB hkl, next _ _ _ _ hnl (fun b o e => ?_) upd_same (hk.put hm) (hv.put hp he hcc hvv hz1)⟩
          · have z2 : (5001 : Nat) ≤ sizeLine := by decide
            show zz.length + 1 ≤ sizeLine
            omega
          · rw [upd_ne (ne_of_none e nB)]
            exact sm _ _ e
        · rw [decide_eq_false hm]
          have hil : isLone ps p = true := by
            unfold isLone
            rw [decide_eq_false hm, decide_eq_true he]
            rfl
          refine iteT ⟨V.str p, rfl, rd_mk rfl (by show 1 ≤ 1000; decide) fun dx H' s' n q => ((k2 p (lone_first hno hp hil)).mono sm) H' dx s' n q⟩
    · rintro σ H2 ⟨⟨x2, x3, rfl⟩, ⟨kvs, sm, hB, hk, hv⟩, hno⟩
      rw [List.length_map] at hno hv
      exact ⟨V.ref B, rfl, k1 (lone_none hno) H2 B kvs sm nB hB hk (hv.done hk)⟩
end
end SK
namespace SK
open PySem PySem.Spec PyProof.Rows L2 LamX NdefX
open K0 (De DeAll XCl spX withX)
/-! ### a tree is made, or refused -/
theorem okL_of {x : Str} (h : okLb x = true) : OkL x := by
  simp only [okLb, Bool.and_eq_true, decide_eq_true_eq, List.all_eq_true] at h
  refine ⟨h.1.1, h.1.2, h.2.1, fun c hc => ?_⟩
  have z : ∀ c ∈ alpha.cps.toList, 97 ≤ c ∧ c < 123 := by decide +kernel
  exact z c (h.2.2 c hc)
theorem scan_none {ls : Str} : ∀ {ds : List PyData} {seen : List Str} {i : Nat}, scan ls seen i ds = none → (∀ d ∈ ds, okR ls d = true ∧ placeOf d ∉ seen) ∧ (ds.map placeOf).Nodup
  | [], _, _, _ => ⟨fun d h => absurd h (by simp), by simp⟩
  | d :: r, seen, i, h => by
    have h' : (if okR ls d = true ∧ placeOf d ∉ seen then scan ls (seen ++ [placeOf d]) (i + 1) r else some i) = none := h
    by_cases c : okR ls d = true ∧ placeOf d ∉ seen
    · rw [if_pos c] at h'
      obtain ⟨h1, h2⟩ := scan_none h'
      refine ⟨fun e he => ?_, ?_⟩
      · rcases List.mem_cons.mp he with rfl | he
        · exact c
        · exact ⟨(h1 e he).1, fun z => (h1 e he).2 (List.mem_append_left _ z)⟩
      · rw [List.map_cons, List.nodup_cons]
        refine ⟨fun z => ?_, h2⟩
        obtain ⟨e, he, e2⟩ := List.mem_map.mp z
        exact (h1 e he).2 (by rw [e2]; simp)
    · rw [if_neg c] at h'
      cases h'
theorem sortW_perm (ls : Str) (ws : List Str) : (sortW ls ws).Perm ws := List.mergeSort_perm _ _
def ThrownN (E : XK) (C : Addr) (H : Hp) (gs : List (Str × V)) (T : List (Addr × Str)) : Prop := ∀ (H' : Hp) (d : Addr), ExtN H H' → Tabs T H' → H' d = some (.xd gs) → E (.ref C) (some d) H'
theorem ThrownN.to {E : XK} {C : Addr} {H H1 : Hp} {gs : List (Str × V)} {T : List (Addr × Str)} (t : ThrownN E C H gs T) (e : ExtN H H1) (tb : Tabs T H1) : Thrown E C H1 gs := fun H' d s n q => t H' d (e.trans (ExtN.of s)) (tb.ext s) q
/-- how a tree is refused -/
inductive Way where
  | letters
  | places (n : Nat)
  | row (i : Nat)
  | lone (p : Str)
  | fine
def strOf : PyData → Str
  | .str x => x
  | _ => Str.empty
def way (L : PyData) (ds : List PyData) : Way := if okLd L = true then (if 1 ≤ ds.length ∧ ds.length ≤ 2000 then (match scan (strOf L) [] 0 ds with
  | some i => .row i
  | none => match lone (sortW (strOf L) (ds.map placeOf)) with
    | some p => .lone p
    | none => .fine) else .places ds.length) else .letters
/-- the four error classes -/
structure Cs where
  l : Addr
  m : Addr
  r : Addr
  o : Addr
def Refused (E : XK) (C : Cs) (vL : V) (H : Hp) (T : List (Addr × Str)) (w : Way) : Prop :=
  (w = .letters → ThrownN E C.l H [("letters", vL)] T) ∧ (∀ n : Nat, w = .places n → ThrownN E C.m H [("most", .int 2000), ("many", .int n), ("what", .str "places")] T) ∧
  (∀ i : Nat, w = .row i → ThrownN E C.r H [("number", .int i)] T) ∧ (∀ p, w = .lone p → ThrownN E C.o H [("place", .str p)] T)
/-- what a tree's fields hold -/
def six6 : List Str := ["_below", "_table", "letters", "rows", "size", "height"]
def TreeAt (K : PySem.W.Frag) (H : Hp) (fs : List (Str × V)) (ls : Str) (ds : List PyData) : Prop := ∃ (B Tb l : Addr) (kvs kv2 : List (Key × V)) (ps : List Str) (m : Int), fs.lookup ("_below" : Str) = some (.ref B) ∧ fs.lookup ("_table" : Str) = some (.ref Tb) ∧ fs.lookup ("rows" : Str) = some (.ref l) ∧
  (fs.lookup ("letters" : Str) = some (.str ls) ∧ fs.lookup ("size" : Str) = some (.int (ps.length : Nat)) ∧ fs.lookup ("height" : Str) = some (.int m) ∧ (∃ y ∈ ps, m = (y.length : Nat)) ∧ ∀ y ∈ ps, ((y.length : Nat) : Int) ≤ m) ∧
  (∀ g : Str, g ∉ six6 → fs.lookup g = none) ∧ H Tb = some (.dK kvs) ∧ TabOk K H kvs ds ∧ H B = some (.dK kv2) ∧ Keys kv2 ps ∧ (∀ p ∈ ps, valV kv2 (.inr p) = some (.str (belS ps p))) ∧ H l = some (.tup (ps.map fun y => (valV kvs (.inr y)).getD .non)) ∧ ps = sortW ls (ds.map placeOf) ∧ kvs.length ≤ 5000
mutual
theorem de_insN {K : PySem.W.Frag} {H H' : Hp} {x CT dx : Addr} {fs : List (Str × V)} (hx : H x = some (.ins CT dx fs)) (m : ∀ b o, b ≠ x → H b = some o → (∀ ps, o ≠ .tbl ps) → H' b = some o) : ∀ {d : PyData} {v : V}, De K H v d → De K H' v d
  | _, _, .non => .non
  | _, _, .bl b => .bl b
  | _, _, .int i => .int i
  | _, _, .str x => .str x
  | _, _, .lst ha hd => .lst (m _ _ (ne_of ha hx (by intro z; cases z)) ha fun ps z => nomatch z) (de_insNAll hx m hd)
  | _, _, .tup ha hd => .tup (m _ _ (ne_of ha hx (by intro z; cases z)) ha fun ps z => nomatch z) (de_insNAll hx m hd)
  | _, _, .dic ha => .dic (m _ _ (ne_of ha hx (by intro z; cases z)) ha fun ps z => nomatch z)
theorem de_insNAll {K : PySem.W.Frag} {H H' : Hp} {x CT dx : Addr} {fs : List (Str × V)} (hx : H x = some (.ins CT dx fs)) (m : ∀ b o, b ≠ x → H b = some o → (∀ ps, o ≠ .tbl ps) → H' b = some o) : ∀ {ds : List PyData} {vs : List V}, DeAll K H vs ds → DeAll K H' vs ds
  | _, _, .nil => .nil
  | _, _, .cons h1 h2 => .cons (de_insN hx m h1) (de_insNAll hx m h2)
end
def spInit (K : PySem.W.Frag) (CT : Addr) (C : Cs) (T : List (Addr × Str)) : Sp := fun vs H Q E => ∃ (x dx a : Addr) (vL : V) (L : PyData) (xs : List V) (ds : List PyData), vs = [.ref x, vL, .ref a] ∧ H x = some (.ins CT dx []) ∧ De K H vL L ∧ (∀ z, L = .str z → z.cps.all (· < 128) = true ∧ z.cps.size ≤ 1000) ∧
  Rows H a xs ∧ DeAll K H xs ds ∧ (∀ d ∈ ds, Fit d) ∧ xs.length ≤ 5000 ∧ Tabs T H ∧ Refused E C vL H T (way L ds) ∧
  (way L ds = .fine → ∀ (H' : Hp) (fs : List (Str × V)), (∀ b o, b ≠ x → H b = some o → (∀ ps, o ≠ .tbl ps) → H' b = some o) → Tabs T H' → H' x = some (.ins CT dx fs) → TreeAt K H' fs (strOf L) ds → Q .non H')
theorem Tabs.but {T : List (Addr × Str)} {H H' : Hp} {x CT dx : Addr} {fs : List (Str × V)} (t : Tabs T H) (hx : H x = some (.ins CT dx fs)) (e : ∀ b o, b ≠ x → H b = some o → H' b = some o) : Tabs T H' := fun p hp => by
  obtain ⟨ps, h1, h2, h3⟩ := t p hp
  refine ⟨ps, e _ _ (fun z => by rw [z, hx] at h1; cases h1) h1, h2, fun pos cv hc => ?_⟩
  obtain ⟨c, e1, e2⟩ := h3 pos cv hc
  refine ⟨c, e1, e _ _ (fun z => ?_) e2⟩
  rw [z, hx] at e2
  unfold CodeO at e2
  cases e2
theorem putF_le (f : Str) (y : V) (fs : List (Str × V)) : (putF f y fs).length ≤ fs.length + 1 := by
  induction fs with
  | nil => exact Nat.le_refl _
  | cons g r ih =>
    obtain ⟨g, v⟩ := g
    unfold putF
    split
    · simp
    · simp only [List.length_cons]
      omega
theorem Rows.mono {H H' : Hp} {a : Addr} {xs : List V} (r : Rows H a xs) (e : ExtN H H') : Rows H' a xs := r.elim (fun h => .inl (e _ _ h fun ps z => nomatch z)) fun h => .inr (e _ _ h fun ps z => nomatch z)
theorem Rows.seq {K : PySem.W.Frag} {H : Hp} {a : Addr} {xs : List V} (r : Rows H a xs) : SqL K H a xs ∨ SqT K H a xs := r.elim (fun h => .inl (.inl (.inl h))) fun h => .inr (.inl (.inl h))
section
variable {P : Program} {w : World} {K : PySem.W.Frag} {mg : Str → Option Value} {base : Heap} {f fCL fCP fT fO fB CT : Addr} {fd fdCL fdCP fdT fdO fdB : FuncData} {C : Cs} {T : List (Addr × Str)}
theorem sc24 : FnScope ["self", "letters", "rows", "table", "places", "place"] ["self", "letters", "rows"] (defScope (inClass (top 37) 0)) := ⟨rfl, rfl, rfl, by decide +kernel, rfl, by decide +kernel, by decide +kernel⟩
theorem ok_init (F : Fun K "__init__" "Tree.__init__" (inClass (top 37) 0) f fd) (cT : Cls K CT) (no : ∀ g ∈ (["_below", "_table", "letters", "rows", "size", "height"] : List Str), NoAttr K CT g)
    (gN : mg "len" = none) (gLs : mg "list" = none) (gTu : mg "tuple" = none) (gM : mg "max" = none)
    (gCL : mg "check_letters" = some (.ref fCL)) (kCL : PySem.W.keepIn K (.ref fCL) = true) (GCL : FnOk P w K mg base (L2.CX P w) 3 fCL fdCL ["letters"] (spCheckL K C.l)) (bCL : Binds K fdCL ["letters"] [])
    (gCP : mg "check_places" = some (.ref fCP)) (kCP : PySem.W.keepIn K (.ref fCP) = true) (GCP : FnOk P w K mg base (L2.CX P w) 3 fCP fdCP ["many"] (spCheckP C.m)) (bCP : Binds K fdCP ["many"] [])
    (gT : mg "table_of" = some (.ref fT)) (kT : PySem.W.keepIn K (.ref fT) = true) (GT : FnOk P w K mg base (L2.CX P w) 3 fT fdT ["letters", "rows"] (spTable K C.r)) (bT : Binds K fdT ["letters", "rows"] [])
    (gO : mg "in_order" = some (.ref fO)) (kO : PySem.W.keepIn K (.ref fO) = true) (GO : FnOk P w K mg base CX0 5 fO fdO ["letters", "words"] (spOrder K T)) (bO : Binds K fdO ["letters", "words"] [])
    (gB : mg "letters_below" = some (.ref fB)) (kB : PySem.W.keepIn K (.ref fB) = true) (GB : FnOk P w K mg base (L2.CX P w) 3 fB fdB ["places"] (spBelow C.o)) (bB : Binds K fdB ["places"] []) :
    FnOk P w K mg base (L2.CX P w) 6 f fd ["self", "letters", "rows"] (spInit K CT C T) := by
  refine F.okX sc24 (fun vs H Q E h => ?_) (fun cdv A outer s H vs Q E hr h => ?_)
  · obtain ⟨x, dx, a, vL, L, xs, ds, rfl, _⟩ := h
    rfl
  · obtain ⟨x, dx, a, vL, L, xs, ds, rfl, hx, hL, hasc, hrows, hda, hfit, hz, hT, hbad, kk⟩ := h
    have hu := hu_of hr
    have hlen := deAll_len hda
    refine ⟨_, pss_cons (ps_expr (pe_call GCL (hr.mono (by decide)) (by rfl) gCL kCL bCL .nil (passes_call (takes_of rfl rfl rfl rfl) (fun _ _ _ _ h => h)) (pa_cons (pv 1) pa_nil)))
      (pss_cons (ps_expr (pe_call GCP (hr.mono (by decide)) (by rfl) gCP kCP bCP .nil (passes_call (takes_of rfl rfl rfl rfl) (fun _ _ _ _ h => h)) (pa_cons (pe_callB call_len_seq (by rfl) gN PySem.boot_len (pa_cons (pv 2) pa_nil)) pa_nil)))
      (pss_cons (ps_set (i := 3) sc24.nd rfl (Or.inr rfl) (pe_call GT (hr.mono (by decide)) (by rfl) gT kT bT .nil (passes_call (takes_of rfl rfl rfl rfl) (fun _ _ _ _ h => h)) (pa_cons (pv 1) (pa_cons (pv 2) pa_nil))))
      (pss_cons (ps_set (i := 4) sc24.nd rfl (Or.inl rfl) (pe_call GO hr (by rfl) gO kO bO .nil pass0 (pa_cons (pv 1) (pa_cons (pe_callTy (call_list_dK rfl) (by rfl) gLs PyProof.Rows.boot_list (pa_cons (pv 3) pa_nil)) pa_nil))))
      (pss_cons (ps_fld (pv 0) (pe_call GB (hr.mono (by decide)) (by rfl) gB kB bB .nil (passes_call (takes_of rfl rfl rfl rfl) (fun _ _ _ _ h => h)) (pa_cons (pv 4) pa_nil)) rfl)
      (pss_cons (ps_fld (pv 0) (pv 3) rfl)
      (pss_cons (ps_fld (pv 0) (pv 1) rfl)
      (pss_cons (ps_fld (pv 0) (pe_callTy call_tuple_of (by rfl) gTu PyProof.Rows.boot_tuple (pa_cons (pe_lc (own := [("place", 5)]) (g := gName 5) (tt := tYes) rfl sc24.nd (pi_list (pv 4)) (blkOk_by (N := ["self", "letters", "rows", "table", "places", "place"]) (sc := defScope (inClass (top 37) 0)) (by decide +kernel))
          (fun _ _ _ _ _ => pg_name (i := 5) sc24.nd rfl (Or.inl rfl)) (fun _ _ _ _ _ => pts_nil) (fun _ _ _ _ _ => pe_dget hu (pv 3) (pv 5) (fun _ _ => rfl))) pa_nil)) rfl)
      (pss_cons (ps_fld (pv 0) (pe_callB call_len_seq (by rfl) gN PySem.boot_len (pa_cons (pv 4) pa_nil)) rfl)
      (pss_one (ps_fld (pv 0) (pe_callB (cr_max rfl) (by rfl) gM PyProof.Rows.boot_max (pa_cons (pe_lc (own := [("place", 5)]) (g := gName 5) (tt := tYes) rfl sc24.nd (pi_list (pv 4)) (blkOk_by (N := ["self", "letters", "rows", "table", "places", "place"]) (sc := defScope (inClass (top 37) 0)) (by decide +kernel))
          (fun _ _ _ _ _ => pg_name (i := 5) sc24.nd rfl (Or.inl rfl)) (fun _ _ _ _ _ => pts_nil) (fun _ _ _ _ _ => pe_callB call_len_str (by rfl) gN PySem.boot_len (pa_cons (pv 5) pa_nil))) pa_nil)) rfl)))))))))), ?_⟩
    obtain ⟨bad1, bad2, bad3, bad4⟩ := hbad
    refine ⟨vL, rfl, vL, L, rfl, hL, hasc, fun okL H1 s1 => ?_, fun no => (bad1 (by unfold way; rw [no]; rfl)).to (ExtN.refl H) hT⟩
    obtain ⟨ls, rfl⟩ : ∃ ls, L = .str ls := by
      cases L with
      | str z => exact ⟨z, rfl⟩
      | _ => cases okL
    cases hL
    have hoL := okL_of okL
    have w1 : way (.str ls) ds = (if 1 ≤ ds.length ∧ ds.length ≤ 2000 then (match scan ls [] 0 ds with
      | some i => .row i
      | none => match lone (sortW ls (ds.map placeOf)) with
        | some p => .lone p
        | none => .fine) else .places ds.length) := by
      unfold way
      rw [if_pos okL]
      rfl
    have e1 := ExtN.of s1
    refine ⟨V.ref a, rfl, a, xs, rfl, (hrows.mono e1).seq, xs.length, rfl, fun hn => ?_, fun hn => (bad2 xs.length (by rw [w1, ← hlen, if_neg hn])).to e1 (hT.ext s1)⟩
    rw [hlen] at hn
    rw [if_pos hn] at w1
    refine ⟨V.str ls, rfl, V.ref a, rfl, ls, a, xs, ds, rfl, hrows.mono e1, de_monoAll s1 _ _ hda, hfit, hz, fun hsc H2 Tb kvs s2 nT hTb tb => ?_, fun i e => (bad3 i (by rw [w1, e])).to e1 (hT.ext s1)⟩
    rw [hsc] at w1
    have w2 : way (.str ls) ds = (match lone (sortW ls (ds.map placeOf)) with
        | some p => .lone p
        | none => .fine) := w1
    obtain ⟨hall, hnd⟩ := scan_none hsc
    have e2 := ExtN.of (s1.trans s2)
    have T2 := hT.ext (s1.trans s2)
    have hkeys : (kvs.map fun kv => kV kv.1) = (ds.map placeOf).map V.str := by
      have z := congrArg (List.map kV) tb.1
      rw [List.map_map, List.map_map] at z
      rw [List.map_map]
      exact z
    refine ⟨V.str ls, rfl, V.ref Tb, rfl, Tb, kvs, rfl, hTb, fun q nq => ?_⟩
    have s3 : Same H2 (upd H2 q (.lst (kvs.map fun kv => kV kv.1))) := upd_new nq
    have hq : upd H2 q (.lst (kvs.map fun kv => kV kv.1)) q = some (.lst (kvs.map fun kv => kV kv.1)) := upd_same
    generalize upd H2 q (.lst (kvs.map fun kv => kV kv.1)) = H3 at s3 hq
    rw [hkeys] at hq
    refine ⟨ls, q, ds.map placeOf, rfl, hoL, .inl (.inl hq), fun y hy => ?_, T2.ext s3, fun H4 p eN T4 h4 => ?_⟩
    · obtain ⟨d, hd, rfl⟩ := List.mem_map.mp hy
      obtain ⟨z, b, c, _, _, h3, h4, h5⟩ := okR_elems (hall d hd).1
      rw [h3]
      exact ⟨h4, h5⟩
    have pm := sortW_perm ls (ds.map placeOf)
    have e4 : ExtN H H4 := (e2.trans (ExtN.of s3)).trans eN
    have hTb4 : H4 Tb = some (.dK kvs) := eN _ _ (s3 _ _ hTb) fun ps z => nomatch z
    have hx4 : H4 x = some (.ins CT dx []) := e4 _ _ hx fun ps z => nomatch z
    have p200 : ∀ y ∈ sortW ls (ds.map placeOf), y.cps.size ≤ 200 := fun y hy => by
      obtain ⟨d, hd, rfl⟩ := List.mem_map.mp (pm.mem_iff.mp hy)
      obtain ⟨z, b, c, _, _, h3, h4, h5⟩ := okR_elems (hall d hd).1
      rw [h3]
      exact h4
    have plen : (sortW ls (ds.map placeOf)).length = ds.length := by rw [pm.length_eq, List.length_map]
    have vals : ∀ y ∈ sortW ls (ds.map placeOf), ∃ v, valV kvs (.inr y) = some v := fun y hy => by
      have z := tb.has y
      rw [decide_eq_true (pm.mem_iff.mp hy)] at z
      exact Option.isSome_iff_exists.mp z
    generalize hps : sortW ls (ds.map placeOf) = ps at *
    refine ⟨V.ref p, rfl, p, ps, rfl, h4, pm.nodup_iff.mpr hnd, p200, by omega, fun lo H5 B kv2 s5 nB hB hk hbel => ?_, fun y e => (bad4 y (by rw [w2, e])).to e4 T4⟩
    rw [lo] at w2
    have e5 : ExtN H H5 := e4.trans (ExtN.of s5)
    have T5 := T4.ext s5
    have hx5 := s5 _ _ hx4
    have hT5 := s5 _ _ hTb4
    have hp5 := s5 _ _ h4
    have nxp : p ≠ x := fun z => by
      rw [z, hx5] at hp5
      cases hp5
    have nxT : Tb ≠ x := fun z => by
      rw [z, hx5] at hT5
      cases hT5
    have keep : ∀ (G : Hp) (f : Str) (y : V) (fs : List (Str × V)), (∀ b o, b ≠ x → H5 b = some o → G b = some o) → ∀ b o, b ≠ x → H5 b = some o → upd G x (.ins CT dx (putF f y fs)) b = some o := fun G f y fs g b o hb e => by
      rw [upd_ne hb]
      exact g b o hb e
    have memP : ∀ {i : Nat} {z : V}, (ps.map V.str)[i]? = some z → ∃ y, ps[i]? = some y ∧ V.str y = z := fun {i z} hz => by
      rw [List.getElem?_map] at hz
      cases q : ps[i]? with
      | none =>
        rw [q] at hz
        cases hz
      | some y =>
        rw [q] at hz
        exact ⟨y, rfl, Option.some.inj hz⟩
    have psz : ps.length ≤ 5000 := by omega
    refine ⟨V.ref x, rfl, x, CT, dx, _, rfl, hx5, cT, no _ (by simp), (by decide), ?_⟩
    have g1 := keep H5 "_below" (.ref B) [] (fun b o _ e => e)
    have x1 : upd H5 x (.ins CT dx (putF "_below" (.ref B) [])) x = some (.ins CT dx (putF "_below" (.ref B) [])) := upd_same
    have l1 := putF_le "_below" (.ref B) []
    have k1 : ∀ g : Str, (putF "_below" (V.ref B) []).lookup g = if g = "_below" then some (V.ref B) else ([] : List (Str × V)).lookup g := fun g => lookup_putF _ _ _ _
    generalize putF "_below" (V.ref B) [] = f1 at g1 x1 l1 k1 ⊢
    generalize upd H5 x (.ins CT dx f1) = G1 at g1 x1 ⊢
    refine ⟨V.ref Tb, rfl, V.ref x, rfl, x, CT, dx, _, rfl, x1, cT, no _ (by simp), (by simp at l1; omega), ?_⟩
    have g2 := keep G1 "_table" (.ref Tb) f1 g1
    have x2 : upd G1 x (.ins CT dx (putF "_table" (.ref Tb) f1)) x = some (.ins CT dx (putF "_table" (.ref Tb) f1)) := upd_same
    have l2 := putF_le "_table" (.ref Tb) f1
    have k2 : ∀ g : Str, (putF "_table" (V.ref Tb) f1).lookup g = if g = "_table" then some (V.ref Tb) else f1.lookup g := fun g => lookup_putF _ _ _ _
    generalize putF "_table" (V.ref Tb) f1 = f2 at g2 x2 l2 k2 ⊢
    generalize upd G1 x (.ins CT dx f2) = G2 at g2 x2 ⊢
    refine ⟨V.str ls, rfl, V.ref x, rfl, x, CT, dx, _, rfl, x2, cT, no _ (by simp), (by simp at l1; omega), ?_⟩
    have g3 := keep G2 "letters" (.str ls) f2 g2
    have x3 : upd G2 x (.ins CT dx (putF "letters" (.str ls) f2)) x = some (.ins CT dx (putF "letters" (.str ls) f2)) := upd_same
    have l3 := putF_le "letters" (.str ls) f2
    have k3 : ∀ g : Str, (putF "letters" (V.str ls) f2).lookup g = if g = "letters" then some (V.str ls) else f2.lookup g := fun g => lookup_putF _ _ _ _
    generalize putF "letters" (V.str ls) f2 = f3 at g3 x3 l3 k3 ⊢
    generalize upd G2 x (.ins CT dx f3) = G3 at g3 x3 ⊢
    refine ⟨V.ref p, rfl, p, rfl, ⟨_, .inl (.inl (g3 _ _ nxp hp5))⟩, fun D nD => lc_it (walk_list (K := K) (xs := ps.map V.str)) (fun i G => Same G3 G ∧ G D = some (.lst ((ps.take i).map fun y => (valV kvs (.inr y)).getD .non))) ⟨upd_new nD, upd_same⟩ (fun i G _ q => .inl (.inl (q.1 _ _ (g3 _ _ nxp hp5)))) ?_ ?_⟩
    · rintro i z G G' hi ⟨sG, hD⟩ ⟨rfl, hz2⟩
      obtain ⟨y, hy, rfl⟩ := memP hz2
      obtain ⟨v, hv⟩ := vals y (List.mem_of_getElem? hy)
      have dg := DGet.k (k := (.inr y : Key)) (sG _ _ (g3 _ _ nxT hT5))
      rw [hv] at dg
      have hil : i < ps.length := by simpa using hi
      have z2 : (5000 : Nat) < sizeLine := by decide
      refine ⟨rfl, V.ref Tb, rfl, V.str y, rfl, Tb, v, rfl, dg, _, hD, by rw [List.length_map, List.length_take]; omega, fun b o e => ?_, ?_⟩
      · rw [upd_ne (ne_of_none e nD)]
        exact sG _ _ e
      · rw [take_next hy, List.map_append]
        show upd _ D (.lst (_ ++ [v])) D = some (.lst (_ ++ [(valV kvs (.inr y)).getD .non]))
        rw [hv]
        exact upd_same
    rintro G4 ⟨s4, hD4⟩
    have etk0 : ps.take (ps.map V.str).length = ps := List.take_of_length_le (by simp)
    rw [etk0] at hD4
    refine ⟨D, _, rfl, .inl ⟨.inl (.inl hD4), fun l nl => ?_⟩⟩
    generalize hacc : (ps.map fun y => (valV kvs (.inr y)).getD .non) = acc at hD4
    have s5' := s4.trans (upd_new (o := .tup acc) nl)
    have hl5 : upd G4 l (.tup acc) l = some (.tup acc) := upd_same
    generalize upd G4 l (.tup acc) = G5 at s5' hl5
    have g5 : ∀ b o, b ≠ x → H5 b = some o → G5 b = some o := fun b o hb e => s5' _ _ (g3 b o hb e)
    refine ⟨V.ref x, rfl, x, CT, dx, _, rfl, s5' _ _ x3, cT, no _ (by simp), (by simp at l1; omega), ?_⟩
    have g6 := keep G5 "rows" (.ref l) f3 g5
    have nlx : l ≠ x := fun z => by
      rw [z, s5' _ _ x3] at hl5
      cases hl5
    have hl6 : upd G5 x (.ins CT dx (putF "rows" (.ref l) f3)) l = some (.tup acc) := by
      rw [upd_ne nlx]
      exact hl5
    have x6 : upd G5 x (.ins CT dx (putF "rows" (.ref l) f3)) x = some (.ins CT dx (putF "rows" (.ref l) f3)) := upd_same
    have l6 := putF_le "rows" (.ref l) f3
    have k6 : ∀ g : Str, (putF "rows" (V.ref l) f3).lookup g = if g = "rows" then some (V.ref l) else f3.lookup g := fun g => lookup_putF _ _ _ _
    generalize putF "rows" (V.ref l) f3 = f6 at g6 x6 l6 k6 hl6 ⊢
    generalize upd G5 x (.ins CT dx f6) = G6 at g6 x6 hl6 ⊢
    refine ⟨V.ref p, rfl, p, ps.map V.str, rfl, .inl (.inl (.inl (g6 _ _ nxp hp5))), V.ref x, rfl, x, CT, dx, _, rfl, x6, cT, no _ (by simp), (by simp at l1; omega), ?_⟩
    have g7 := keep G6 "size" (.int (ps.map V.str).length) f6 g6
    have hl7 : upd G6 x (.ins CT dx (putF "size" (.int (ps.map V.str).length) f6)) l = some (.tup acc) := by
      rw [upd_ne nlx]
      exact hl6
    have x7 : upd G6 x (.ins CT dx (putF "size" (.int (ps.map V.str).length) f6)) x = some (.ins CT dx (putF "size" (.int (ps.map V.str).length) f6)) := upd_same
    have l7 := putF_le "size" (.int (ps.map V.str).length) f6
    have k7 : ∀ g : Str, (putF "size" (V.int (ps.map V.str).length) f6).lookup g = if g = "size" then some (V.int (ps.map V.str).length) else f6.lookup g := fun g => lookup_putF _ _ _ _
    generalize putF "size" (V.int (ps.map V.str).length) f6 = f7 at g7 x7 l7 k7 hl7 ⊢
    generalize upd G6 x (.ins CT dx f7) = G7 at g7 x7 hl7 ⊢
    refine ⟨V.ref p, rfl, p, rfl, ⟨_, .inl (.inl (g7 _ _ nxp hp5))⟩, fun D2 nD2 => lc_it (walk_list (K := K) (xs := ps.map V.str)) (fun i G => Same G7 G ∧ G D2 = some (.lst (((ps.take i).map fun y => (y.length : Int)).map V.int))) ⟨upd_new nD2, upd_same⟩ (fun i G _ q => .inl (.inl (q.1 _ _ (g7 _ _ nxp hp5)))) ?_ ?_⟩
    · rintro i z G G' hi ⟨sG, hD⟩ ⟨rfl, hz2⟩
      obtain ⟨y, hy, rfl⟩ := memP hz2
      have hil : i < ps.length := by simpa using hi
      have z2 : (5000 : Nat) < sizeLine := by decide
      have et : ps.take (i + 1) = ps.take i ++ [y] := by
        rw [List.take_add_one, hy]
        rfl
      refine ⟨rfl, V.str y, rfl, y, rfl, Nat.le_trans (p200 y (List.mem_of_getElem? hy)) (by decide), _, hD, by rw [List.length_map, List.length_map, List.length_take]; omega, fun b o e => ?_, ?_⟩
      · rw [upd_ne (ne_of_none e nD2)]
        exact sG _ _ e
      · rw [et, List.map_append, List.map_append]
        exact upd_same
    rintro G8 ⟨s8, hD8⟩
    have etk : ps.take (ps.map V.str).length = ps := List.take_of_length_le (by simp)
    rw [etk] at hD8
    refine ⟨D2, _, rfl, .inl (.inl hD8), by rw [List.length_map]; omega, fun m hm1 hm2 => ?_⟩
    refine ⟨V.ref x, rfl, x, CT, dx, _, rfl, s8 _ _ x7, cT, no _ (by simp), (by simp at l1; omega), ?_⟩
    have g9 := keep G8 "height" (.int m) f7 (fun b o hb e => s8 _ _ (g7 b o hb e))
    have hl8 := s8 _ _ hl7
    have k9 : ∀ g : Str, (putF "height" (V.int m) f7).lookup g = if g = "height" then some (V.int m) else f7.lookup g := fun g => lookup_putF _ _ _ _
    have nBx : B ≠ x := fun z => by
      rw [z, hx5] at hB
      cases hB
    have hx2 := (s1.trans s2) _ _ hx
    have tail : ∀ b o, b ≠ x → H2 b = some o → (∀ ps, o ≠ .tbl ps) → upd G8 x (.ins CT dx (putF "height" (.int m) f7)) b = some o := fun b o hb e ht => g9 b o hb (s5 _ _ (eN _ _ (s3 _ _ e) ht))
    have hlen := congrArg List.length tb.1
    rw [List.length_map, List.length_map] at hlen
    refine kk w2 _ _ (fun b o hb e ht => g9 b o hb (e5 b o e ht)) (Tabs.but T5 hx5 g9) upd_same ⟨B, Tb, l, kvs, kv2, ps, m, ?_, ?_, ?_, ⟨?_, ?_, ?_, ?_, ?_⟩, ?_, g9 _ _ nxT hT5, ⟨tb.1, fun i d hd => ?_⟩, g9 _ _ nBx hB, hk, hbel, ?_, ?_, by omega⟩
    · rw [k9, if_neg (by decide), k7, if_neg (by decide), k6, if_neg (by decide), k3, if_neg (by decide), k2, if_neg (by decide), k1, if_pos rfl]
    · rw [k9, if_neg (by decide), k7, if_neg (by decide), k6, if_neg (by decide), k3, if_neg (by decide), k2, if_pos rfl]
    · rw [k9, if_neg (by decide), k7, if_neg (by decide), k6, if_pos rfl]
    · rw [k9, if_neg (by decide), k7, if_neg (by decide), k6, if_neg (by decide), k3, if_pos rfl]
      rfl
    · rw [k9, if_neg (by decide), k7, if_pos rfl, List.length_map]
    · rw [k9, if_pos rfl]
    · obtain ⟨y, hy, e⟩ := List.mem_map.mp hm1
      exact ⟨y, hy, e.symm⟩
    · intro y hy
      exact hm2 _ (List.mem_map.mpr ⟨y, hy, rfl⟩)
    · intro g hg
      unfold six6 at hg
      simp only [List.mem_cons, List.not_mem_nil, or_false, not_or] at hg
      rw [k9, if_neg hg.2.2.2.2.2, k7, if_neg hg.2.2.2.2.1, k6, if_neg hg.2.2.2.1, k3, if_neg hg.2.2.1, k2, if_neg hg.2.1, k1, if_neg hg.1]
      rfl
    · obtain ⟨v, h1, h2⟩ := tb.2 i d hd
      exact ⟨v, h1, de_insN hx2 tail h2⟩
    · rw [upd_ne nlx, hl8, hacc]
    · exact hps.symm
end
end SK
/-! ### several except clauses, each with a name -/
namespace SK
open PySem PySem.Spec PyProof.Rows L2 LamX NdefX
abbrev Cl := Value × (Addr → Value → Option Addr → TS)
/-- what the clauses wish; i is the slot of their name -/
def wAsM (K : PySem.W.Frag) (Wout : WX) (i : Nat) (D : Ends) : List Cl → WX
  | [] => Wout
  | (c, ts) :: r => wAs K c i ts (wAsM K Wout i D r) D
inductive HdsAs (X : Cx) (n : Str) : List ExceptHandler → List Cl → Prop
  | nil : HdsAs X n [] []
  | cons {x : Str} {c : Value} {ts : Addr → Value → Option Addr → TS} {b₀ : Stmt} {suite : List Stmt} {np pos' : Pos} {hds : List ExceptHandler} {l : List Cl} (hc : Names X x c)
      (hsu : ∀ (a : Addr) (oe : Obj) (cls : Value) (d : Option Addr) (pn : List (Addr × Obj)), Zc cls d oe → (∃ vs, oe.data = .fields vs) → PSs (X.suite a ((a, oe) :: pn)) (b₀ :: suite) (ts a cls d)) (r : HdsAs X n hds l) :
      HdsAs X n (.ExceptHandler (some (.Name x np)) (some n) (b₀ :: suite) pos' :: hds) ((c, ts) :: l)
section
variable {X : Cx} {n : Str} {i : Nat} {body : List Stmt} {h₀ : ExceptHandler} {hds : List ExceptHandler} {l : List Cl} {pos : Pos} {tb : WX → TS} {Wout : WX}
theorem ps_try_asM (hs : X.stack = X.env :: X.outer) (hf : X.env.frame = some X.env.locals) (hN : X.N.Nodup) (hi : X.N[i]? = some n) (hln : X.env.kindOf n = some .local) (tk : Takes X Wout)
    (hb : ∀ (W : WX) (pn : List (Addr × Obj)) (xe : Value → Shared → Prop), Takes (X.tr pn xe) W → PassesOwn (model X.prog X.w) X.A X.env xe → PSs (X.tr pn xe) body (tb W))
    (hh : HdsAs X n (h₀ :: hds) l) : PS X (.Try body (h₀ :: hds) [] [] pos) (fun D σ H => tb (wAsM X.K Wout i D l) D σ H) := by
  refine ⟨fun pins s σ H D I h => ?_⟩
  have ok := I.ok
  have hfr : X.A.frames = some (X.env :: X.outer) := by rw [ok.frames, hs]
  have hloc : Loc X.env.scope n := .inl hln
  refine wpAny_Try_except ?_
  refine wpAny_mono ((hb (wAsM X.K Wout i D l) (X.pn ++ pins) (fun e s₁ => wpAny (model X.prog X.w) X.A (noteFrame e X.env) (fun _ s₂ => wpAny (model X.prog X.w) X.A (setFlight e none) (fun _ s₃ =>
    wpAny (model X.prog X.w) X.A (handleBy e X.env (h₀ :: hds)) (SP X pins D) X.xe s₃) X.xe s₂) X.xe s₁) (fun u s' xx => ?_) PassesOwn.looking).run [] s σ H D (I.toTry _) h) (fun f s1 hsp => ?_) (fun e s1 he => he)
  · obtain ⟨a, B, sI, pins', σ', H', cls, d, rfl, J', nb, up, sky, na, os, ag, w⟩ := xx
    have J : Inv X pins σ' H' sI := J'.ofTry ok
    have sky' : Sky B (X.env :: X.outer) a (Zc cls d) X.env.locals s'.heap := by rw [← hs]; exact sky
    show wpAny (model X.prog X.w) X.A (noteFrame (.ref a) X.env) _ _ _
    refine Sky.land Zc.steady hfr hf sky' fun h3 fl3 up3 => ?_
    have J3 : Inv X pins σ' H' { s' with heap := h3 } := J.landed nb fl3.1 (up.trans up3) os ag
    obtain ⟨oe3, vs3, he3, hz3, hd3⟩ := fl3.there
    have apart : ∀ {h : Heap} {o : Obj} {vs : Array Value}, h.FunFrames B (X.env :: X.outer) → h.get? a = some o → o.data = .fields vs → a ∉ frs (X.env :: X.outer) := fun {h o vs} ff e dd hm => by
      obtain ⟨_, o', e', hnf⟩ := ff.mem hm
      rw [e] at e'
      cases e'
      exact hnf _ dd
    have nfr := apart fl3.2.2.1 he3 hd3
    have nL : a ≠ X.env.locals := fun z => nfr (List.mem_filterMap.mpr ⟨X.env, List.mem_cons_self, by rw [hf, z]⟩)
    have nF : a ∉ X.fs := fun hm => by
      obtain ⟨e, he, q⟩ := List.mem_filterMap.mp hm
      exact nfr (List.mem_filterMap.mpr ⟨e, List.mem_cons_of_mem _ he, q⟩)
    have S3 := J3.suite he3 hd3 na nL nF
    have go : ∀ {hds' : List ExceptHandler} {l' : List Cl}, HdsAs X n hds' l' → wAsM X.K Wout i D l' cls d σ' H' → wpAny (model X.prog X.w) X.A (handleBy (.ref a) X.env hds') (SP X pins D) X.xe { s' with heap := h3 } := by
      intro hds' l' hk
      induction hk with
      | nil =>
        intro w
        refine wpAny_handleBy_nil ?_
        obtain ⟨k1, k2, k3, oe, vs, T, oT, ts', he, hz, hd, h1, hr⟩ := id fl3
        unfold PySem.passOn
        refine wpAny_bind (wpAny_field he hd h1 ?_)
        rw [if_neg (show ¬ ((Value.ref T == Value.none) = true) from by simp)]
        have fin : wpAny (model X.prog X.w) X.A (setFlight (.ref a) X.env.frame) (fun _ s4 => wpAny (model X.prog X.w) X.A (throw (.ref a) : Sem Flow) (SP X pins D) X.xe s4) X.xe { s' with heap := h3 } := by
          rw [hf]
          refine HandSPX.setFlight_upZ fl3 fun h4 hh4 up4 => wpAny_throw (tk _ _ ?_)
          exact ⟨a, B, sI, pins, σ', H', cls, d, rfl, J, nb, (up.trans up3).trans up4, .inr (.inr (by rw [hs]; exact hh4)), na, os, ag, w⟩
        first
          | exact wpAny_bind (wpAny_pure (wpAny_bind fin))
          | exact wpAny_bind fin
      | @cons x c ts b₀ suite np pos' hds2 l2 hc hsu r ih =>
        intro w
        obtain ⟨b, hb1, hyes, hno⟩ := w
        refine wpAny_handleBy_cons (codeAny_handlers_test ?_) (by intro q; cases q)
        have LT : PySem.W.Looks (model X.prog X.w) h3 (typeOf (.ref a)) cls := fun A Q E s k q => wpAny_typeOf_ref (k _ _ he3) (by rw [hz3.1]; exact q)
        have LM := PySem.W.exm_one (M := model X.prog X.w) (J3.kIn) LT hb1
        have test : ∀ {Q : Value → Shared → Prop} {E : Value → Shared → Prop}, Q c { s' with heap := h3 } → wpAny (model X.prog X.w) (X.A.mark (some (.ref a))) (eval (.Name x np) X.env) Q E { s' with heap := h3 } := fun {Q E} q => by
          obtain ⟨hg, hdbg, hm | ⟨hm, hv, hnn⟩⟩ := hc
          · exact ld_glob (X := X.suite a ((a, oe3) :: (X.pn ++ pins))) S3 hg hm q hdbg
          · exact ld_blt (X := X.suite a ((a, oe3) :: (X.pn ++ pins))) S3 hg hm hv q hnn hdbg
        refine test (LM.here ?_)
        cases b with
        | true =>
          refine codeAny_handlers_suite_as ?_
          refine HandSPX.lands_againZ fl3 fun h4 fl4 up4 => ?_
          have J4 : Inv X pins σ' H' { s' with heap := h4 } := J.landed nb fl4.1 ((up.trans up3).trans up4) os ag
          obtain ⟨oe4, vs4, he4, hz4, hd4⟩ := fl4.there
          have S4 := J4.suite he4 hd4 na nL nF
          refine store_ok (X := X.suite a ((a, oe4) :: (X.pn ++ pins))) (v := .ref a) S4 hN hi hloc rfl (fun s5 S5 => ?_) (.inr hln)
          refine wpAny_mono ((hsu a oe4 cls d (X.pn ++ pins) hz4 ⟨_, hd4⟩).run [] s5 _ H' _ S5 (hyes rfl a na)) (fun f s6 hsp => ?_) (fun _ _ z => False.elim z)
          have ends : ∀ {σ6 : St} {H6 : Hp} {Q : Shared → Prop}, Inv (X.suite a ((a, oe4) :: (X.pn ++ pins))) [] σ6 H6 s6 → (∀ s7, Inv X pins (σ6.set i none) H6 s7 → Q s7) →
              wpAny (model X.prog X.w) X.A (do bindName X.env n .none; unbindBehindTheSuite X.env n pos') (fun _ s7 => Q s7) X.xe s6 := fun {σ6 H6 Q} S6 hq => gone_ok (S6.unsuite ok) hN hi hln hq
          cases f with
          | next =>
            obtain ⟨σ6, H6, S6, q6⟩ := hsp
            exact ends S6 fun s7 J7 => ⟨_, _, J7, q6⟩
          | brk =>
            obtain ⟨σ6, H6, S6, q6⟩ := hsp
            exact ends S6 fun s7 J7 => ⟨_, _, J7, q6⟩
          | cont =>
            obtain ⟨σ6, H6, S6, q6⟩ := hsp
            exact ends S6 fun s7 J7 => ⟨_, _, J7, q6⟩
          | ret u =>
            obtain ⟨v6, σ6, H6, S6, r6, q6⟩ := hsp
            exact ends S6 fun s7 J7 => ⟨_, _, _, J7, r6, q6⟩
        | false =>
          show wpAny _ X.A (handleBy (.ref a) X.env hds2) _ _ _
          exact ih (hno rfl)
    exact go hh w
  · cases f with
    | next =>
      obtain ⟨σ', H', J', q⟩ := hsp
      exact wpAny_execs_nil ⟨σ', H', J'.ofTry ok, q⟩
    | brk =>
      obtain ⟨σ', H', J', q⟩ := hsp
      exact ⟨σ', H', J'.ofTry ok, q⟩
    | cont =>
      obtain ⟨σ', H', J', q⟩ := hsp
      exact ⟨σ', H', J'.ofTry ok, q⟩
    | ret u =>
      obtain ⟨v, σ', H', J', r, q⟩ := hsp
      exact ⟨v, σ', H', J'.ofTry ok, r, q⟩
end
/-- isinstance(e, c), e the exception that the suite holds, with fields -/
def rIsD (K : PySem.W.Frag) (a : Addr) (cls : Value) (d : Option Addr) : List V → Hp → VK → Prop := fun xs H Q => ∃ (D dx : Addr) (fs : List (Str × V)), cls = .ref D ∧ d = some dx ∧ ExcC K D ∧ H dx = some (.xd fs) ∧ rIsE K D a xs H Q
theorem call_isD {X : Cx} {a : Addr} {cls : Value} {d : Option Addr} {oe : Obj} {pn : List (Addr × Obj)} (hz : Zc cls d oe) (hf : ∃ vs, oe.data = .fields vs) : CallR (X.suite a ((a, oe) :: pn)) (.builtin "isinstance") (rIsD X.K a cls d) := by
  intro pins s σ H xs us Q I r h
  obtain ⟨D, dx, fs, rfl, rfl, C, hdx, c, cv, b, rfl, hcv, e, q⟩ := h
  obtain ⟨u1, u2, rfl, r1, r2⟩ := vals2 r
  obtain rfl : u1 = Value.ref a := r1
  obtain rfl := hcv _ r2
  obtain ⟨hget, _⟩ := I.pin (a, oe) (List.mem_append.mpr (.inl List.mem_cons_self))
  obtain ⟨vs, hv⟩ := hf
  have hx : ObjOk X.prog X.w H s.heap dx (.xd fs) := I.hok dx _ hdx
  obtain ⟨mA, hns, hr⟩ := hx
  obtain ⟨od, ho, hl⟩ := lookIn_ns hns
  have J : PySem.W.InstAt s.heap a oe D (some od) := ⟨hget, hz.1, by unfold PySem.W.notCls; rw [hv] <;> rfl, by rw [hz.2]; exact ho⟩
  have hc : (PySem.W.clsIn X.K D).isSome = true := by
    obtain ⟨cd, hcd, _⟩ := PySem.W.any_some C.hd
    rw [hcd]
    rfl
  exact PySem.W.kia_one (PySem.W.kitx_exc (ox := oe) (od := some od) hc C.hg C.hk C.hs C.ha C.hn C.ht C.hm) I.kIn J e (fun z => nomatch z) fun tk => ⟨.bl b, H, I.kept (t' := tk) fun _ _ z => z, rfl, q⟩
end SK
namespace SK
open PySem PySem.Spec PyProof.Rows L2 LamX NdefX
open K0 (De DeAll XCl spX withX)
/-! ### defs that are called where no repr is under way -/
structure FnG (P : Program) (w : World) (K : PySem.W.Frag) (mg : Str → Option Value) (base : Heap) (CX : CXT) (k : Nat) (f : Addr) (fd : FuncData) (ps : List Str) (sp : Sp) : Prop where
  len : ∀ vs H Q E, sp vs H Q E → vs.length = ps.length
  run : ∀ (A : Around) (outer : List Env) (s : Shared) (H : Hp) (args : Args) (us : List Value) (vs : List V) (Q : VK) (E : XK), A.guards = some [] → Room k A → Env0 P w K mg base A outer s H → BindsTo s fd args (ps.zip us) → Vals vs us → sp vs H Q E →
    codeAny (model P w) A (.call (.ref f) args) (CR CX outer P w H s Q E) s
theorem FnG.ok {P : Program} {w : World} {K : PySem.W.Frag} {mg : Str → Option Value} {base : Heap} {x qual : Str} {st : Stmt} {f : Addr} {fd : FuncData} {N ps : List Str} {k : Nat} {sp : Sp} (F : Fun K x qual st f fd) (S : FnScope N ps (defScope st)) (len : ∀ vs H Q E, sp vs H Q E → vs.length = ps.length)
    (hbody : ∀ (cdv : Value) (A : Around) (outer : List Env) (s : Shared) (H : Hp) (vs : List V) (Q : VK) (E : XK), (A.deeper (envOfC qual (defScope st) s.heap.objs.size f cdv)).guards = some [] → Room k (A.deeper (envOfC qual (defScope st) s.heap.objs.size f cdv)) → sp vs H Q E →
      ∃ t, PSs (cxOf CX0 P w K mg base N qual (defScope st) f cdv A outer s H E).nox (defBody st) t ∧ t { nx := fun _ H' => Q .non H', rt := Q } (start N vs) H) : FnG P w K mg base CX0 (k + 1) f fd ps sp := by
  obtain ⟨oc, od, kV, doc, pm, an, cdv, ct, osl, rfl, lk, hcd⟩ := F.ex
  refine ⟨len, fun A outer s H args us vs Q E hg hr e0 hb r hsp => run_ofS lk hcd S hr e0 hb r (len _ _ _ _ hsp) fun hr' => ?_⟩
  obtain ⟨t, h, q⟩ := hbody cdv A outer s H vs Q E hg hr' hsp
  exact ⟨t, h.nox, q⟩
def tCallG (sp : Sp) (E : XK) (t : TA) : TE := fun σ H Q => t σ H fun vs H1 => sp vs H1 Q E
section
variable {X : Cx} {CX : CXT} {k : Nat} {f C : Addr} {fd : FuncData} {ps : List Str} {ds : List Value} {dvs : List V} {sp : Sp} {E : XK} {x : Str} {p pos : Pos} {e : Expr} {es : List Expr} {t : TA}
theorem run_fnG {pins : List (Addr × Obj)} {σ : St} {H : Hp} {s : Shared} {Q : VK} {us : List Value} {vs : List V} (F : FnG X.prog X.w X.K X.mg X.base CX k f fd ps sp) (hgd : X.A.guards = some []) (hr : Room k X.A) (hb : Binds X.K fd ps []) (hx : Passes CX X E) (I : Inv X pins σ H s) (r : Vals vs us)
    (h : sp vs H Q E) : wpAny (model X.prog X.w) X.A (call (.ref f) us) (EP X pins σ Q) X.xe s := by
  have hl : us.length = ps.length := by
    rw [← r.length]
    exact F.len _ _ _ _ h
  have b := hb s us I.kIn (by rw [List.append_nil]; exact hl)
  rw [List.append_nil] at b
  refine wpAny_call (codeAny_mono (F.run X.A X.stack s H ⟨us, []⟩ us vs Q E hgd hr I.env0 b r h) fun r s' hq => ?_)
  cases r with
  | error e => exact hx pins σ H s e s' I hq
  | ok fl =>
    cases fl with
    | ret u => exact I.after hq
    | next => exact False.elim hq
    | brk => exact False.elim hq
    | cont => exact False.elim hq
theorem pe_callG (F : FnG X.prog X.w X.K X.mg X.base CX k f fd ps sp) (hgd : X.A.guards = some []) (hr : Room k X.A) (hg : Gl X x) (hm : X.mg x = some (.ref f)) (hk : PySem.W.keepIn X.K (.ref f) = true) (hb : Binds X.K fd ps []) (hx : Passes CX X E)
    (ha : PA X (e :: es) t) (hdb : (x == ("__debug__" : Str)) = false := by decide) (he : starEach (e :: es) X.env = (false, eval e X.env) :: starEach es X.env := by rfl) (hpl : (backTo pos (starEach es X.env)).any (·.1) = false := by rfl) :
    PE X (.Call (.Name x p) (e :: es) [] pos) (tCallG sp E t) := by
  refine ⟨fun pins s σ H Q I h => ?_⟩
  refine wpAny_Call_Name_kw (ld_glob I hg hm ?_ hdb)
  refine PySem.W.callWith_K (h₀ := X.base) I.ok.mod.kin hk (thn (ha.run pos pins s σ H _ I h) fun us s1 ⟨vs, H1, I1, r, q⟩ => ⟨I1.kIn, ?_⟩) he hpl
  exact run_fnG F hgd hr hb hx I1 r q
/-- C(..), what is raised wished for at the caller's slots -/
def tMakeS (C : Addr) (sp : Sp) (E : St → XK) (t : TA) : TE := fun σ H Q => t σ H fun vs H1 => ∀ x dx, H1 x = none → H1 dx = none → dx ≠ x → sp (.ref x :: vs) (upd (upd H1 dx (.own x)) x (.ins C dx [])) (fun v H2 => v = .non ∧ Q (.ref x) H2) (E σ)
theorem pe_makeS {E : St → XK} (M : Mk X.K C f) (F : FnOk X.prog X.w X.K X.mg X.base CX k f fd ps sp) (hr : Room (k + 1) X.A) (hg : Gl X x) (hm : X.mg x = some (.ref C)) (hb : Binds X.K fd ps []) (hx : ∀ σ, PassesAt CX X σ (E σ)) (ha : PA X (e :: es) t)
    (hdb : (x == ("__debug__" : Str)) = false := by decide) (he : starEach (e :: es) X.env = (false, eval e X.env) :: starEach es X.env := by rfl) (hpl : (backTo pos (starEach es X.env)).any (·.1) = false := by rfl) :
    PE X (.Call (.Name x p) (e :: es) [] pos) (tMakeS C sp E t) := by
  refine ⟨fun pins s σ H Q I h => ?_⟩
  refine wpAny_Call_Name_kw (ld_glob I hg hm ?_ hdb)
  refine PySem.W.callWith_K (h₀ := X.base) I.ok.mod.kin M.kp (thn (ha.run pos pins s σ H _ I h) fun us s1 ⟨vs, H1, I1, r, q⟩ => ⟨I1.kIn, ?_⟩) he hpl
  have hq := q (s1.heap.objs.size + 1) s1.heap.objs.size (I1.hok.fresh (Nat.le_succ _)) (I1.hok.fresh (Nat.le_refl _)) (Nat.ne_of_lt (Nat.lt_succ_self _))
  have I2 := Inv.made (C := C) I1
  have r2 : Vals (V.ref (s1.heap.objs.size + 1) :: vs) (Value.ref (s1.heap.objs.size + 1) :: us) := .cons rfl r
  have hl : (Value.ref (s1.heap.objs.size + 1) :: us).length = ps.length := by
    have z := r2.length
    rw [F.len _ _ _ _ hq] at z
    exact z.symm
  have b := hb _ (Value.ref (s1.heap.objs.size + 1) :: us) I2.kIn (by rw [List.append_nil]; exact hl)
  rw [List.append_nil] at b
  show wpAny _ _ (call (.ref C) us) _ _ _
  refine wpAny_call (make_map (f := f) I1.kIn M.makes M.init (beq_iff_eq.mp M.fn) (codeAny_mono (F.run _ X.stack _ _ ⟨Value.ref (s1.heap.objs.size + 1) :: us, []⟩ (Value.ref (s1.heap.objs.size + 1) :: us) _ _ (E σ) (hr.make C us [])
    (I2.env0.make C us []) b r2 hq) fun r s' hq' => ?_))
  cases r with
  | error er => exact hx σ pins _ _ er s' I2 hq'
  | ok fl =>
    cases fl with
    | ret u =>
      obtain ⟨v, H', I3, rv, ev, q3⟩ := I2.after hq'
      subst ev
      exact ⟨rv, ⟨V.ref (s1.heap.objs.size + 1), H', I3, rfl, q3⟩⟩
    | next => exact False.elim hq'
    | brk => exact False.elim hq'
    | cont => exact False.elim hq'
/-- repr(x), x any data -/
def rRepD (K : PySem.W.Frag) : List V → Hp → VK → Prop := fun xs H Q => ∃ (v : V) (d : PyData), xs = [v] ∧ De K H v d ∧ d.showable = true ∧ d.depth ≤ 8 ∧ d.shown.length ≤ sizeLine ∧ Q (.str d.shown) H
theorem call_repD (hg : X.A.guards = some []) (hu : X.A.units + 64 < cLine) (hsys : ∃ o, X.K.lookup sysModules = some o) : CallR X (.builtin "repr") (rRepD X.K) := by
  intro pins s σ H xs us Q I r h
  obtain ⟨v, d, rfl, hd, hsh, hdp, hz, q⟩ := h
  cases hd with
  | non =>
    obtain ⟨u, rfl, ru⟩ := vals1 r
    obtain rfl : u = Value.none := ru
    exact PySem.P.repr_of_none ⟨.str _, H, I.tok _, ⟨_, rfl⟩, q⟩
  | bl b =>
    obtain ⟨u, rfl, ru⟩ := vals1 r
    obtain rfl : u = Value.bool b := ru
    exact PySem.P.repr_of_bool ⟨.str _, H, I.tok _, ⟨_, rfl⟩, by cases b <;> exact q⟩
  | int i =>
    obtain ⟨u, rfl, t, rfl⟩ := vals1 r
    refine PySem.P.repr_of_int (by simpa [PyData.showable] using hsh) ⟨.str _, H, I.tok _, ⟨_, rfl⟩, q⟩
  | str x =>
    obtain ⟨u, rfl, t, rfl⟩ := vals1 r
    exact PySem.P.repr_of_str ⟨.str _, H, I.tok _, ⟨_, rfl⟩, q⟩ hz
  | @lst a vs ds ha hds => exact K0.call_rep hg hu hsys pins s σ H _ us Q I r ⟨a, _, rfl, .lst ha hds, hsh, hdp, hz, q⟩
  | @tup a vs ds ha hds => exact K0.call_rep hg hu hsys pins s σ H _ us Q I r ⟨a, _, rfl, .tup ha hds, hsh, hdp, hz, q⟩
  | @dic a ha => exact K0.call_rep hg hu hsys pins s σ H _ us Q I r ⟨a, _, rfl, .dic ha, hsh, hdp, hz, q⟩
end
end SK
namespace SK
open PySem PySem.Spec PyProof.Rows L2 LamX NdefX
open K0 (De DeAll XCl spX withX)
/-! ### how a tree is met -/
/-- what is told of the four error classes together -/
structure Excs (P : Program) (w : World) (K : PySem.W.Frag) (mg : Str → Option Value) (base : Heap) (C : Cs) (tE : Addr) : Prop where
  dl : XR P w K mg base "BadLetters" C.l ["letters"]
  dm : XR P w K mg base "TooMany" C.m ["what", "many", "most"]
  dr : XR P w K mg base "BadRow" C.r ["number"]
  dn : XR P w K mg base "Lone" C.o ["place"]
  gX : mg "TreesError" = some (.ref tE)
  ll : PySem.W.exmOne K (.ref C.l) (.ref C.l) = some true
  ml : PySem.W.exmOne K (.ref C.m) (.ref C.l) = some false
  mm : PySem.W.exmOne K (.ref C.m) (.ref C.m) = some true
  rl : PySem.W.exmOne K (.ref C.r) (.ref C.l) = some false
  rm : PySem.W.exmOne K (.ref C.r) (.ref C.m) = some false
  rr : PySem.W.exmOne K (.ref C.r) (.ref C.r) = some true
  ol : PySem.W.exmOne K (.ref C.o) (.ref C.l) = some false
  om : PySem.W.exmOne K (.ref C.o) (.ref C.m) = some false
  or : PySem.W.exmOne K (.ref C.o) (.ref C.r) = some false
  oo : PySem.W.exmOne K (.ref C.o) (.ref C.o) = some true
  kr : PySem.W.kitOne K (.ref C.r) (.ref tE) = some true
theorem xf_of {K : PySem.W.Frag} {C : Addr} (c : XCl K C) : XfC K C := ⟨c.ga, c.gg, c.T.exC, c.hd⟩
theorem ec_of {K : PySem.W.Frag} {C : Addr} (c : XCl K C) : ExcC K C := ⟨c.ga, c.gg, c.T.exC, c.hd, c.ha, c.hn, c.ht, c.hm⟩
/-- the answer, by the way -/
def ansV (L : PyData) : Way → List V
  | .letters => [.str "letters", .str L.shown]
  | .places n => [.str "places", .int n, .int 2000]
  | .row i => [.str "row", .int i, .bl true]
  | .lone p => [.str "lone", .str p]
  | .fine => []
structure Small (d : PyData) : Prop where
  sh : d.showable = true
  dp : d.depth ≤ 8
  ln : d.shown.length ≤ 5000
/-- what is asked of letters and rows -/
structure Asked (K : PySem.W.Frag) (T : List (Addr × Str)) (H : Hp) (vL : V) (a : Addr) (L : PyData) (xs : List V) (ds : List PyData) : Prop where
  let_ : De K H vL L
  asc : ∀ z, L = .str z → z.cps.all (· < 128) = true ∧ z.cps.size ≤ 1000
  sm : Small L
  rows : Rows H a xs
  all : DeAll K H xs ds
  fit : ∀ d ∈ ds, Fit d
  len : xs.length ≤ 5000
  tab : Tabs T H
theorem lk3 {n : Nat} (j : Nat) : ([(("most" : Str), V.int 2000), ("many", V.int n), ("what", V.str "places")] : List (Str × V)).lookup ((["most", "many", "what"] : List Str).getD j "most") = some (([V.int 2000, V.int n, V.str "places"] : List V).getD j (V.int 2000)) := by
  match j with
  | 0 => simp [List.lookup]
  | 1 => simp [List.lookup, show ((("many" : Str)) == ("most" : Str)) = false from by decide +kernel]
  | 2 => simp [List.lookup, show ((("what" : Str)) == ("most" : Str)) = false from by decide +kernel, show ((("what" : Str)) == ("many" : Str)) = false from by decide +kernel]
  | j + 3 => simp [List.lookup]
mutual
theorem de_ext {K : PySem.W.Frag} {H H' : Hp} (m : ExtN H H') : ∀ {d : PyData} {v : V}, De K H v d → De K H' v d
  | _, _, .non => .non
  | _, _, .bl b => .bl b
  | _, _, .int i => .int i
  | _, _, .str x => .str x
  | _, _, .lst ha hd => .lst (m _ _ ha fun ps z => nomatch z) (de_extAll m hd)
  | _, _, .tup ha hd => .tup (m _ _ ha fun ps z => nomatch z) (de_extAll m hd)
  | _, _, .dic ha => .dic (m _ _ ha fun ps z => nomatch z)
theorem de_extAll {K : PySem.W.Frag} {H H' : Hp} (m : ExtN H H') : ∀ {ds : List PyData} {vs : List V}, DeAll K H vs ds → DeAll K H' vs ds
  | _, _, .nil => .nil
  | _, _, .cons h1 h2 => .cons (de_ext m h1) (de_extAll m h2)
end
end SK
namespace SK
open PySem PySem.Spec PyProof.Rows L2 LamX NdefX
open K0 (De DeAll XCl spX withX)
/-! ### the law's own look at a row -/
inductive Plain : PyData → Prop
  | non : Plain .none
  | bl (b : Bool) : Plain (.bool b)
  | zero : Plain (.int 0)
  | one : Plain (.int 1)
  | tr : Plain (.str "True")
def FitP (d : PyData) : Prop := ∀ a b c, elems d = [a, b, c] → Plain b ∧ Plain c
theorem plain_shown {d : PyData} (h : Plain d) : isB d = inV (.str d.shown) [.str "True", .str "False"] := by
  cases h with
  | bl b => cases b <;> decide +kernel
  | _ => decide +kernel
theorem plain_ok {d : PyData} (h : Plain d) : d.showable = true ∧ d.shown.length ≤ sizeLine := by
  cases h with
  | bl b => cases b <;> exact ⟨by decide +kernel, by decide +kernel⟩
  | _ => exact ⟨by decide +kernel, by decide +kernel⟩
section
variable {X : Cx}
/-- repr(x), x plain -/
def rRepP (K : PySem.W.Frag) : List V → Hp → VK → Prop := fun xs H Q => ∃ (v : V) (d : PyData), xs = [v] ∧ De K H v d ∧ Plain d ∧ Q (.str d.shown) H
theorem call_repP : CallR X (.builtin "repr") (rRepP X.K) := by
  intro pins s σ H xs us Q I r h
  obtain ⟨v, d, rfl, hd, hp, q⟩ := h
  obtain ⟨hsh, hz⟩ := plain_ok hp
  cases hd with
  | non =>
    obtain ⟨u, rfl, ru⟩ := vals1 r
    obtain rfl : u = Value.none := ru
    exact PySem.P.repr_of_none ⟨.str _, H, I.tok _, ⟨_, rfl⟩, q⟩
  | bl b =>
    obtain ⟨u, rfl, ru⟩ := vals1 r
    obtain rfl : u = Value.bool b := ru
    exact PySem.P.repr_of_bool ⟨.str _, H, I.tok _, ⟨_, rfl⟩, by cases b <;> exact q⟩
  | int i =>
    obtain ⟨u, rfl, t, rfl⟩ := vals1 r
    refine PySem.P.repr_of_int (by simpa [PyData.showable] using hsh) ⟨.str _, H, I.tok _, ⟨_, rfl⟩, q⟩
  | str x =>
    obtain ⟨u, rfl, t, rfl⟩ := vals1 r
    exact PySem.P.repr_of_str ⟨.str _, H, I.tok _, ⟨_, rfl⟩, q⟩ hz
  | _ => cases hp
end
end SK
namespace SK
open PySem PySem.Spec PyProof.Rows L2 LamX NdefX
open K0 (De DeAll XCl spX withX)
/-! ### sorted of data, any length -/
def rSortE {β : Type} (K : PySem.W.Frag) (ad : β → Addr) (enc : β → PyData) : List V → Hp → VK → Prop := fun xs H Q => ∃ (a : Addr) (bs : List β), xs = [.ref a] ∧ SqL K H a (bs.map fun b => V.ref (ad b)) ∧ (∀ b ∈ bs, De K H (.ref (ad b)) (enc b)) ∧ PySem.W.AllAlike (bs.map enc) ∧ PySem.W.Sortable (bs.map enc) ∧ (∀ b ∈ bs, (enc b).depth ≤ 8) ∧
  ∀ p, H p = none → Q (.ref p) (upd H p (.lst ((bs.mergeSort (PySem.W.dataLe false enc)).map fun b => V.ref (ad b))))
theorem each_of {β : Type} {ad : β → Addr} : ∀ {us : List Value} {bs : List β}, Vals (bs.map fun b => V.ref (ad b)) us → PySem.W.EachIs (fun v b => v = Value.ref (ad b)) us bs
  | [], [], _ => .nil
  | _ :: _, [], h => by cases h
  | [], _ :: _, h => by cases h
  | u :: us, b :: bs, h => by
    cases h with
    | cons h1 h2 => exact .cons h1 (each_of h2)
theorem each_to {β : Type} {ad : β → Addr} : ∀ {us : List Value} {bs : List β}, PySem.W.EachIs (fun v b => v = Value.ref (ad b)) us bs → Vals (bs.map fun b => V.ref (ad b)) us
  | _, _, .nil => .nil
  | _, _, .cons h1 h2 => .cons h1 (each_to h2)
theorem cr_sortE {X : Cx} {β : Type} {ad : β → Addr} {enc : β → PyData} (hu : X.A.units + 64 < cLine) (hsys : ∃ o, X.K.lookup sysModules = some o) : CallR X (.builtin "sorted") (rSortE X.K ad enc) := by
  intro pins s σ H xs us Q I r h
  obtain ⟨a, bs, rfl, hS, hd, hal, hk, hdp, q⟩ := h
  obtain ⟨u, rfl, ru⟩ := vals1 r
  obtain rfl : u = Value.ref a := ru
  obtain ⟨oS, hoS⟩ := hsys
  have hs : H sysModules = none := (I.bs _ _ (I.ok.mod.kin _ _ hoS)).2
  obtain ⟨its, rv, hl, hz⟩ := I.list hS
  rw [List.length_map] at hz
  have e := each_of rv
  have er : PySem.W.EachIs (fun v b => ∃ as, Reads s.heap v (enc b) as) its bs := by
    have z : ∀ {us : List Value} {cs : List β}, PySem.W.EachIs (fun v b => v = Value.ref (ad b)) us cs → (∀ b ∈ cs, De X.K H (.ref (ad b)) (enc b)) → PySem.W.EachIs (fun v b => ∃ as, Reads s.heap v (enc b) as) us cs := fun {us cs} ee => by
      induction ee with
      | nil => exact fun _ => .nil
      | cons h1 h2 ih =>
        intro hh
        obtain ⟨as, hr, _⟩ := K0.de_reads I hs _ _ _ (hh _ (by simp)) (show RelV (V.ref (ad _)) _ from h1)
        exact .cons ⟨as, hr⟩ (ih fun b hb => hh b (List.mem_cons_of_mem _ hb))
    exact z e hd
  refine PySem.W.sorted_data (R := fun v b => v = Value.ref (ad b)) hl.isList e er hal hk hz (fun b hb => by have := hdp b hb; omega) fun out ho eo => ?_
  obtain ⟨ep, he'⟩ := PyProof.Rows.sortedAll_at s.heap its out.toArray
  have hlen : ((bs.mergeSort (PySem.W.dataLe false enc)).map fun b => V.ref (ad b)).length ≤ sizeLine := by
    rw [List.length_map, List.length_mergeSort]
    exact hz
  exact ⟨.ref _, upd H (s.heap.objs.size + 1) (.lst ((bs.mergeSort (PySem.W.dataLe false enc)).map fun b => V.ref (ad b))), I.laid (t' := s.toks) (fun _ _ => PyProof.Rows.sortedAll_old) (Nat.le_succ _) ⟨hlen, _, ep, each_to eo, he'⟩, rfl, q _ (I.hok.fresh (Nat.le_succ _))⟩
/-! ### the two orders are one -/
def ranks (ls w : Str) : List Int := w.cps.toList.map fun c => (rankOf ls c : Nat)
def encW (ls w : Str) : PyData := .tuple [.list ((ranks ls w).map PyData.int), .str w]
theorem lt_map (f : Nat → Int) (g : Nat → Nat) (hfg : ∀ a b, f a < f b ↔ g a < g b) (he : ∀ a b, f a = f b ↔ g a = g b) : ∀ x y : List Nat, x.map f < y.map f ↔ x.map g < y.map g
  | [], [] => by simp
  | [], _ :: _ => by simp
  | _ :: _, [] => by simp
  | a :: x, b :: y => by
    rw [List.map_cons, List.map_cons, List.map_cons, List.map_cons, List.cons_lt_cons_iff, List.cons_lt_cons_iff, hfg a b, he a b, lt_map f g hfg he x y]
theorem eqv_ints : ∀ xs ys : List Int, PyData.eqvAll (xs.map PyData.int) (ys.map PyData.int) = decide (xs = ys)
  | [], [] => by simp [PyData.eqvAll]
  | [], _ :: _ => by simp [PyData.eqvAll]
  | _ :: _, [] => by simp [PyData.eqvAll]
  | x :: xs, y :: ys => by
    simp only [List.map_cons, PyData.eqvAll, PyData.eqv, eqv_ints xs ys]
    by_cases h : x = y <;> by_cases h2 : xs = ys <;> simp [h, h2]
theorem ranks_inj {ls : Str} : ∀ x y : List Nat, (∀ c ∈ x, c ∈ ls.cps.toList) → (∀ c ∈ y, c ∈ ls.cps.toList) → (x.map fun c => ((rankOf ls c : Nat) : Int)) = (y.map fun c => ((rankOf ls c : Nat) : Int)) → x = y
  | [], [], _, _, _ => rfl
  | [], _ :: _, _, _, h => by simp at h
  | _ :: _, [], _, _, h => by simp at h
  | a :: x, b :: y, hx, hy, h => by
    rw [List.map_cons, List.map_cons] at h
    injection h with h1 h2
    have e1 : rankOf ls a = rankOf ls b := by omega
    have ha : ls.cps.toList.idxOf a < ls.cps.toList.length := List.idxOf_lt_length_of_mem (hx a (by simp))
    have hb : ls.cps.toList.idxOf b < ls.cps.toList.length := List.idxOf_lt_length_of_mem (hy b (by simp))
    have e2 : a = b := by
      have z1 : ls.cps.toList[ls.cps.toList.idxOf a] = a := List.getElem_idxOf ha
      have z2 : ls.cps.toList[ls.cps.toList.idxOf b] = b := List.getElem_idxOf hb
      unfold rankOf at e1
      rw [← z1, ← z2]
      simp only [e1]
    rw [e2, ranks_inj x y (fun c hc => hx c (List.mem_cons_of_mem _ hc)) (fun c hc => hy c (List.mem_cons_of_mem _ hc)) h2]
theorem lt_same {ls x y : Str} (hx : OverL ls x) (hy : OverL ls y) : PySem.W.dataLt (encW ls x) (encW ls y) = PySem.W.dataLt (.str (keyW ls x)) (.str (keyW ls y)) := by
  unfold encW
  rw [PySem.W.dataLt_pair (by simp [PySem.W.alike, PySem.W.alike_ints]) (by simp [PySem.W.alike])]
  have ek2 : PySem.W.dataLt (.str (keyW ls x)) (.str (keyW ls y)) = decide ((keyW ls x).cps.toList < (keyW ls y).cps.toList) := PySem.W.dataLt_str _ _
  have ek : (keyW ls x).cps.toList < (keyW ls y).cps.toList ↔ ranks ls x < ranks ls y := by
    unfold keyW ranks
    rw [List.toList_toArray, List.toList_toArray]
    exact (lt_map (fun c => ((rankOf ls c : Nat) : Int)) (fun c => 97 + rankOf ls c) (fun a b => by omega) (fun a b => by omega) _ _).symm
  have el : PySem.W.dataLt (.list ((ranks ls x).map PyData.int)) (.list ((ranks ls y).map PyData.int)) = decide (ranks ls x < ranks ls y) := by
    rw [PySem.W.dataLt_list]
    exact PySem.W.dataLt_ints _ _
  have ee : PyData.eqv (.list ((ranks ls x).map PyData.int)) (.list ((ranks ls y).map PyData.int)) = decide (ranks ls x = ranks ls y) := by
    simp only [PyData.eqv]
    exact eqv_ints _ _
  rw [ee, el]
  by_cases h : ranks ls x = ranks ls y
  · have hxy : x = y := by
      have z := ranks_inj _ _ hx.2 hy.2 h
      obtain ⟨a⟩ := x
      obtain ⟨b⟩ := y
      have z : a = b := by simpa using z
      rw [z]
    subst hxy
    rw [if_pos (by simp)]
    have e1 : PyData.eqv (.str x) (.str x) = true := by simp [PyData.eqv]
    rw [if_pos e1]
    have irr : ¬ ((keyW ls x).cps.toList < (keyW ls x).cps.toList) := List.lt_irrefl _
    rw [ek2]
    exact (decide_eq_false irr).symm
  · rw [if_neg (by simp [h]), ek2]
    exact decide_eq_decide.mpr ek.symm
theorem sort_same {ls : Str} {ws : List Str} (h : ∀ y ∈ ws, OverL ls y) : ws.mergeSort (PySem.W.dataLe false (encW ls)) = sortW ls ws := by
  have z := List.map_mergeSort (r := PySem.W.dataLe false (encW ls)) (s := PySem.W.dataLe false fun x => .str (keyW ls x)) (f := id) (l := ws) (fun a ha b hb => by
    rw [PySem.W.dataLe_eq, PySem.W.dataLe_eq]
    show (!PySem.W.dataLt (encW ls b) (encW ls a)) = !PySem.W.dataLt (.str (keyW ls b)) (.str (keyW ls a))
    rw [lt_same (h b hb) (h a ha)])
  unfold sortW
  simpa using z
theorem before_idx (c : Nat) : ∀ (l : List Nat) (i : Nat), i < l.idxOf c → l[i]? ≠ some c
  | [], i, _ => by simp
  | a :: l, 0, h => by
    rw [List.idxOf_cons] at h
    intro z
    simp at z
    subst z
    simp at h
  | a :: l, i + 1, h => by
    rw [List.idxOf_cons] at h
    by_cases e : a = c
    · subst e
      simp at h
    · have e2 : (a == c) = false := by simpa using e
      rw [e2] at h
      simp only [cond_false] at h
      rw [List.getElem?_cons_succ]
      exact before_idx c l i (by omega)
theorem index_of {ls : Str} {c : Nat} (h : c ∈ ls.cps.toList) : ∃ r, Builtin.Str.occurrences ls ⟨#[c]⟩ 0 ls.length 1 = rankOf ls c :: r := by
  have hlt : ls.cps.toList.idxOf c < ls.cps.toList.length := List.idxOf_lt_length_of_mem h
  have hat : StrLaws.At ls ⟨#[c]⟩ ls.length (rankOf ls c) := (StrLaws.subAt_one ls c _).mpr (by
    unfold rankOf
    rw [List.getElem?_eq_getElem hlt, List.getElem_idxOf])
  rcases StrLaws.occ_head ls ⟨#[c]⟩ 1 (Nat.le_refl 1) with ⟨_, hn⟩ | ⟨i, r, e, hi, hn⟩
  · exact absurd hat (hn _)
  · have hi' : ls.cps.toList[i]? = some c := (StrLaws.subAt_one ls c i).mp hi
    have e1 : i = rankOf ls c := by
      rcases Nat.lt_trichotomy i (rankOf ls c) with z | z | z
      · exact absurd hi' (before_idx c _ i z)
      · exact z
      · exact absurd hat (hn _ z)
    exact ⟨r, by rw [e, e1]⟩
end SK
namespace SK
open PySem PySem.Spec PyProof.Rows L2 LamX NdefX
open K0 (De DeAll XCl spX withX)
/-! ### the law's own order -/
def asE : Stmt → Expr
  | .Assign _ e _ => e
  | _ => .Name "" ⟨0, 0, 0, 0⟩
def argE : Expr → Expr
  | .Call _ (a :: _) _ _ => a
  | e => e
def lcSc : Expr → Scope
  | .ListComp _ _ s _ => s
  | _ => { kind := .function, names := [], isGenerator := false, isCoroutine := false, more := [] }
def rSIdx : V → List V → Hp → VK → Prop := fun x xs H Q => ∃ a b i rest, x = .str a ∧ xs = [.str b] ∧ Builtin.Str.occurrences a b 0 a.length 1 = i :: rest ∧ Q (.int (i : Nat)) H
def teI (K : PySem.W.Frag) : TE := tBM K "str" rSIdx (tVar 0) (tCons (tVar 4) tNil)
def teW (K : PySem.W.Frag) : TE := tTup (tCons (tLc (iStr (tVar 3)) (gName 4) tYes (teI K) [4]) (tCons (tVar 3) tNil))
def spOrdL (K : PySem.W.Frag) : Sp := fun vs H Q _ => ∃ (ls : Str) (a : Addr) (ws : List Str), vs = [.str ls, .ref a] ∧ SqL K H a (ws.map V.str) ∧ (∀ y ∈ ws, OverL ls y) ∧ ws.length ≤ 5000 ∧
  ∀ (H' : Hp) (p : Addr), Same H H' → H p = none → H' p = some (.lst ((sortW ls ws).map V.str)) → Q (.ref p) H'
/-- the tuple at b.1 is that of the word b.2 -/
def TupW (ls : Str) (D : Addr) (H : Hp) (b : Addr × Str) : Prop := ∃ l : Addr, H b.1 = some (.tup [.ref l, .str b.2]) ∧ H l = some (.lst ((ranks ls b.2).map V.int)) ∧ b.1 ≠ D ∧ l ≠ D
theorem TupW.mono {ls : Str} {D : Addr} {H H' : Hp} {b : Addr × Str} (t : TupW ls D H b) (s : ∀ c o, c ≠ D → H c = some o → H' c = some o) : TupW ls D H' b := by
  obtain ⟨l, h1, h2, n1, n2⟩ := t
  exact ⟨l, s _ _ n1 h1, s _ _ n2 h2, n1, n2⟩
theorem de_ints {K : PySem.W.Frag} {H : Hp} : ∀ ns : List Int, DeAll K H (ns.map V.int) (ns.map PyData.int)
  | [] => .nil
  | n :: r => .cons (.int n) (de_ints r)
theorem TupW.de {K : PySem.W.Frag} {ls : Str} {D : Addr} {H : Hp} {b : Addr × Str} (t : TupW ls D H b) : De K H (.ref b.1) (encW ls b.2) := by
  obtain ⟨l, h1, h2, _, _⟩ := t
  exact .tup h1 (.cons (.lst h2 (de_ints _)) (.cons (.str _) .nil))
def relabelS (scope sc : Scope) : Scope :=
  { scope with names := scope.names.map fun (n, k) => if (k == .free && sc.kind == .function && sc.names.lookup n == some .cell) then (n, .cell) else (n, k) }
theorem blkOk_in {N : List Str} {env : Env} {sc lc scope : Scope} {own : List (Str × Nat)} (hs : env.scope = sc) (h : blkC N (relabelS lc sc) scope own = true) : BlkOk N (relabel lc env) scope own := by
  subst hs
  exact blkOk_by h
theorem depth_ints : ∀ ns : List Int, PyData.depthAll (ns.map PyData.int) = 0
  | [] => rfl
  | n :: r => by
    rw [List.map_cons]
    simp [PyData.depthAll, PyData.depth, depth_ints r]
theorem depth_encW (ls w : Str) : (encW ls w).depth ≤ 8 := by
  unfold encW
  simp [PyData.depth, PyData.depthAll, depth_ints]
theorem alike_encW {ls x y : Str} : PySem.W.alike (encW ls x) (encW ls y) = true := by
  simp [encW, PySem.W.alike, PySem.W.alikeAll, PySem.W.alike_ints]
section
variable {P : Program} {w : World} {K : PySem.W.Frag} {mg : Str → Option Value} {base : Heap} {f : Addr} {fd : FuncData}
theorem sc32 : FnScope ["letters", "words", "rows", "word", "letter", "row"] ["letters", "words"] (defScope (top 65)) := ⟨rfl, rfl, rfl, by decide +kernel, rfl, by decide +kernel, by decide +kernel⟩
theorem ok_ordL (F : Fun K "_law_in_order" "_law_in_order" (top 65) f fd) (gS : mg "sorted" = none) (hsys : ∃ o, K.lookup sysModules = some o) : FnOk P w K mg base CX0 1 f fd ["letters", "words"] (spOrdL K) := by
  refine F.ok sc32 (fun vs H Q E h => ?_) (fun cdv A outer s H vs Q E hr h => ?_)
  · obtain ⟨ls, a, ws, rfl, _⟩ := h
    rfl
  · obtain ⟨ls, a, ws, rfl, hS, hW, hz, k⟩ := h
    have hu64 := hr.units
    refine ⟨_, pss_cons (ps_set (i := 2) sc32.nd rfl (Or.inl rfl) (pe_callB (r := rSortE K Prod.fst fun b : Addr × Str => encW ls b.2) (cr_sortE hu64 hsys) (by rfl) gS PyProof.Rows.boot_sorted (pa_cons
        (pe_lc (own := [("word", 3)]) (g := gName 3) (tt := tYes) (te := teW K) rfl sc32.nd (pi_list (pv 1)) (blkOk_by (N := ["letters", "words", "rows", "word", "letter", "row"]) (sc := defScope (top 65)) (by decide +kernel))
          (fun _ _ _ _ _ => pg_name (i := 3) sc32.nd rfl (Or.inl rfl)) (fun _ _ _ _ _ => pts_nil)
          (fun _ _ _ _ _ => pe_tup (pa_cons (pe_lc (own := [("letter", 4)]) (g := gName 4) (tt := tYes) (te := teI K) rfl sc32.nd (pi_str (pv 3)) (blkOk_in (N := ["letters", "words", "rows", "word", "letter", "row"]) (sc := defScope (top 65)) (lc := lcSc (argE (asE ((defBody (top 65)).getD 0 (.Pass ⟨0, 0, 0, 0⟩))))) rfl (by decide +kernel))
            (fun _ _ _ _ _ => pg_name (i := 4) sc32.nd rfl (Or.inl rfl)) (fun _ _ _ _ _ => pts_nil)
            (fun _ _ _ _ _ => pe_bm PySem.F.plainAttrs_str PySem.F.slot_str_index PySem.F.type_str_index mt_sindex (pv 0) (pa_cons (pv 4) pa_nil))) (pa_cons (pv 3) pa_nil)))) pa_nil)))
      (pss_one (ps_ret (pe_lc (own := [("row", 5)]) (g := gName 5) (tt := tYes) (te := tOp (rIxT K) (tVar 5) (tC (.int 1))) rfl sc32.nd (pi_list (pv 2)) (blkOk_by (N := ["letters", "words", "rows", "word", "letter", "row"]) (sc := defScope (top 65)) (by decide +kernel))
          (fun _ _ _ _ _ => pg_name (i := 5) sc32.nd rfl (Or.inl rfl)) (fun _ _ _ _ _ => pts_nil) (fun _ _ _ _ _ => pe_ix ix_tup (pv 5) pe_int (fun _ _ => rfl))))), ?_⟩
    refine ⟨V.ref a, rfl, a, rfl, ⟨_, hS⟩, fun D nD => lc_list (K := K) (a := a) (xs := ws.map V.str) (fun i H1 => Same H H1 ∧ ∃ bs : List (Addr × Str), bs.map Prod.snd = ws.take i ∧ H1 D = some (.lst (bs.map fun b => V.ref b.1)) ∧ ∀ b ∈ bs, TupW ls D H1 b)
      ⟨upd_new nD, [], rfl, upd_same, fun b hb => absurd hb (by simp)⟩ (fun i H1 _ p => p.1.seq hS) ?_ ?_⟩
    · rintro i x H1 hi ⟨s1, bs, e1, d1, t1⟩
      obtain ⟨w, hw, rfl⟩ : ∃ w, ws[i]? = some w ∧ V.str w = x := by
        rw [List.getElem?_map] at hi
        cases q : ws[i]? with
        | none =>
          rw [q] at hi
          cases hi
        | some w =>
          rw [q] at hi
          exact ⟨w, rfl, Option.some.inj hi⟩
      have hlt : i < ws.length := by
        have z := List.getElem?_eq_some_iff.mp hw
        exact z.1
      obtain ⟨hw1, hw2⟩ := hW w (List.mem_of_getElem? hw)
      refine ⟨rfl, V.str w, rfl, w, rfl, fun D2 nD2 => lc_it walk_str (fun j H' => Same H1 H' ∧ H' D2 = some (.lst ((w.cps.toList.take j).map fun c => V.int (rankOf ls c : Nat)))) ⟨upd_new nD2, upd_same⟩ (fun _ _ _ _ => trivial) ?_ ?_⟩
      · rintro j y H4 H5 hj ⟨s4, h4⟩ ⟨rfl, cc, hcc, rfl⟩
        have z : w.cps.toList[j]? = some cc := by simpa using hcc
        have hm : cc ∈ w.cps.toList := List.mem_of_getElem? z
        have et : w.cps.toList.take (j + 1) = w.cps.toList.take j ++ [cc] := by
          rw [List.take_add_one, z]
          rfl
        obtain ⟨r, er⟩ := index_of (hw2 cc hm)
        refine ⟨rfl, V.str ls, rfl, rfl, V.str ⟨#[cc]⟩, rfl, ls, ⟨#[cc]⟩, _, r, rfl, rfl, er, _, h4, ?_, fun b o e => ?_, ?_⟩
        · rw [List.length_map, List.length_take]
          have z : (200 : Nat) < sizeLine := by decide
          omega
        · rw [upd_ne (ne_of_none e nD2)]
          exact s4 _ _ e
        · rw [et, List.map_append]
          exact upd_same
      · rintro H4 ⟨s4, h4⟩
        have e2 : w.cps.toList.take w.cps.size = w.cps.toList := List.take_of_length_le (by simp)
        rw [e2] at h4
        have e3 : (w.cps.toList.map fun c => V.int (rankOf ls c : Nat)) = (ranks ls w).map V.int := by
          unfold ranks
          rw [List.map_map]
          rfl
        rw [e3] at h4
        refine ⟨V.str w, rfl, (by show 2 ≤ sizeLine; decide), fun q nq => ⟨_, (upd_new nq) _ _ (s4 _ _ d1), ?_, ?_, bs ++ [(q, w)], ?_, ?_, ?_⟩⟩
        · have z : bs.length = i := by
            have z := congrArg List.length e1
            rw [List.length_map, List.length_take] at z
            omega
          rw [List.length_map]
          have z : (5000 : Nat) < sizeLine := by decide
          omega
        · exact fun b o e => by
            rw [upd_ne (ne_of_none e nD)]
            exact upd_new nq _ _ (s4 _ _ (s1 _ _ e))
        · rw [List.map_append, e1, List.take_add_one, hw]
          rfl
        · rw [List.map_append]
          exact upd_same
        · have nqD : q ≠ D := fun z => by
            rw [z, s4 _ _ d1] at nq
            cases nq
          have nDD : D2 ≠ D := fun z => by
            rw [z, d1] at nD2
            cases nD2
          intro b hb
          rcases List.mem_append.mp hb with hb | hb
          · exact (t1 b hb).mono fun c o hc e => by
              rw [upd_ne hc]
              exact upd_new nq _ _ (s4 _ _ e)
          · obtain rfl : b = (q, w) := by simpa using hb
            have nDq : D2 ≠ q := fun z => by
              rw [← z, h4] at nq
              cases nq
            refine ⟨D2, ?_, ?_, nqD, nDD⟩
            · rw [upd_ne nqD]
              exact upd_same
            · rw [upd_ne nDD, upd_ne nDq]
              exact h4
    rintro H1 ⟨s1, bs, e1, d1, t1⟩
    rw [List.length_map, List.take_length] at e1
    have hl : bs.length ≤ 5000 := by
      have z := congrArg List.length e1
      rw [List.length_map] at z
      omega
    refine ⟨D, bs, rfl, .inl (.inl d1), fun b hb => (t1 b hb).de, ?_, .inl ?_, fun b _ => depth_encW ls b.2, fun p np => ?_⟩
    · intro d hd d' hd'
      obtain ⟨b, _, rfl⟩ := List.mem_map.mp hd
      obtain ⟨b', _, rfl⟩ := List.mem_map.mp hd'
      exact alike_encW
    · intro d hd
      obtain ⟨b, _, rfl⟩ := List.mem_map.mp hd
      exact ⟨_, _, rfl⟩
    have ew : (bs.mergeSort (PySem.W.dataLe false fun b => encW ls b.2)).map Prod.snd = sortW ls ws := by
      have z := List.map_mergeSort (r := PySem.W.dataLe false fun b : Addr × Str => encW ls b.2) (s := PySem.W.dataLe false (encW ls)) (f := Prod.snd) (l := bs) (fun a _ b _ => by
        rw [PySem.W.dataLe_eq, PySem.W.dataLe_eq])
      rw [z, e1]
      exact sort_same hW
    have em : ∀ b ∈ bs.mergeSort (PySem.W.dataLe false fun b => encW ls b.2), b ∈ bs := fun b hb => (List.mergeSort_perm _ _).mem_iff.mp hb
    generalize bs.mergeSort (PySem.W.dataLe false fun b => encW ls b.2) = cs at ew em
    have el : cs.length ≤ 5000 := by
      have z := congrArg List.length ew
      rw [List.length_map] at z
      have z2 : (sortW ls ws).length = ws.length := List.length_mergeSort _
      omega
    have h2 : (upd H1 p (.lst (cs.map fun b => V.ref b.1))) p = some (.lst (cs.map fun b => V.ref b.1)) := upd_same
    have s2 : Same H1 (upd H1 p (.lst (cs.map fun b => V.ref b.1))) := upd_new np
    generalize upd H1 p (.lst (cs.map fun b => V.ref b.1)) = H2 at h2 s2
    refine ⟨V.ref p, rfl, p, rfl, ⟨_, .inl (.inl h2)⟩, fun D3 nD3 => lc_list (K := K) (a := p) (xs := cs.map fun b => V.ref b.1) (fun i H3 => Same H2 H3 ∧ H3 D3 = some (.lst ((cs.take i).map fun b => V.str b.2)))
      ⟨upd_new nD3, upd_same⟩ (fun i H3 _ q => .inl (.inl (q.1 _ _ h2))) ?_ ?_⟩
    · rintro i x H3 hi ⟨s3, d3⟩
      obtain ⟨b, hb, rfl⟩ : ∃ b, cs[i]? = some b ∧ V.ref b.1 = x := by
        rw [List.getElem?_map] at hi
        cases q : cs[i]? with
        | none =>
          rw [q] at hi
          cases hi
        | some b =>
          rw [q] at hi
          exact ⟨b, rfl, Option.some.inj hi⟩
      have hlt : i < cs.length := (List.getElem?_eq_some_iff.mp hb).1
      obtain ⟨l, t, _⟩ := t1 b (em b (List.mem_of_getElem? hb))
      refine ⟨rfl, V.ref b.1, rfl, b.1, _, 1, V.str b.2, rfl, rfl, .inl (.inl (s3 _ _ (s2 _ _ t))), rfl, _, d3, ?_, fun c o e => ?_, ?_⟩
      · rw [List.length_map, List.length_take]
        have z : (5000 : Nat) < sizeLine := by decide
        omega
      · rw [upd_ne (ne_of_none e nD3)]
        exact s3 _ _ e
      · rw [List.take_add_one, hb, List.map_append]
        exact upd_same
    · rintro H3 ⟨s3, d3⟩
      rw [List.length_map, List.take_length] at d3
      have e4 : (cs.map fun b => V.str b.2) = (sortW ls ws).map V.str := by
        rw [← ew, List.map_map]
        rfl
      rw [e4] at d3
      have nH : H D3 = none := by
        cases q : H D3 with
        | none => rfl
        | some o =>
          rw [s2 _ _ (s1 _ _ q)] at nD3
          cases nD3
      exact k H3 D3 ((s1.trans s2).trans s3) nH d3
end
end SK
namespace SK
open PySem PySem.Spec PyProof.Rows L2 LamX NdefX
open K0 (De DeAll XCl spX withX)
/-! ### the pen -/
def pen (l : Addr) (k lf : Int) : List (Key × V) := [(Sum.inr "cells", V.ref l), (Sum.inr "next", V.int k), (Sum.inr "left", V.int lf)]
theorem pen_cells (l : Addr) (k lf : Int) : valV (pen l k lf) (Sum.inr "cells") = some (.ref l) := by kernel_rfl
theorem pen_next (l : Addr) (k lf : Int) : valV (pen l k lf) (Sum.inr "next") = some (.int k) := by kernel_rfl
theorem pen_left (l : Addr) (k lf : Int) : valV (pen l k lf) (Sum.inr "left") = some (.int lf) := by kernel_rfl
theorem pen_put_next (l : Addr) (k lf j : Int) : putK (pen l k lf) (Sum.inr "next") (.int j) = pen l j lf := by kernel_rfl
theorem pen_put_left (l : Addr) (k lf j : Int) : putK (pen l k lf) (Sum.inr "left") (.int j) = pen l k j := by kernel_rfl
theorem pen_merge (l : Addr) (k lf : Int) : mergeK [] (pen l k lf) = pen l k lf := by kernel_rfl
structure PenAt (H : Hp) (p l : Addr) (ns : List Int) (k lf : Int) : Prop where
  dc : H p = some (.dK (pen l k lf))
  ls : H l = some (.lst (ns.map V.int))
/-- all but p is as it was -/
def SameBut (p : Addr) (H H' : Hp) : Prop := ∀ b o, b ≠ p → H b = some o → H' b = some o
theorem SameBut.trans {p : Addr} {H H1 H2 : Hp} (a : SameBut p H H1) (b : SameBut p H1 H2) : SameBut p H H2 := fun c o n h => b c o n (a c o n h)
theorem SameBut.of {p : Addr} {H H' : Hp} (a : Same H H') : SameBut p H H' := fun c o _ h => a c o h
theorem cut63 {ns : List Int} (h : ns.length ≤ 63) : cutV (ns.map V.int) none (some 63) = ns.map V.int := by
  unfold cutV
  rw [HT.sIx_none, show ((63 : Int)) = ((63 : Nat) : Int) from rfl, HT.sIx_nat, List.drop_zero, List.length_map, Nat.min_eq_right h, Nat.sub_zero, List.take_of_length_le (by rw [List.length_map]; exact Nat.le_refl _)]
def spPen (K : PySem.W.Frag) : Sp := fun vs H Q _ => ∃ (a : Addr) (ns : List Int), vs = [.ref a] ∧ SqL K H a (ns.map V.int) ∧ ns.length ≤ 63 ∧ ∀ (H' : Hp) (p l : Addr), Same H H' → PenAt H' p l ns 0 0 → Q (.ref p) H'
section
variable {P : Program} {w : World} {K : PySem.W.Frag} {mg : Str → Option Value} {base : Heap} {f : Addr} {fd : FuncData}
theorem scPen : FnScope ["script"] ["script"] (defScope (top 60)) := ⟨rfl, rfl, rfl, by decide +kernel, rfl, by decide +kernel, by decide +kernel⟩
theorem ok_pen (F : Fun K "_law_pen_of" "_law_pen_of" (top 60) f fd) (gL : mg "list" = none) : FnOk P w K mg base CX0 1 f fd ["script"] (spPen K) := by
  refine F.ok scPen (fun vs H Q E h => ?_) (fun cdv A outer s H vs Q E hr h => ?_)
  · obtain ⟨a, ns, rfl, _⟩ := h
    rfl
  · obtain ⟨a, ns, rfl, hS, hn, k⟩ := h
    refine ⟨_, pss_one (ps_ret (pe_disp (pps_cons pe_str (pe_callTy call_list_of (by rfl) gL PyProof.Rows.boot_list (pa_cons (pe_slice sl_list (pv 0) po_none (po_some pe_int)) pa_nil)) (pps_cons pe_str pe_int (pps_cons pe_str pe_int pps_nil))) rfl rfl (by simp) (by decide))), ?_⟩
    intro p hp
    refine ⟨_, rfl, 63, rfl, a, ns.map V.int, rfl, ?_, fun q hq => ?_⟩
    · exact Same.seq (fun b o e => by rw [upd_ne (ne_of_none e hp)]; exact e) hS
    rw [cut63 hn]
    refine ⟨q, ns.map V.int, rfl, .inl (.inl (.inl upd_same)), fun l hl => ?_⟩
    have npq : p ≠ q := ne_of_none (H := upd H p (.dK [])) upd_same hq
    have npl : p ≠ l := ne_of_none (H := upd (upd H p (.dK [])) q (.lst (ns.map V.int))) (by rw [upd_ne npq, upd_same]) hl
    refine ⟨by rw [upd_ne npl, upd_ne npq, upd_same], pen l 0 0, rfl, (by show 3 ≤ 15; decide), ?_⟩
    rw [pen_merge]
    refine k _ p l (fun b o e => ?_) ⟨upd_same, ?_⟩
    · have n1 : b ≠ p := ne_of_none e hp
      have e1 : upd H p (.dK []) b = some o := by rw [upd_ne n1]; exact e
      have n2 : b ≠ q := ne_of_none e1 hq
      have e2 : upd (upd H p (.dK [])) q (.lst (ns.map V.int)) b = some o := by rw [upd_ne n2]; exact e1
      have n3 : b ≠ l := ne_of_none e2 hl
      rw [upd_ne n1, upd_ne n3]
      exact e2
    · rw [upd_ne npl.symm, upd_same]
theorem upd_but {p : Addr} {o : HO} (H : Hp) : SameBut p H (upd H p o) := fun c u n h => by
  rw [upd_ne n]
  exact h
/-- the draw: a number below the base; the pen's numbers may change -/
def spDraw : Sp := fun vs H Q _ => ∃ (p l : Addr) (ns : List Int) (k lf b : Int), vs = [.ref p, .int b] ∧ PenAt H p l ns k lf ∧ ns.length ≤ 63 ∧ 0 ≤ k ∧ k ≤ 100000 ∧ 0 ≤ lf ∧ 0 < b ∧ b ≤ 1000 ∧
  ∀ (H' : Hp) (k' lf' d : Int), k' ≤ k + 1 → 0 ≤ k' → 0 ≤ lf' → 0 ≤ d → d < b → SameBut p H H' → PenAt H' p l ns k' lf' → Q (.int d) H'
theorem scD : FnScope ["pen", "many", "digit", "index", "size", "cell", "mixed"] ["pen", "many"] (defScope (top 61)) := ⟨rfl, rfl, rfl, by decide +kernel, rfl, by decide +kernel, by decide +kernel⟩
theorem ok_draw (F : Fun K "_law_draw" "_law_draw" (top 61) f fd) (gI : mg "int" = none) (gN : mg "len" = none) (gA : mg "abs" = none) : FnOk P w K mg base CX0 1 f fd ["pen", "many"] spDraw := by
  refine F.ok scD (fun vs H Q E h => ?_) (fun cdv A outer s H vs Q E hr h => ?_)
  · obtain ⟨p, l, ns, k, lf, b, rfl, _⟩ := h
    rfl
  · obtain ⟨p, l, ns, k, lf, b, rfl, ⟨hd, hl⟩, hn, hk0, hk1, hf, hb0, hb1, kk⟩ := h
    have hu := hu_of hr
    have hu64 := hr.units
    refine ⟨_, pss_cons (ps_if (pt_cmpR op_gt (pe_dget hu (pv 0) pe_str (fun _ _ => rfl)) pe_int (nomark _)) (pss_cons (ps_set (i := 2) scD.nd rfl (Or.inl rfl) (pe_op op_mod (pe_callTy call_int1 (by rfl) gI PyProof.Rows.boot_int (pa_cons (pe_dget hu (pv 0) pe_str (fun _ _ => rfl)) pa_nil)) (pv 1))) (pss_cons (ps_dput hu (pv 0) pe_str (pe_op op_fdiv (pe_dget hu (pv 0) pe_str (fun _ _ => rfl)) (pv 1)) rfl) (pss_one (ps_ret (pv 2))))) pss_nil)
      (pss_cons (ps_par (i := 3) (j := 4) rfl scD.nd rfl rfl (by decide) rfl rfl (pa_cons (pe_dget hu (pv 0) pe_str (fun _ _ => rfl)) (pa_cons (pe_callB call_len_seq (by rfl) gN PySem.boot_len (pa_cons (pe_dget hu (pv 0) pe_str (fun _ _ => rfl)) pa_nil)) pa_nil)) rfl)
      (pss_cons (ps_dput hu (pv 0) pe_str (pe_op op_add (pv 3) pe_int) rfl)
      (pss_cons (ps_if (pt_cmpR op_eq (pv 4) pe_int (nomark _)) (pss_one (ps_ret (pe_op op_mod (pe_callTy call_int1 (by rfl) gI PyProof.Rows.boot_int (pa_cons (pe_op op_add (pe_op op_mul pe_int (pv 3)) pe_int) pa_nil)) (pv 1)))) pss_nil)
      (pss_cons (ps_set (i := 5) scD.nd rfl (Or.inl rfl) (pe_ix ix_list (pe_dget hu (pv 0) pe_str (fun _ _ => rfl)) (pe_op op_mod (pe_callTy call_int1 (by rfl) gI PyProof.Rows.boot_int (pa_cons (pv 3) pa_nil)) (pv 4)) (fun _ _ => rfl)))
      (pss_cons (ps_if ((pw_and (pt_cmpR op_lt (pv 3) (pv 4) (nomark _)) (pw_and1 (pt_cmpR op_ge (pe_callB call_abs (by rfl) gA PyProof.Rows.boot_abs (pa_cons (pv 5) pa_nil)) (pe_op op_pow pe_int pe_int) (nomark _)))).pt)
        (pss_cons (ps_dput hu (pv 0) pe_str (pe_op op_fdiv (pe_op op_sub (pe_callB call_abs (by rfl) gA PyProof.Rows.boot_abs (pa_cons (pv 5) pa_nil)) (pe_op op_pow pe_int pe_int)) (pv 1)) rfl) (pss_one (ps_ret (pe_op op_mod (pe_callTy call_int1 (by rfl) gI PyProof.Rows.boot_int (pa_cons (pe_op op_sub (pe_callB call_abs (by rfl) gA PyProof.Rows.boot_abs (pa_cons (pv 5) pa_nil)) (pe_op op_pow pe_int pe_int)) pa_nil)) (pv 1))))) pss_nil)
      (pss_cons (ps_set (i := 6) scD.nd rfl (Or.inl rfl) (pe_op op_add (pe_op op_mul (pe_op op_mod (pe_callTy call_int1 (by rfl) gI PyProof.Rows.boot_int (pa_cons (pv 5) pa_nil)) pe_int) pe_int) (pe_op op_mul (pe_op op_mul pe_int (pv 3)) (pv 3))))
      (pss_cons (ps_set (i := 6) scD.nd rfl (Or.inl rfl) (pe_op op_mod (pe_callTy call_int1 (by rfl) gI PyProof.Rows.boot_int (pa_cons (pe_op op_add (pe_op op_add (pv 6) (pe_op op_mul pe_int (pv 3))) pe_int) pa_nil)) pe_int))
      (pss_cons (ps_set (i := 6) scD.nd rfl (Or.inl rfl) (pe_op op_mod (pe_callTy call_int1 (by rfl) gI PyProof.Rows.boot_int (pa_cons (pe_op op_add (pe_op op_add (pe_op op_add (pe_op op_mul (pv 6) (pv 6)) (pe_op op_mul pe_int (pv 6))) (pe_op op_mul pe_int (pv 3))) pe_int) pa_nil)) pe_int))
      (pss_one (ps_ret (pe_op op_mod (pe_callTy call_int1 (by rfl) gI PyProof.Rows.boot_int (pa_cons (pe_op op_fdiv (pe_op op_mod (pe_callTy call_int1 (by rfl) gI PyProof.Rows.boot_int (pa_cons (pe_op op_mul (pv 6) (pe_op op_add (pv 6) pe_int)) pa_nil)) pe_int) pe_int) pa_nil)) (pv 1)))))))))))), ?_⟩
    have npl : p ≠ l := ne_of hd hl (by intro z; cases z)
    have gL : DGet H p (.str "left") (some (.int lf)) := by
      have z := DGet.k (k := Sum.inr "left") hd
      rw [pen_left] at z
      exact z
    have gO : DGet H p (.str "next") (some (.int k)) := by
      have z := DGet.k (k := Sum.inr "next") hd
      rw [pen_next] at z
      exact z
    have gC : DGet H p (.str "cells") (some (.ref l)) := by
      have z := DGet.k (k := Sum.inr "cells") hd
      rw [pen_cells] at z
      exact z
    have hlen : (ns.map V.int).length = ns.length := List.length_map _
    refine ⟨V.ref p, rfl, p, V.int lf, rfl, gL, lf, 0, rfl, rfl, _, rfl, ?_⟩
    refine ite2 (fun c => ?_) (fun c => ?_)
    · have c' : 0 < lf := of_decide_eq_true c
      refine ⟨V.ref p, rfl, p, V.int lf, rfl, gL, .inl ⟨lf, rfl, V.int b, rfl, lf, b, rfl, rfl, hb0, ?_⟩⟩
      refine ⟨V.ref p, rfl, p, V.int lf, rfl, gL, V.int b, rfl, lf, b, rfl, rfl, ⟨hb0, by omega⟩, V.ref p, rfl, p, _, rfl, DPut.k (k := Sum.inr "left") hd (by show 3 < sizeLine; decide), V.int (lf % b), rfl, ?_⟩
      rw [pen_put_left]
      exact kk _ k (lf / b) (lf % b) (by omega) hk0 (Int.ediv_nonneg hf (Int.le_of_lt hb0)) (Int.emod_nonneg _ (by omega)) (Int.emod_lt_of_pos _ hb0) (upd_but H) ⟨upd_same, by rw [upd_ne npl.symm]; exact hl⟩
    · refine ⟨V.ref p, rfl, p, V.int k, rfl, gO, V.ref p, rfl, p, V.ref l, rfl, gC, l, ns.map V.int, rfl, .inl (.inl (.inl hl)), V.int k, V.int (ns.length : Nat), by rw [hlen], ?_⟩
      refine ⟨V.int k, rfl, k, 1, rfl, rfl, V.ref p, rfl, p, _, rfl, DPut.k (k := Sum.inr "next") hd (by show 3 < sizeLine; decide), ?_⟩
      rw [pen_put_next]
      have s1 : SameBut p H (upd H p (.dK (pen l (k + 1) lf))) := upd_but H
      have hd1 : upd H p (.dK (pen l (k + 1) lf)) p = some (.dK (pen l (k + 1) lf)) := upd_same
      have hl1 : upd H p (.dK (pen l (k + 1) lf)) l = some (.lst (ns.map V.int)) := by
        rw [upd_ne npl.symm]
        exact hl
      generalize upd H p (.dK (pen l (k + 1) lf)) = H2 at s1 hd1 hl1
      have gC2 : DGet H2 p (.str "cells") (some (.ref l)) := by
        have z := DGet.k (k := Sum.inr "cells") hd1
        rw [pen_cells] at z
        exact z
      have S2 : SqL K H2 l (ns.map V.int) := .inl (.inl hl1)
      refine ⟨V.int (ns.length : Nat), rfl, rfl, _, rfl, ?_⟩
      refine ite2 (fun c2 => ?_) (fun c2 => ?_)
      · refine ⟨V.int k, rfl, 7, k, rfl, rfl, .inl ⟨by decide, by decide⟩, _, 3, rfl, rfl, .inl ⟨_, rfl, V.int b, rfl, _, b, rfl, rfl, hb0, ?_⟩⟩
        exact kk H2 (k + 1) lf _ (Int.le_refl _) (by omega) hf (Int.emod_nonneg _ (by omega)) (Int.emod_lt_of_pos _ hb0) s1 ⟨hd1, hl1⟩
      have hne : 0 < ns.length := by
        rcases Nat.eq_zero_or_pos ns.length with z | z
        · rw [z] at c2
          exact absurd (decide_eq_true rfl) c2
        · exact z
      have hi0 : 0 ≤ k % (ns.length : Int) := Int.emod_nonneg _ (by omega)
      have hi1 : k % (ns.length : Int) < (ns.length : Int) := Int.emod_lt_of_pos _ (by omega)
      obtain ⟨j, hj⟩ : ∃ j : Nat, k % (ns.length : Int) = (j : Int) := ⟨(k % (ns.length : Int)).toNat, (Int.toNat_of_nonneg hi0).symm⟩
      obtain ⟨c, hc⟩ : ∃ c, ns[j]? = some c := ⟨_, List.getElem?_eq_getElem (by omega)⟩
      have hcV : (ns.map V.int)[j]? = some (.int c) := by
        rw [List.getElem?_map, hc]
        all_goals rfl
      refine ⟨V.ref p, rfl, p, V.ref l, rfl, gC2, V.int k, rfl, .inl ⟨k, rfl, V.int (ns.length : Nat), rfl, k, _, rfl, rfl, (by omega), l, ns.map V.int, _, .int c, rfl, rfl, S2, at_of hj hcV, ?_⟩⟩
      refine ⟨V.int k, rfl, V.int (ns.length : Nat), rfl, k, _, rfl, rfl, _, rfl, ?_⟩
      refine ite2 (fun c3 => ?_) (fun c3 => iteF ?_)
      refine ⟨V.int c, rfl, c, rfl, 10, 18, rfl, rfl, ⟨by decide, by decide, by decide⟩, _, _, rfl, rfl, _, rfl, ?_⟩
      refine ite2 (fun c4 => ?_) (fun c4 => ?_)
      · have c4' := of_decide_eq_true c4
        refine ⟨V.int c, rfl, c, rfl, 10, 18, rfl, rfl, ⟨by decide, by decide, by decide⟩, _, _, rfl, rfl, V.int b, rfl, _, b, rfl, rfl, ⟨hb0, by omega⟩, V.ref p, rfl, p, _, rfl, DPut.k (k := Sum.inr "left") hd1 (by show 3 < sizeLine; decide), ?_⟩
        rw [pen_put_left]
        refine ⟨V.int c, rfl, c, rfl, 10, 18, rfl, rfl, ⟨by decide, by decide, by decide⟩, _, _, rfl, rfl, .inl ⟨_, rfl, V.int b, rfl, _, b, rfl, rfl, hb0, ?_⟩⟩
        exact kk _ (k + 1) _ _ (Int.le_refl _) (by omega) (Int.ediv_nonneg (by omega) (Int.le_of_lt hb0)) (Int.emod_nonneg _ (by omega)) (Int.emod_lt_of_pos _ hb0) (s1.trans (upd_but H2)) ⟨upd_same, by rw [upd_ne npl.symm]; exact hl1⟩
      all_goals
        refine ⟨V.int c, rfl, .inl ⟨c, rfl, c, 4294967197, rfl, rfl, (by show (0 : Int) < 4294967197; decide), _, 52711, rfl, rfl, .inr ⟨by decide, by decide⟩, ?_⟩⟩
        refine ⟨V.int k, rfl, 20353, k, rfl, rfl, .inl ⟨by decide, by decide⟩, V.int k, rfl, _, k, rfl, rfl, .inr ⟨by omega, by omega⟩, _, _, rfl, rfl, ?_⟩
        dsimp only
        generalize (c % 4294967197 * 52711 + 20353 * k * k) = e
        refine ⟨V.int e, rfl, V.int k, rfl, 1531, k, rfl, rfl, .inl ⟨by decide, by decide⟩, _, _, rfl, rfl, _, 11, rfl, rfl, .inl ⟨_, rfl, _, 4294967189, rfl, rfl, (by show (0 : Int) < 4294967189; decide), ?_⟩⟩
        dsimp only
        have a0 : 0 ≤ (e + 1531 * k + 11) % 4294967189 := Int.emod_nonneg _ (by decide)
        have a1 : (e + 1531 * k + 11) % 4294967189 < 4294967189 := Int.emod_lt_of_pos _ (by decide)
        generalize (e + 1531 * k + 11) % 4294967189 = m at a0 a1
        refine ⟨V.int m, rfl, V.int m, rfl, m, m, rfl, rfl, .inl ⟨by omega, by omega⟩, V.int m, rfl, 68903, m, rfl, rfl, .inl ⟨by decide, by decide⟩, _, _, rfl, rfl, ?_⟩
        refine ⟨V.int k, rfl, 23, k, rfl, rfl, .inl ⟨by decide, by decide⟩, _, _, rfl, rfl, _, 7, rfl, rfl, .inl ⟨_, rfl, _, 4294967161, rfl, rfl, (by show (0 : Int) < 4294967161; decide), ?_⟩⟩
        dsimp only
        have b0' : 0 ≤ (m * m + 68903 * m + 23 * k + 7) % 4294967161 := Int.emod_nonneg _ (by decide)
        have b1' : (m * m + 68903 * m + 23 * k + 7) % 4294967161 < 4294967161 := Int.emod_lt_of_pos _ (by decide)
        generalize (m * m + 68903 * m + 23 * k + 7) % 4294967161 = u at b0' b1'
        refine ⟨V.int u, rfl, V.int u, rfl, u, 57037, rfl, rfl, u, _, rfl, rfl, .inl ⟨by omega, by omega⟩, .inl ⟨_, rfl, _, 4294967143, rfl, rfl, (by show (0 : Int) < 4294967143; decide), _, 64, rfl, rfl, ⟨by decide, by decide⟩, .inl ⟨_, rfl, V.int b, rfl, _, b, rfl, rfl, hb0, ?_⟩⟩⟩
        exact kk H2 (k + 1) lf _ (Int.le_refl _) (by omega) hf (Int.emod_nonneg _ (by omega)) (Int.emod_lt_of_pos _ hb0) s1 ⟨hd1, hl1⟩
end
end SK
namespace SK
open PySem PySem.Spec PyProof.Rows L2 LamX NdefX
open K0 (De DeAll XCl spX withX)
/-! ### one of some things -/
theorem IxR.or {X : Cx} {r1 r2 : R2} (h1 : IxR X r1) (h2 : IxR X r2) : IxR X (fun x y H Q => r1 x y H Q ∨ r2 x y H Q) := by
  intro value slice pins s σ H x y v u Q I rx ry h hs
  rcases h with h | h
  · exact h1 value slice pins s σ H x y v u Q I rx ry h hs
  · exact h2 value slice pins s σ H x y v u Q I rx ry h hs
theorem CallR.or {X : Cx} {f : Value} {r1 r2 : List V → Hp → VK → Prop} (h1 : CallR X f r1) (h2 : CallR X f r2) : CallR X f (fun xs H Q => r1 xs H Q ∨ r2 xs H Q) := by
  intro pins s σ H xs us Q I r h
  rcases h with h | h
  · exact h1 pins s σ H xs us Q I r h
  · exact h2 pins s σ H xs us Q I r h
/-- a list or a text, and what stands in it -/
def Items (H : Hp) (v : V) (xs : List V) : Prop := (∃ a, v = .ref a ∧ H a = some (.lst xs)) ∨ ∃ z : Str, v = .str z ∧ xs = z.cps.toList.map fun c => V.str ⟨#[c]⟩
def spPick : Sp := fun vs H Q _ => ∃ (p l : Addr) (v : V) (ns : List Int) (k lf : Int) (xs : List V), vs = [.ref p, v] ∧ PenAt H p l ns k lf ∧ ns.length ≤ 63 ∧ 0 ≤ k ∧ k ≤ 100000 ∧ 0 ≤ lf ∧ Items H v xs ∧ 0 < xs.length ∧ xs.length ≤ 1000 ∧
  ∀ (H' : Hp) (k' lf' : Int) (y : V), k' ≤ k + 1 → 0 ≤ k' → 0 ≤ lf' → y ∈ xs → SameBut p H H' → PenAt H' p l ns k' lf' → Q y H'
section
variable {P : Program} {w : World} {K : PySem.W.Frag} {mg : Str → Option Value} {base : Heap} {f fD fP : Addr} {fd fdD fdP : FuncData}
theorem sc28 : FnScope ["pen", "items"] ["pen", "items"] (defScope (top 62)) := ⟨rfl, rfl, rfl, by decide +kernel, rfl, by decide +kernel, by decide +kernel⟩
theorem ok_pick (F : Fun K "_law_pick" "_law_pick" (top 62) f fd) (gN : mg "len" = none) (gD : mg "_law_draw" = some (.ref fD)) (kD : PySem.W.keepIn K (.ref fD) = true) (GD : FnOk P w K mg base CX0 1 fD fdD ["pen", "many"] spDraw)
    (bD : Binds K fdD ["pen", "many"] []) : FnOk P w K mg base CX0 2 f fd ["pen", "items"] spPick := by
  refine F.ok sc28 (fun vs H Q E h => ?_) (fun cdv A outer s H vs Q E hr h => ?_)
  · obtain ⟨p, l, v, ns, k, lf, xs, rfl, _⟩ := h
    rfl
  · obtain ⟨p, l, v, ns, k, lf, xs, rfl, hp, hn, hk0, hk1, hf, hv, h0, h1, kk⟩ := h
    refine ⟨_, pss_one (ps_ret (pe_ix (IxR.or ix_list ix_str) (pv 1) (pe_call GD hr (by rfl) gD kD bD .nil pass0 (pa_cons (pv 0) (pa_cons (pe_callB (CallR.or call_len_seq call_len_str) (by rfl) gN PySem.boot_len (pa_cons (pv 1) pa_nil)) pa_nil))) (fun _ _ => rfl))), ?_⟩
    rcases hv with ⟨a, rfl, ha⟩ | ⟨z, rfl, rfl⟩
    · have nap : a ≠ p := ne_of ha hp.dc (by intro z; cases z)
      refine ⟨V.ref a, rfl, V.ref p, rfl, V.ref a, rfl, .inl ⟨a, xs, rfl, .inl (.inl (.inl ha)), p, l, ns, k, lf, _, rfl, hp, hn, hk0, hk1, hf, by omega, by omega, fun H' k' lf' d e1 e2 e3 e4 e5 s5 P5 => ?_⟩⟩
      obtain ⟨j, hj⟩ : ∃ j : Nat, d = (j : Int) := ⟨d.toNat, (Int.toNat_of_nonneg e4).symm⟩
      obtain ⟨v, hv⟩ : ∃ v, xs[j]? = some v := ⟨_, List.getElem?_eq_getElem (by omega)⟩
      exact .inl ⟨a, xs, d, v, rfl, rfl, .inl (.inl (s5 _ _ nap ha)), at_of hj hv, kk H' k' lf' v e1 e2 e3 (List.mem_of_getElem? hv) s5 P5⟩
    · rw [List.length_map] at h0 h1
      have ez : z.length = z.cps.toList.length := by rw [Array.length_toList]; rfl
      have hz : z.length ≤ sizeLine := by
        have t : (1000 : Nat) < sizeLine := by decide
        omega
      refine ⟨V.str z, rfl, V.ref p, rfl, V.str z, rfl, .inr ⟨z, rfl, hz, p, l, ns, k, lf, _, rfl, hp, hn, hk0, hk1, hf, by omega, by omega, fun H' k' lf' d e1 e2 e3 e4 e5 s5 P5 => ?_⟩⟩
      obtain ⟨j, hj⟩ : ∃ j : Nat, d = (j : Int) := ⟨d.toNat, (Int.toNat_of_nonneg e4).symm⟩
      obtain ⟨c, hc⟩ : ∃ c, z.cps.toList[j]? = some c := ⟨_, List.getElem?_eq_getElem (by omega)⟩
      exact .inr ⟨z, d, c, rfl, rfl, hz, (by rw [hj]; exact atI_nat hc), kk H' k' lf' _ e1 e2 e3 (List.mem_map.mpr ⟨c, List.mem_of_getElem? hc, rfl⟩) s5 P5⟩
def six : List Str := ["ab", "ba", "cab", "zyxw", "qa", "abcdefghijklmnopqrstuvwxyz"]
def spSix : Sp := fun vs H Q _ => ∃ (p l : Addr) (ns : List Int) (k lf : Int), vs = [.ref p] ∧ PenAt H p l ns k lf ∧ ns.length ≤ 63 ∧ 0 ≤ k ∧ k ≤ 100000 ∧ 0 ≤ lf ∧
  ∀ (H' : Hp) (k' lf' : Int) (x : Str), k' ≤ k + 1 → 0 ≤ k' → 0 ≤ lf' → x ∈ six → SameBut p H H' → PenAt H' p l ns k' lf' → Q (.str x) H'
theorem sc30 : FnScope ["pen"] ["pen"] (defScope (top 64)) := ⟨rfl, rfl, rfl, by decide +kernel, rfl, by decide +kernel, by decide +kernel⟩
theorem ok_six (F : Fun K "_law_letters_of" "_law_letters_of" (top 64) f fd) (gP : mg "_law_pick" = some (.ref fP)) (kP : PySem.W.keepIn K (.ref fP) = true) (GP : FnOk P w K mg base CX0 2 fP fdP ["pen", "items"] spPick)
    (bP : Binds K fdP ["pen", "items"] []) : FnOk P w K mg base CX0 3 f fd ["pen"] spSix := by
  refine F.ok sc30 (fun vs H Q E h => ?_) (fun cdv A outer s H vs Q E hr h => ?_)
  · obtain ⟨p, l, ns, k, lf, rfl, _⟩ := h
    rfl
  · obtain ⟨p, l, ns, k, lf, rfl, hp, hn, hk0, hk1, hf, kk⟩ := h
    refine ⟨_, pss_one (ps_ret (pe_call GP hr (by rfl) gP kP bP .nil pass0 (pa_cons (pv 0) (pa_cons (pe_lst (pa_cons pe_str (pa_cons pe_str (pa_cons pe_str (pa_cons pe_str (pa_cons pe_str (pa_cons pe_str pa_nil))))))) pa_nil)))), ?_⟩
    refine ⟨V.ref p, rfl, (by show 6 ≤ sizeLine; decide), fun a na => ?_⟩
    refine ⟨p, l, .ref a, ns, k, lf, six.map V.str, rfl, ⟨upd_new na _ _ hp.dc, upd_new na _ _ hp.ls⟩, hn, hk0, hk1, hf, .inl ⟨a, rfl, upd_same⟩, by decide, by decide, fun H' k' lf' y e1 e2 e3 hy s5 P5 => ?_⟩
    obtain ⟨x, hx, rfl⟩ := List.mem_map.mp hy
    exact kk H' k' lf' x e1 e2 e3 hx ((SameBut.of (upd_new na)).trans s5) P5
end
end SK
namespace SK
open PySem PySem.Spec PyProof.Rows L2 LamX NdefX
open K0 (De DeAll XCl spX withX)
/-! ### in a drawn order -/
def IsRw (H : Hp) (x : V) : Prop := ∃ (t : Addr) (w : Str) (b c : Bool), x = .ref t ∧ H t = some (.tup [.str w, .bl b, .bl c]) ∧ w.cps.size ≤ 200 ∧ PyData.strOk w = true
theorem IsRw.mono {H H' : Hp} {x : V} {p : Addr} {kv : List (Key × V)} (h : IsRw H x) (hp : H p = some (.dK kv)) (s : SameBut p H H') : IsRw H' x := by
  obtain ⟨t, w, b, c, rfl, ht, hw⟩ := h
  exact ⟨t, w, b, c, rfl, s _ _ (ne_of ht hp (by intro z; cases z)) ht, hw⟩
def rwD : PyData → Prop := fun d => ∃ (w : Str) (b c : Bool), d = .tuple [.str w, .bool b, .bool c] ∧ w.cps.size ≤ 200 ∧ PyData.strOk w = true
theorem rw_data {K : PySem.W.Frag} {H : Hp} : ∀ {zs : List V}, (∀ z ∈ zs, IsRw H z) → ∃ ds, DpAll K H zs ds ∧ (∀ d ∈ ds, rwD d) ∧ ds.length = zs.length
  | [], _ => ⟨[], .nil, fun d h => absurd h (by simp), rfl⟩
  | z :: zs, h => by
    obtain ⟨ds, h1, h2, h3⟩ := rw_data (K := K) (zs := zs) fun y hy => h y (List.mem_cons_of_mem _ hy)
    obtain ⟨t, w, b, c, rfl, ht, hw⟩ := h z (by simp)
    refine ⟨.tuple [.str w, .bool b, .bool c] :: ds, .cons (.tup (.inl (.inl ht)) (.cons (.str w) (.cons (.bl b) (.cons (.bl c) .nil)))) h1, fun d hd => ?_, congrArg Nat.succ h3⟩
    rcases List.mem_cons.mp hd with rfl | hd
    · exact ⟨w, b, c, rfl, hw⟩
    · exact h2 d hd
theorem rw_lay : ∀ {ds : List PyData}, (∀ d ∈ ds, rwD d) → PyData.canLayAll0 ds = true ∧ PyData.depthAll ds ≤ 1
  | [], _ => ⟨by simp [PyData.canLayAll0], by simp [PyData.depthAll]⟩
  | d :: ds, h => by
    obtain ⟨h1, h2⟩ := rw_lay (ds := ds) fun y hy => h y (List.mem_cons_of_mem _ hy)
    obtain ⟨w, b, c, rfl, _, hw⟩ := h d (by simp)
    refine ⟨by simp [PyData.canLayAll0, PyData.canLay0, h1, hw], ?_⟩
    simp only [PyData.depthAll, PyData.depth]
    omega
theorem rw_shaped {ds : List PyData} (h : ∀ d ∈ ds, rwD d) : SeqAt.shaped (.list ds) = true := by
  obtain ⟨h1, h2⟩ := rw_lay h
  unfold SeqAt.shaped
  rw [Bool.and_eq_true, decide_eq_true_eq]
  refine ⟨by simp only [PyData.canLay0, h1], ?_⟩
  simp only [PyData.depth]
  omega
theorem eqv_nilD (ds : List PyData) : PyData.eqv (.list ds) (.list []) = ds.isEmpty := by
  cases ds with
  | nil => simp [PyData.eqv, PyData.eqvAll]
  | cons n r => simp [PyData.eqv, PyData.eqvAll]
def spShuf (K : PySem.W.Frag) : Sp := fun vs H Q _ => ∃ (p l a : Addr) (ns : List Int) (k lf : Int) (xs : List V), vs = [.ref p, .ref a] ∧ PenAt H p l ns k lf ∧ ns.length ≤ 63 ∧ 0 ≤ k ∧ k ≤ 90000 ∧ 0 ≤ lf ∧ SqL K H a xs ∧ xs.length ≤ 900 ∧ (∀ x ∈ xs, IsRw H x) ∧
  ∀ (H' : Hp) (k' lf' : Int) (b : Addr) (ys : List V), k' ≤ k + xs.length → 0 ≤ k' → 0 ≤ lf' → (∀ y ∈ ys, y ∈ xs) → ys.length = xs.length → SameBut p H H' → PenAt H' p l ns k' lf' → H' b = some (.lst ys) → Q (.ref b) H'
theorem seq_ix {d : Int} {j n : Nat} (h : d = (j : Int)) (hj : j < n) : seqIndex? d n = some j := by
  subst h
  unfold seqIndex?
  have h1 : ¬ ((j : Int) < 0) := by omega
  have h2 : (j : Int) < (n : Int) := by omega
  simp [h1, h2, hj]
section
variable {P : Program} {w : World} {K : PySem.W.Frag} {mg : Str → Option Value} {base : Heap} {f fD fP : Addr} {fd fdD fdP : FuncData}
theorem sc29 : FnScope ["pen", "items", "rest", "found"] ["pen", "items"] (defScope (top 63)) := ⟨rfl, rfl, rfl, by decide +kernel, rfl, by decide +kernel, by decide +kernel⟩
theorem ok_shuf (F : Fun K "_law_shuffled" "_law_shuffled" (top 63) f fd) (gN : mg "len" = none) (gL : mg "list" = none) (gD : mg "_law_draw" = some (.ref fD)) (kD : PySem.W.keepIn K (.ref fD) = true) (GD : FnOk P w K mg base CX0 1 fD fdD ["pen", "many"] spDraw)
    (bD : Binds K fdD ["pen", "many"] []) : FnOk P w K mg base CX0 2 f fd ["pen", "items"] (spShuf K) := by
  refine F.ok sc29 (fun vs H Q E h => ?_) (fun cdv A outer s H vs Q E hr h => ?_)
  · obtain ⟨p, l, a, ns, k, lf, xs, rfl, _⟩ := h
    rfl
  · obtain ⟨p, l, a, ns, k, lf, xs, rfl, hp, hn, hk0, hk1, hf, hS, hz, hx, kk⟩ := h
    have hu64 := hr.units
    refine ⟨_, pss_cons (ps_par (i := 2) (j := 3) rfl sc29.nd rfl rfl (by decide) rfl rfl (pa_cons (pe_callTy call_list_of (by rfl) gL PyProof.Rows.boot_list (pa_cons (pv 1) pa_nil)) (pa_cons (pe_lst pa_nil) pa_nil)) rfl)
      (pss_cons (ps_while PassesOwn.never (pt_cmpR (op_neD hu64) (pv 2) (pe_lst pa_nil) (nomark _)) (pss_one (ps_expr (pe_bm PySem.F.plainAttrs_list PySem.F.slot_list_append PySem.F.type_list_append mt_append (pv 3) (pa_cons
          (pe_bm PySem.F.plainAttrs_list PySem.F.slot_list_pop PySem.F.type_list_pop mt_popAt (pv 2) (pa_cons (pe_call GD hr (by rfl) gD kD bD .nil pass0 (pa_cons (pv 0) (pa_cons (pe_callB call_len_seq (by rfl) gN PySem.boot_len (pa_cons (pv 2) pa_nil)) pa_nil))) pa_nil)) pa_nil)))))
      (pss_one (ps_ret (pv 3)))), ?_⟩
    refine ⟨V.ref a, rfl, a, xs, rfl, .inl hS, fun r nr => ⟨Nat.zero_le _, fun b nb => ⟨V.ref r, V.ref b, rfl, ?_⟩⟩⟩
    have s0 : Same H (upd (upd H r (.lst xs)) b (.lst [])) := (upd_new nr).trans (upd_new nb)
    have r0 : upd (upd H r (.lst xs)) b (.lst []) r = some (.lst xs) := upd_new nb _ _ upd_same
    have b0 : upd (upd H r (.lst xs)) b (.lst []) b = some (.lst []) := upd_same
    have nrb : r ≠ b := fun z => by
      rw [← z, upd_same] at nb
      cases nb
    have nbH : H b = none := by
      rw [upd_ne (Ne.symm nrb)] at nb
      exact nb
    generalize upd (upd H r (.lst xs)) b (.lst []) = H0 at s0 r0 b0
    refine ⟨fun m σ H1 => ∃ (k1 lf1 : Int) (zs ys : List V), σ = [some (.ref p), some (.ref a), some (.ref r), some (.ref b)] ∧ zs.length = m ∧ zs.length + ys.length = xs.length ∧ k1 ≤ k + ys.length ∧ 0 ≤ k1 ∧ 0 ≤ lf1 ∧ PenAt H1 p l ns k1 lf1 ∧ SameBut p H H1 ∧
      H1 r = some (.lst zs) ∧ H1 b = some (.lst ys) ∧ (∀ z ∈ zs, z ∈ xs) ∧ ∀ y ∈ ys, y ∈ xs, ⟨xs.length, k, lf, xs, [], rfl, rfl, by simp, by simp, hk0, hf, ⟨s0 _ _ hp.dc, s0 _ _ hp.ls⟩, .of s0, r0, b0, fun z hz => hz, fun y hy => absurd hy (by simp)⟩, ?_⟩
    rintro m σ H1 ⟨k1, lf1, zs, ys, rfl, hm, hsum, e1, e2, e3, P1, s1, hr1, hb1, mz, my⟩
    refine ⟨V.ref r, rfl, Nat.zero_le _, fun q nq => ?_⟩
    have s2 := upd_new (o := .lst []) nq
    have hq2 : upd H1 q (.lst []) q = some (.lst []) := upd_same
    have P2 : PenAt (upd H1 q (.lst [])) p l ns k1 lf1 := ⟨s2 _ _ P1.dc, s2 _ _ P1.ls⟩
    have s02 := s1.trans (SameBut.of s2)
    have hr2 := s2 _ _ hr1
    have hb2 := s2 _ _ hb1
    generalize upd H1 q (.lst []) = H2 at s2 hq2 P2 s02 hr2 hb2
    obtain ⟨ds, d1, d2, d3⟩ := rw_data (K := K) (H := H2) (zs := zs) fun z hz => (hx z (mz z hz)).mono hp.dc s02
    refine ⟨.list ds, .list [], .lst (.inl (.inl hr2)) d1, .lst (.inl (.inl hq2)) .nil, rw_shaped d2, (by decide +kernel), _, rfl, ?_⟩
    rw [eqv_nilD]
    have npr : r ≠ p := ne_of hr2 P2.dc (by intro z; cases z)
    have npb : b ≠ p := ne_of hb2 P2.dc (by intro z; cases z)
    cases zs with
    | nil =>
      have z0 : ds = [] := List.eq_nil_of_length_eq_zero d3
      rw [z0]
      have hy : ys.length = xs.length := by
        have z : (0 : Nat) + ys.length = xs.length := hsum
        omega
      exact ⟨V.ref b, rfl, kk H2 k1 lf1 b ys (by omega) e2 e3 my hy s02 P2 hb2⟩
    | cons z0 zr =>
      have ed : ds.isEmpty = false := by
        cases ds with
        | nil => cases d3
        | cons _ _ => rfl
      rw [ed]
      generalize hzs : z0 :: zr = zs at *
      have hpos : 0 < zs.length := by rw [← hzs]; simp
      refine ⟨_, fun σ' H' q => q, ?_⟩
      refine ⟨V.ref b, rfl, .inl ⟨rfl, _, .inl (.inl hb2)⟩, V.ref r, rfl, .inl ⟨rfl, _, .inl (.inl hr2)⟩, V.ref p, rfl, V.ref r, rfl, r, zs, rfl, .inl (.inl (.inl hr2)), p, l, ns, k1, lf1, _, rfl, P2, hn, e2, by omega, e3, by omega, by omega, fun H3 k3 lf3 d g1 g2 g3 g4 g5 s3 P3 => ?_⟩
      obtain ⟨j, hj⟩ : ∃ j : Nat, d = (j : Int) := ⟨d.toNat, (Int.toNat_of_nonneg g4).symm⟩
      have hjl : j < zs.length := by omega
      obtain ⟨y, hy⟩ : ∃ y, zs[j]? = some y := ⟨_, List.getElem?_eq_getElem hjl⟩
      have hr3 := s3 _ _ npr hr2
      have hb3 := s3 _ _ npb hb2
      have b63 : (900 : Int) < 2 ^ 63 := by decide
      have b900 : (900 : Nat) < sizeLine := by decide
      refine ⟨r, zs, d, j, y, rfl, rfl, hr3, by omega, by omega, seq_ix hj hjl, hy, b, ys, y, rfl, rfl, (upd_ne (Ne.symm nrb)).trans hb3, by omega, ?_⟩
      refine ⟨(zs.eraseIdx j).length, ?_, k3, lf3, zs.eraseIdx j, ys ++ [y], rfl, rfl, ?_, ?_, g2, g3, ⟨?_, ?_⟩, ?_, ?_, upd_same, ?_, ?_⟩
      · rw [List.length_eraseIdx_of_lt hjl]
        omega
      · rw [List.length_eraseIdx_of_lt hjl, List.length_append]
        show zs.length - 1 + (ys.length + 1) = xs.length
        omega
      · rw [List.length_append]
        show k3 ≤ k + ((ys.length + 1 : Nat) : Int)
        omega
      · rw [upd_ne (Ne.symm npb), upd_ne (Ne.symm npr)]
        exact P3.dc
      · rw [upd_ne (ne_of_none hp.ls nbH), upd_ne (ne_of_none hp.ls nr)]
        exact P3.ls
      · intro c o hc e
        have n1 : c ≠ r := fun z => by
          rw [z] at e
          rw [e] at nr
          cases nr
        have n2 : c ≠ b := fun z => by
          rw [z] at e
          rw [e] at nbH
          cases nbH
        rw [upd_ne n2, upd_ne n1]
        exact s3 _ _ hc (s02 _ _ hc e)
      · rw [upd_ne nrb, upd_same]
      · exact fun z hz => mz z (List.mem_of_mem_eraseIdx hz)
      · intro z hz
        rcases List.mem_append.mp hz with hz | hz
        · exact my z hz
        · obtain rfl : z = y := by simpa using hz
          exact mz _ (List.mem_of_getElem? hy)
end
end SK
namespace SK
open PySem PySem.Spec PyProof.Rows L2 LamX NdefX
open K0 (De DeAll XCl spX withX)
/-! ### lists that hold the same words are sorted alike -/
theorem str_ext {x y : Str} (h : x.cps.toList = y.cps.toList) : x = y := by
  obtain ⟨x⟩ := x
  obtain ⟨y⟩ := y
  congr 1
  exact Array.toList_inj.mp h
theorem keyW_list (ls x : Str) : (keyW ls x).cps.toList = x.cps.toList.map fun c => 97 + rankOf ls c := by
  unfold keyW
  simp
theorem keyW_inj {ls x y : Str} (hx : OverL ls x) (hy : OverL ls y) (h : (keyW ls x).cps.toList = (keyW ls y).cps.toList) : x = y := by
  rw [keyW_list, keyW_list] at h
  have h3 : (x.cps.toList.map fun c => ((rankOf ls c : Nat) : Int)) = (y.cps.toList.map fun c => ((rankOf ls c : Nat) : Int)) := by
    have z := congrArg (List.map fun n : Nat => (n : Int) - 97) h
    rw [List.map_map, List.map_map] at z
    have e : ((fun n : Nat => (n : Int) - 97) ∘ fun c => 97 + rankOf ls c) = fun c => ((rankOf ls c : Nat) : Int) := by
      funext c
      show ((97 + rankOf ls c : Nat) : Int) - 97 = _
      omega
    rwa [e] at z
  exact str_ext (ranks_inj _ _ hx.2 hy.2 h3)
theorem sortW_eq' (ls : Str) (ws : List Str) : sortW ls ws = ws.mergeSort fun a b => decide ((keyW ls a).cps.toList ≤ (keyW ls b).cps.toList) := by
  unfold sortW
  rw [PySem.W.dataLe_str]
theorem sortW_pw (ls : Str) (ws : List Str) : (sortW ls ws).Pairwise fun a b => (keyW ls a).cps.toList ≤ (keyW ls b).cps.toList := by
  rw [sortW_eq']
  have z := List.pairwise_mergeSort (le := fun a b => decide ((keyW ls a).cps.toList ≤ (keyW ls b).cps.toList)) (fun a b c h1 h2 => decide_eq_true (List.le_trans (of_decide_eq_true h1) (of_decide_eq_true h2)))
    (fun a b => by
      rw [Bool.or_eq_true, decide_eq_true_eq, decide_eq_true_eq]
      exact List.le_total _ _) ws
  exact z.imp fun h => of_decide_eq_true h
theorem sortW_congr {ls : Str} {p1 p2 : List Str} (h : p1.Perm p2) (ho : ∀ y ∈ p1, OverL ls y) : sortW ls p1 = sortW ls p2 := by
  refine List.Perm.eq_of_pairwise (fun a b ha hb h1 h2 => ?_) (sortW_pw ls p1) (sortW_pw ls p2) ((sortW_perm ls p1).trans (h.trans (sortW_perm ls p2).symm))
  exact keyW_inj (ho a ((sortW_perm ls p1).mem_iff.mp ha)) (ho b (h.mem_iff.mpr ((sortW_perm ls p2).mem_iff.mp hb))) (List.le_antisymm h1 h2)
theorem sortW_sorted {ls : Str} {ps : List Str} (ho : ∀ y ∈ ps, OverL ls y) : sortW ls (sortW ls ps) = sortW ls ps :=
  (sortW_congr (sortW_perm ls ps).symm ho).symm
/-! ### the letters below a place -/
theorem snoc_list (q : Str) (c : Nat) : (q ++ (⟨#[c]⟩ : Str)).cps.toList = q.cps.toList ++ [c] := by
  show (q.cps ++ #[c]).toList = _
  simp
theorem belL_mem {ps : List Str} {q : Str} {c : Nat} : c ∈ belL ps q ↔ (q ++ (⟨#[c]⟩ : Str)) ∈ ps := by
  unfold belL
  rw [List.mem_filterMap]
  constructor
  · rintro ⟨r, hr, e⟩
    by_cases h : r ≠ Str.ofString "" ∧ initS r = q
    · rw [if_pos h] at e
      have er : r = q ++ (⟨#[c]⟩ : Str) := by
        refine str_ext ?_
        rw [snoc_list, ← h.2]
        unfold initS
        simp only [List.toList_toArray]
        obtain ⟨z1, z2⟩ := List.getLast?_eq_some_iff.mp e
        rw [z2]
        simp
      rw [← er]
      exact hr
    · rw [if_neg h] at e
      cases e
  · intro h
    refine ⟨_, h, ?_⟩
    have n : q ++ (⟨#[c]⟩ : Str) ≠ Str.ofString "" := fun z => by
      have z2 := congrArg (fun s : Str => s.cps.toList) z
      simp only [snoc_list] at z2
      rw [show (Str.ofString "").cps.toList = [] from by decide +kernel] at z2
      simp at z2
    have i : initS (q ++ (⟨#[c]⟩ : Str)) = q := by
      refine str_ext ?_
      unfold initS
      rw [List.toList_toArray, snoc_list]
      simp
    rw [if_pos ⟨n, i⟩, snoc_list]
    simp
theorem snoc_le (l : List Nat) {a b : Nat} (h : l ++ [a] ≤ l ++ [b]) : a ≤ b := by
  induction l with
  | nil =>
    have h : [a] ≤ [b] := h
    rw [List.cons_le_cons_iff] at h
    rcases h with h | h
    · omega
    · omega
  | cons x r ih =>
    have h : x :: (r ++ [a]) ≤ x :: (r ++ [b]) := h
    rw [List.cons_le_cons_iff] at h
    rcases h with h | h
    · omega
    · exact ih h.2
theorem idx_pw : ∀ {l : List Nat}, l.Nodup → l.Pairwise fun a b => l.idxOf a ≤ l.idxOf b := by
  intro l nd
  rw [List.pairwise_iff_getElem]
  intro i j hi hj hij
  have e : ∀ (k : Nat) (hk : k < l.length), l.idxOf l[k] = k := fun k hk => by
    have h1 : l.idxOf l[k] < l.length := List.idxOf_lt_length_of_mem (List.getElem_mem hk)
    have h2 : l[l.idxOf l[k]]? = some l[k] := by rw [List.getElem?_eq_getElem h1, List.getElem_idxOf]
    exact nd_ix nd h2 (List.getElem?_eq_getElem hk)
  rw [e i hi, e j hj]
  omega
theorem belS_eq {ls q : Str} {ps : List Str} (hl : ls.cps.toList.Nodup) (nd : ps.Nodup) (ho : ∀ y ∈ ps, OverL ls y) (hs : sortW ls ps = ps) : belL ps q = ls.cps.toList.filter fun c => decide ((q ++ (⟨#[c]⟩ : Str)) ∈ ps) := by
  have mem : ∀ c, c ∈ belL ps q → c ∈ ls.cps.toList := fun c hc => (ho _ (belL_mem.mp hc)).2 c (by rw [snoc_list]; simp)
  have ndB : (belL ps q).Nodup := by
    unfold belL
    refine List.Pairwise.filterMap (R := fun a b => a ≠ b) (S := fun a b => a ≠ b) _ (fun a a' hne b hb b' hb' z => hne ?_) nd
    have dec : ∀ {r : Str} {c : Nat}, (if r ≠ Str.ofString "" ∧ initS r = q then r.cps.toList.getLast? else none) = some c → r = q ++ (⟨#[c]⟩ : Str) := fun {r c} e => by
      by_cases h : r ≠ Str.ofString "" ∧ initS r = q
      · rw [if_pos h] at e
        refine str_ext ?_
        rw [snoc_list, ← h.2]
        unfold initS
        simp only [List.toList_toArray]
        obtain ⟨z1, z2⟩ := List.getLast?_eq_some_iff.mp e
        rw [z2]
        simp
      · rw [if_neg h] at e
        cases e
    rw [dec hb, dec hb', z]
  have pwB : (belL ps q).Pairwise fun a b => ls.cps.toList.idxOf a ≤ ls.cps.toList.idxOf b := by
    have z := sortW_pw ls ps
    rw [hs] at z
    unfold belL
    refine List.Pairwise.filterMap _ (fun a a' hle b hb b' hb' => ?_) z
    have dec : ∀ {r : Str} {c : Nat}, (if r ≠ Str.ofString "" ∧ initS r = q then r.cps.toList.getLast? else none) = some c → r = q ++ (⟨#[c]⟩ : Str) := fun {r c} e => by
      by_cases h : r ≠ Str.ofString "" ∧ initS r = q
      · rw [if_pos h] at e
        refine str_ext ?_
        rw [snoc_list, ← h.2]
        unfold initS
        simp only [List.toList_toArray]
        obtain ⟨z1, z2⟩ := List.getLast?_eq_some_iff.mp e
        rw [z2]
        simp
      · rw [if_neg h] at e
        cases e
    rw [dec hb, dec hb', keyW_list, keyW_list, snoc_list, snoc_list, List.map_append, List.map_append] at hle
    have z2 : 97 + rankOf ls b ≤ 97 + rankOf ls b' := snoc_le _ hle
    unfold rankOf at z2
    omega
  refine List.Perm.eq_of_pairwise (le := fun a b => ls.cps.toList.idxOf a ≤ ls.cps.toList.idxOf b) (fun a b ha hb h1 h2 => ?_) pwB ((idx_pw hl).filter _) ((List.perm_ext_iff_of_nodup ndB (hl.filter _)).mpr fun c => ?_)
  · have e : ls.cps.toList.idxOf a = ls.cps.toList.idxOf b := by omega
    have ma := mem a ha
    have mb := (List.mem_filter.mp hb).1
    have h1 : ls.cps.toList.idxOf a < ls.cps.toList.length := List.idxOf_lt_length_of_mem ma
    have h2 : ls.cps.toList.idxOf b < ls.cps.toList.length := List.idxOf_lt_length_of_mem mb
    have g1 : ls.cps.toList[ls.cps.toList.idxOf a]? = some a := by rw [List.getElem?_eq_getElem h1, List.getElem_idxOf]
    have g2 : ls.cps.toList[ls.cps.toList.idxOf b]? = some b := by rw [List.getElem?_eq_getElem h2, List.getElem_idxOf]
    rw [e, g2] at g1
    exact (Option.some.inj g1).symm
  · rw [belL_mem, List.mem_filter, decide_eq_true_eq]
    exact ⟨fun h => ⟨mem c (belL_mem.mpr h), h⟩, fun h => h.2⟩
end SK
namespace SK
open PySem PySem.Spec PyProof.Rows L2 LamX NdefX
open K0 (De DeAll XCl spX withX)
theorem Same.seqT {K : PySem.W.Frag} {H H' : Hp} {a : Addr} {xs : List V} (s : Same H H') (h : SqT K H a xs) : SqT K H' a xs := by
  rcases h with (h | ⟨o, h⟩) | h
  · exact .inl (.inl (s _ _ h))
  · exact .inl (.inr ⟨o, s _ _ h⟩)
  · exact .inr h
section
variable {K : PySem.W.Frag} {a : Addr} {xs : List V} {g : TG} {tt : TT} {te : TE} {vs : List Nat} {σ : St} {H1 : Hp} {D : Addr} {Qd : Hp → Prop}
/-- what is asked of one turn -/
def TurnF (g : TG) (tt : TT) (te : TE) (vs : List Nat) (σ : St) (x y : V) (b : Bool) (H : Hp) : Prop :=
  ∀ (A : V → Hp → Prop) (B : Hp → Prop), (b = true → A y H) → (b = false → B H) → g x (wipe σ vs) H fun σ2 H2 => wipe σ2 vs = wipe σ vs ∧ tt σ2 H2 fun b H3 => if b = true then te σ2 H3 A else B H3
theorem same_new (nD : H1 D = none) {o : HO} : Same H1 (upd H1 D o) := fun c u h => by
  rw [upd_ne (ne_of_none h nD)]
  exact h
theorem same_upd {H : Hp} (nD : H1 D = none) {o : HO} (s : Same H1 H) : Same H1 (upd H D o) := fun c u h => by
  rw [upd_ne (ne_of_none h nD)]
  exact s _ _ h
theorem take_snoc {α : Type} {l : List α} {i : Nat} {x : α} (h : l[i]? = some x) : l.take (i + 1) = l.take i ++ [x] := by
  rw [List.take_add_one, h]
  rfl
theorem filt_snoc {α : Type} {ws : List α} {f : α → V} {c : α → Bool} {i : Nat} {x : α} (h : ws[i]? = some x) : ((ws.take (i + 1)).filter c).map f = ((ws.take i).filter c).map f ++ (if c x = true then [f x] else []) := by
  rw [take_snoc h, List.filter_append, List.map_append]
  by_cases hc : c x = true
  · rw [if_pos hc, List.filter_cons_of_pos hc]
    rfl
  · rw [if_neg hc, List.filter_cons_of_neg hc]
    rfl
theorem filt_len {α : Type} {ws : List α} {f : α → V} {c : α → Bool} {i : Nat} : (((ws.take i).filter c).map f).length ≤ ws.length := by
  rw [List.length_map]
  exact Nat.le_trans (List.length_filter_le _ _) (by rw [List.length_take]; omega)
theorem map_at {α : Type} {enc : α → V} {ws : List α} {i : Nat} {x : V} (h : (ws.map enc)[i]? = some x) : ∃ y, ws[i]? = some y ∧ x = enc y := by
  rw [List.getElem?_map] at h
  cases e : ws[i]? with
  | none =>
    rw [e] at h
    cases h
  | some y =>
    rw [e] at h
    exact ⟨y, rfl, (Option.some.inj h).symm⟩
theorem lcF_list {α : Type} {ws : List α} (enc : α → V) (nD : H1 D = none) (f : α → V) (c : α → Bool) (hS : SqL K H1 a (ws.map enc)) (hz : ws.length < sizeLine) (step : ∀ (i : Nat) (x : α) (H : Hp), ws[i]? = some x → Same H1 H → TurnF g tt te vs σ (enc x) (f x) (c x) H)
    (fin : ∀ H, Same H1 H → H D = some (.lst ((ws.filter c).map f)) → Qd H) :
    ∃ W : Nat → Nat → Hp → Prop, (∃ m, W 0 m (upd H1 D (.lst []))) ∧ ∀ i m H, W i m H →
      ((Itl K a).stop i H ∧ Qd H) ∨ ((Itl K a).go i H ∧ ∃ Nx : Hp → Prop, (∀ H', Nx H' → ∃ m', m' < m ∧ W (i + 1) m' H') ∧ ∀ x H', (Itl K a).yld i H x H' → g x (wipe σ vs) H' fun σ2 H2 => wipe σ2 vs = wipe σ vs ∧ tt σ2 H2 fun b H3 =>
        if b = true then te σ2 H3 fun y H4 => ∃ acc, H4 D = some (.lst acc) ∧ acc.length < sizeLine ∧ Nx (upd H4 D (.lst (acc ++ [y]))) else Nx H3) := by
  refine lc_list (K := K) (a := a) (xs := ws.map enc) (fun i H => Same H1 H ∧ H D = some (.lst (((ws.take i).filter c).map f))) ⟨same_new nD, upd_same⟩ (fun i H _ p => Same.seq p.1 hS) (fun i x H hx p => ?_) fun H p => fin H p.1 (by rw [List.length_map, List.take_length] at p; exact p.2)
  obtain ⟨s, hD⟩ := p
  obtain ⟨y, hy, rfl⟩ := map_at hx
  refine step i y H hy s _ _ (fun hc => ⟨_, hD, Nat.lt_of_le_of_lt filt_len hz, same_upd nD s, ?_⟩) fun hc => ⟨s, ?_⟩
  · rw [filt_snoc hy, if_pos hc]
    exact upd_same
  · rw [filt_snoc hy, if_neg (by rw [hc]; simp), List.append_nil]
    exact hD
theorem lcF_tup {α : Type} {ws : List α} (enc : α → V) (nD : H1 D = none) (f : α → V) (c : α → Bool) (hS : SqT K H1 a (ws.map enc)) (hz : ws.length < sizeLine) (step : ∀ (i : Nat) (x : α) (H : Hp), ws[i]? = some x → Same H1 H → TurnF g tt te vs σ (enc x) (f x) (c x) H)
    (fin : ∀ H, Same H1 H → H D = some (.lst ((ws.filter c).map f)) → Qd H) :
    ∃ W : Nat → Nat → Hp → Prop, (∃ m, W 0 m (upd H1 D (.lst []))) ∧ ∀ i m H, W i m H →
      ((Itt K a).stop i H ∧ Qd H) ∨ ((Itt K a).go i H ∧ ∃ Nx : Hp → Prop, (∀ H', Nx H' → ∃ m', m' < m ∧ W (i + 1) m' H') ∧ ∀ x H', (Itt K a).yld i H x H' → g x (wipe σ vs) H' fun σ2 H2 => wipe σ2 vs = wipe σ vs ∧ tt σ2 H2 fun b H3 =>
        if b = true then te σ2 H3 fun y H4 => ∃ acc, H4 D = some (.lst acc) ∧ acc.length < sizeLine ∧ Nx (upd H4 D (.lst (acc ++ [y]))) else Nx H3) := by
  refine lc_tup (K := K) (a := a) (xs := ws.map enc) (fun i H => Same H1 H ∧ H D = some (.lst (((ws.take i).filter c).map f))) ⟨same_new nD, upd_same⟩ (fun i H _ p => SK.Same.seqT p.1 hS) (fun i x H hx p => ?_) fun H p => fin H p.1 (by rw [List.length_map, List.take_length] at p; exact p.2)
  obtain ⟨s, hD⟩ := p
  obtain ⟨y, hy, rfl⟩ := map_at hx
  refine step i y H hy s _ _ (fun hc => ⟨_, hD, Nat.lt_of_le_of_lt filt_len hz, same_upd nD s, ?_⟩) fun hc => ⟨s, ?_⟩
  · rw [filt_snoc hy, if_pos hc]
    exact upd_same
  · rw [filt_snoc hy, if_neg (by rw [hc]; simp), List.append_nil]
    exact hD
end
abbrev Spot := Str × Bool × Bool
def rowD (s : Spot) : PyData := .tuple [.str s.1, .bool s.2.1, .bool s.2.2]
def plc (S : List Spot) : List Str := S.map (·.1)
theorem places_rows (S : List Spot) : (S.map rowD).map placeOf = plc S := by
  rw [List.map_map]
  rfl
theorem uniq {S : List Spot} (nd : (plc S).Nodup) {s t : Spot} (hs : s ∈ S) (ht : t ∈ S) (e : s.1 = t.1) : s = t := by
  induction S with
  | nil => cases hs
  | cons u S ih =>
    have nd' : (u.1 :: plc S).Nodup := nd
    rw [List.nodup_cons] at nd'
    rcases List.mem_cons.mp hs with rfl | hs'
    · rcases List.mem_cons.mp ht with rfl | ht'
      · rfl
      · exact absurd (show s.1 ∈ plc S from List.mem_map.mpr ⟨t, ht', e.symm⟩) nd'.1
    · rcases List.mem_cons.mp ht with rfl | ht'
      · exact absurd (show t.1 ∈ plc S from List.mem_map.mpr ⟨s, hs', e⟩) nd'.1
      · exact ih nd'.2 hs' ht'
def marked (S : List Spot) (y : Str) : Bool := S.any fun s => decide (s.1 = y) && s.2.1
theorem marked_of {S : List Spot} (nd : (plc S).Nodup) {s : Spot} (hs : s ∈ S) : marked S s.1 = s.2.1 := by
  unfold marked
  cases e : s.2.1 with
  | true => exact List.any_eq_true.mpr ⟨s, hs, by simp [e]⟩
  | false =>
    rw [List.any_eq_false]
    intro t ht
    simp only [Bool.and_eq_true, decide_eq_true_eq, not_and]
    intro q
    rw [uniq nd ht hs q, e]
    exact Bool.false_ne_true
theorem valV_at {kvs : List (Key × V)} {i : Nat} {k : Key} {v : V} (nd : (kvs.map Prod.fst).Nodup) (h : kvs[i]? = some (k, v)) : valV kvs k = some v := by
  have hm : (k, v) ∈ kvs := List.mem_of_getElem? h
  have any : (kvs.any fun kv => decide (kv.1 = k)) = true := List.any_eq_true.mpr ⟨_, hm, by simp⟩
  rw [valV_any] at any
  obtain ⟨u, hu⟩ := Option.isSome_iff_exists.mp any
  obtain ⟨kv, m, e1, e2⟩ := valV_key hu
  have : kv = (k, v) := by
    clear h hu any
    induction kvs with
    | nil => cases m
    | cons c r ih =>
      rw [List.map_cons, List.nodup_cons] at nd
      rcases List.mem_cons.mp m with rfl | m'
      · rcases List.mem_cons.mp hm with h | hm'
        · exact h.symm
        · exact absurd (show kv.1 ∈ r.map Prod.fst from List.mem_map.mpr ⟨(k, v), hm', e1.symm⟩) nd.1
      · rcases List.mem_cons.mp hm with rfl | hm'
        · exact absurd (show k ∈ r.map Prod.fst from List.mem_map.mpr ⟨kv, m', e1⟩) nd.1
        · exact ih nd.2 hm' m'
  subst this
  rw [hu]
  exact congrArg some e2.symm
theorem de_row {K : PySem.W.Frag} {H : Hp} {v : V} {s : Spot} (h : De K H v (.tuple (elems (rowD s)))) : ∃ t, v = .ref t ∧ H t = some (.tup [.str s.1, .bl s.2.1, .bl s.2.2]) := by
  have h : De K H v (.tuple [.str s.1, .bool s.2.1, .bool s.2.2]) := h
  cases h with
  | tup ha hd =>
    cases hd with
    | cons h1 hd =>
      cases hd with
      | cons h2 hd =>
        cases hd with
        | cons h3 hd =>
          cases hd
          cases h1
          cases h2
          cases h3
          exact ⟨_, rfl, ha⟩
abbrev tm (i : Nat) : Stmt := inClass (top 37) i
/-! ### what is kept: all but the pen and the tables -/
def Kx (H H' : Hp) : Prop := ∀ b o, H b = some o → (∀ ps, o ≠ .tbl ps) → (∀ l k lf, o ≠ .dK (pen l k lf)) → H' b = some o
theorem Kx.refl (H : Hp) : Kx H H := fun _ _ h _ _ => h
theorem Kx.trans {H H1 H2 : Hp} (a : Kx H H1) (b : Kx H1 H2) : Kx H H2 := fun c o h t q => b c o (a c o h t q) t q
theorem Kx.of {H H' : Hp} (s : Same H H') : Kx H H' := fun c o h _ _ => s c o h
theorem Kx.ext {H H' : Hp} (s : ExtN H H') : Kx H H' := fun c o h t _ => s c o h t
theorem Kx.but {H H' : Hp} {p l : Addr} {ns : List Int} {k lf : Int} (hp : PenAt H p l ns k lf) (s : SameBut p H H') : Kx H H' := fun c o h _ q => s c o (fun z => by
  rw [z, hp.dc] at h
  exact q l k lf (Option.some.inj h).symm) h
mutual
theorem de_kx {K : PySem.W.Frag} {H H' : Hp} (m : Kx H H') : ∀ {d : PyData} {v : V}, De K H v d → De K H' v d
  | _, _, .non => .non
  | _, _, .bl b => .bl b
  | _, _, .int i => .int i
  | _, _, .str x => .str x
  | _, _, .lst ha hd => .lst (m _ _ ha (fun _ z => nomatch z) (fun _ _ _ z => nomatch z)) (de_kxAll m hd)
  | _, _, .tup ha hd => .tup (m _ _ ha (fun _ z => nomatch z) (fun _ _ _ z => nomatch z)) (de_kxAll m hd)
  | _, _, .dic ha => .dic (m _ _ ha (fun _ z => nomatch z) (fun _ _ _ z => nomatch z))
theorem de_kxAll {K : PySem.W.Frag} {H H' : Hp} (m : Kx H H') : ∀ {ds : List PyData} {vs : List V}, DeAll K H vs ds → DeAll K H' vs ds
  | _, _, .nil => .nil
  | _, _, .cons h1 h2 => .cons (de_kx m h1) (de_kxAll m h2)
end
/-! ### a tree, by its letters and its places in their order -/
def Hgt (ps : List Str) (m : Int) : Prop := (∃ y ∈ ps, m = (y.length : Nat)) ∧ ∀ y ∈ ps, ((y.length : Nat) : Int) ≤ m
structure TreeP (K : PySem.W.Frag) (CT : Addr) (H : Hp) (ls : Str) (S : List Spot) (a dx B Tb l : Addr) (fs : List (Str × V)) (kvs kv2 : List (Key × V)) (xs : List V) (m : Int) : Prop where
  ins : H a = some (.ins CT dx fs)
  f1 : fs.lookup ("_below" : Str) = some (.ref B)
  f2 : fs.lookup ("_table" : Str) = some (.ref Tb)
  f3 : fs.lookup ("rows" : Str) = some (.ref l)
  f4 : fs.lookup ("letters" : Str) = some (.str ls)
  f5 : fs.lookup ("size" : Str) = some (.int (S.length : Nat))
  f6 : fs.lookup ("height" : Str) = some (.int m)
  no : ∀ g : Str, g ∉ six6 → fs.lookup g = none
  t1 : H Tb = some (.dK kvs)
  t2 : kvs.length ≤ 5000
  t3 : ∀ y, (valV kvs (.inr y)).isSome = decide (y ∈ plc S)
  t4 : ∀ s ∈ S, ∃ t, valV kvs (.inr s.1) = some (.ref t) ∧ H t = some (.tup [.str s.1, .bl s.2.1, .bl s.2.2])
  b1 : H B = some (.dK kv2)
  b2 : ∀ y, (valV kv2 (.inr y)).isSome = decide (y ∈ plc S)
  b3 : ∀ p ∈ plc S, valV kv2 (.inr p) = some (.str (belS (plc S) p))
  r1 : H l = some (.tup xs)
  r2 : DeAll K H xs (S.map rowD)
  hm : Hgt (plc S) m
def TreeF (K : PySem.W.Frag) (CT : Addr) (H : Hp) (x : V) (ls : Str) (S : List Spot) : Prop := ∃ (a dx B Tb l : Addr) (fs : List (Str × V)) (kvs kv2 : List (Key × V)) (xs : List V) (m : Int), x = .ref a ∧ TreeP K CT H ls S a dx B Tb l fs kvs kv2 xs m
theorem pen_root (l : Addr) (k lf : Int) : valV (pen l k lf) (Sum.inr (Str.ofString "")) = none := by kernel_rfl
/-- lists apart -/
def Ky (H H' : Hp) : Prop := ∀ b o, H b = some o → (∀ ps, o ≠ .tbl ps) → (∀ l k lf, o ≠ .dK (pen l k lf)) → (∀ xs, o ≠ .lst xs) → H' b = some o
theorem Kx.y {H H' : Hp} (m : Kx H H') : Ky H H' := fun c o h t q _ => m c o h t q
theorem Ky.trans {H H1 H2 : Hp} (a : Ky H H1) (b : Ky H1 H2) : Ky H H2 := fun c o h t q y => b c o (a c o h t q y) t q y
theorem rows_ky {K : PySem.W.Frag} {H H' : Hp} (m : Ky H H') : ∀ {S : List Spot} {xs : List V}, DeAll K H xs (S.map rowD) → DeAll K H' xs (S.map rowD)
  | [], _, .nil => .nil
  | s :: S, _, .cons h1 h2 => by
    refine .cons ?_ (rows_ky m h2)
    have h1 : De K H _ (.tuple [.str s.1, .bool s.2.1, .bool s.2.2]) := h1
    cases h1 with
    | tup ha hd =>
      cases hd with
      | cons g1 hd =>
        cases hd with
        | cons g2 hd =>
          cases hd with
          | cons g3 hd =>
            cases hd
            cases g1
            cases g2
            cases g3
            exact .tup (m _ _ ha (fun _ z => nomatch z) (fun _ _ _ z => nomatch z) (fun _ z => nomatch z)) (.cons (.str _) (.cons (.bl _) (.cons (.bl _) .nil)))
theorem TreeF.ky {K : PySem.W.Frag} {CT : Addr} {H H' : Hp} {x : V} {ls : Str} {S : List Spot} (t : TreeF K CT H x ls S) (hr : Str.ofString "" ∈ plc S) (m : Ky H H') : TreeF K CT H' x ls S := by
  obtain ⟨a, dx, B, Tb, l, fs, kvs, kv2, xs, hh, rfl, T⟩ := t
  have np : ∀ {kv : List (Key × V)}, (∀ y, (valV kv (.inr y)).isSome = decide (y ∈ plc S)) → ∀ l k lf, HO.dK kv ≠ .dK (pen l k lf) := fun {kv} h l k lf z => by
    injection z with z
    have q := h (Str.ofString "")
    rw [z, pen_root, decide_eq_true hr] at q
    cases q
  refine ⟨a, dx, B, Tb, l, fs, kvs, kv2, xs, hh, rfl, ?_⟩
  exact { T with
    ins := m _ _ T.ins (fun _ z => nomatch z) (fun _ _ _ z => nomatch z) (fun _ z => nomatch z)
    t1 := m _ _ T.t1 (fun _ z => nomatch z) (np T.t3) (fun _ z => nomatch z)
    t4 := fun s hs => by
      obtain ⟨t, h1, h2⟩ := T.t4 s hs
      exact ⟨t, h1, m _ _ h2 (fun _ z => nomatch z) (fun _ _ _ z => nomatch z) (fun _ z => nomatch z)⟩
    b1 := m _ _ T.b1 (fun _ z => nomatch z) (np T.b2) (fun _ z => nomatch z)
    r1 := m _ _ T.r1 (fun _ z => nomatch z) (fun _ _ _ z => nomatch z) (fun _ z => nomatch z)
    r2 := rows_ky m T.r2 }
theorem TreeF.kx {K : PySem.W.Frag} {CT : Addr} {H H' : Hp} {x : V} {ls : Str} {S : List Spot} (t : TreeF K CT H x ls S) (hr : Str.ofString "" ∈ plc S) (m : Kx H H') : TreeF K CT H' x ls S := t.ky hr m.y
/-- good places, in their order -/
structure GoodS (ls : Str) (S : List Spot) : Prop where
  nd : (plc S).Nodup
  root : Str.ofString "" ∈ plc S
  up : ∀ p ∈ plc S, p ≠ Str.ofString "" → initS p ∈ plc S
  ov : ∀ p ∈ plc S, OverL ls p
  n : S.length ≤ 2000
  ord : sortW ls (plc S) = plc S
/-- rows that tell S, in any order, as tuples or lists -/
def RowsOf (ds : List PyData) (S : List Spot) : Prop := (∀ d ∈ ds, isTL d = true) ∧ (ds.map elems).Perm (S.map fun s => elems (rowD s))
theorem RowsOf.places {ds : List PyData} {S : List Spot} (h : RowsOf ds S) : (ds.map placeOf).Perm (plc S) := by
  have z := h.2.map fun es : List PyData => match es with
    | .str x :: _ => x
    | _ => Str.empty
  rw [List.map_map, List.map_map] at z
  exact z
theorem RowsOf.mem {ds : List PyData} {S : List Spot} (h : RowsOf ds S) {d : PyData} (hd : d ∈ ds) : ∃ s ∈ S, elems d = [.str s.1, .bool s.2.1, .bool s.2.2] ∧ placeOf d = s.1 := by
  have z := h.2.mem_iff.mp (List.mem_map.mpr ⟨d, hd, rfl⟩)
  obtain ⟨s, hs, e⟩ := List.mem_map.mp z
  have e : [.str s.1, .bool s.2.1, .bool s.2.2] = elems d := e
  exact ⟨s, hs, e.symm, by unfold placeOf; rw [← e]⟩
theorem RowsOf.mem' {ds : List PyData} {S : List Spot} (h : RowsOf ds S) {s : Spot} (hs : s ∈ S) : ∃ d ∈ ds, elems d = [.str s.1, .bool s.2.1, .bool s.2.2] ∧ placeOf d = s.1 := by
  have z := h.2.mem_iff.mpr (List.mem_map.mpr ⟨s, hs, rfl⟩)
  obtain ⟨d, hd, e⟩ := List.mem_map.mp z
  have e : elems d = [.str s.1, .bool s.2.1, .bool s.2.2] := e
  exact ⟨d, hd, e, by unfold placeOf; rw [e]⟩
theorem row_okR {ls : Str} {s : Spot} {d : PyData} (ht : isTL d = true) (e : elems d = [.str s.1, .bool s.2.1, .bool s.2.2]) (o : OverL ls s.1) : okR ls d = true := by
  have k : okR3 ls [.str s.1, .bool s.2.1, .bool s.2.2] = true := by
    show (decide (s.1.cps.size ≤ 200) && s.1.cps.toList.all fun c => decide (c ∈ ls.cps.toList)) && (isB (.bool s.2.1) && isB (.bool s.2.2)) = true
    rw [Bool.and_eq_true, Bool.and_eq_true, decide_eq_true_eq, List.all_eq_true]
    exact ⟨⟨o.1, fun c hc => decide_eq_true (o.2 c hc)⟩, rfl⟩
  cases d with
  | tuple ds =>
    have e : ds = _ := e
    subst e
    exact k
  | list ds =>
    have e : ds = _ := e
    subst e
    exact k
  | _ => cases ht
theorem scan_fineG {ls : Str} : ∀ {ds : List PyData} {seen : List Str} {i : Nat}, (∀ d ∈ ds, okR ls d = true) → (ds.map placeOf).Nodup → (∀ d ∈ ds, placeOf d ∉ seen) → scan ls seen i ds = none
  | [], _, _, _, _, _ => rfl
  | d :: r, seen, i, h1, h2, h3 => by
    show (if okR ls d = true ∧ placeOf d ∉ seen then scan ls (seen ++ [placeOf d]) (i + 1) r else some i) = none
    rw [if_pos ⟨h1 d (by simp), h3 d (by simp)⟩]
    rw [List.map_cons, List.nodup_cons] at h2
    refine scan_fineG (fun e he => h1 e (List.mem_cons_of_mem _ he)) h2.2 fun e he z => ?_
    rcases List.mem_append.mp z with z | z
    · exact h3 e (List.mem_cons_of_mem _ he) z
    · have z : placeOf e = placeOf d := by simpa using z
      exact h2.1 (by rw [← z]; exact List.mem_map.mpr ⟨e, he, rfl⟩)
theorem way_good {ls : Str} {S : List Spot} {ds : List PyData} (hL : okLb ls = true) (g : GoodS ls S) (h : RowsOf ds S) : way (.str ls) ds = .fine := by
  have pm := h.places
  have hl : ds.length = S.length := by
    have z := pm.length_eq
    unfold plc at z
    rw [List.length_map, List.length_map] at z
    exact z
  have hpos : 1 ≤ S.length := by
    have z := g.root
    unfold plc at z
    cases S with
    | nil => simp at z
    | cons _ _ => simp
  have hs : scan ls [] 0 ds = none := scan_fineG (fun d hd => by
    obtain ⟨s, hs, e1, e2⟩ := h.mem hd
    exact row_okR (h.1 d hd) e1 (g.ov _ (List.mem_map.mpr ⟨s, hs, rfl⟩))) (pm.nodup_iff.mpr g.nd) (fun d hd z => absurd z (by simp))
  have eo : sortW ls (ds.map placeOf) = plc S := by
    rw [sortW_congr pm fun y hy => g.ov y (pm.mem_iff.mp hy)]
    exact g.ord
  unfold way
  rw [if_pos (show okLd (.str ls) = true from hL), if_pos (by have := g.n; omega)]
  show (match scan ls [] 0 ds with
    | some i => Way.row i
    | none => match lone (sortW ls (ds.map placeOf)) with
      | some p => .lone p
      | none => .fine) = .fine
  rw [hs, eo]
  have hlo : lone (plc S) = none := by
    unfold lone
    rw [List.find?_eq_none]
    intro p hp
    unfold isLone
    by_cases e : p = Str.ofString ""
    · simp [e]
    · have z := g.up p hp e
      simp [z]
  show (match lone (plc S) with
      | some p => Way.lone p
      | none => .fine) = .fine
  rw [hlo]
/-- what __init__ leaves is the tree of S -/
theorem treeP_of {K : PySem.W.Frag} {CT a dx : Addr} {H : Hp} {fs : List (Str × V)} {ls : Str} {S : List Spot} {ds : List PyData} (hi : H a = some (.ins CT dx fs)) (g : GoodS ls S) (h : RowsOf ds S) (t : TreeAt K H fs ls ds) : TreeF K CT H (.ref a) ls S := by
  obtain ⟨B, Tb, l, kvs, kv2, ps, m, e1, e2, e3, ⟨e4, e5, e6, e7, e8⟩, e9, h1, h2, h3, h4, h5, h6, h7, h8⟩ := t
  have pm := h.places
  have eo : sortW ls (ds.map placeOf) = plc S := by
    rw [sortW_congr pm fun y hy => g.ov y (pm.mem_iff.mp hy)]
    exact g.ord
  rw [eo] at h7
  subst h7
  have hl : (plc S).length = S.length := by
    unfold plc
    rw [List.length_map]
  rw [hl] at e5
  have get : ∀ s ∈ S, ∃ t, valV kvs (.inr s.1) = some (.ref t) ∧ H t = some (.tup [.str s.1, .bl s.2.1, .bl s.2.2]) := fun s hs => by
    obtain ⟨d, hd, q1, q2⟩ := h.mem' hs
    obtain ⟨i, hi'⟩ := List.mem_iff_getElem?.mp hd
    obtain ⟨v, z1, z2⟩ := h2.2 i d hi'
    rw [q1] at z2
    obtain ⟨t, rfl, ht⟩ := de_row (s := s) z2
    rw [q2] at z1
    refine ⟨t, valV_at ?_ z1, ht⟩
    rw [h2.1]
    have e : (ds.map fun d => (Sum.inr (placeOf d) : Key)) = (ds.map placeOf).map fun p => (Sum.inr p : Key) := by
      rw [List.map_map]
      rfl
    rw [e]
    exact List.Pairwise.map _ (fun a b h z => h (by injection z)) (pm.nodup_iff.mpr g.nd)
  refine ⟨a, dx, B, Tb, l, fs, kvs, kv2, _, m, rfl, hi, e1, e2, e3, e4, e5, e6, e9, h1, h8, fun y => ?_, get, h3, h4.has, h5, h6, ?_, e7, e8⟩
  · rw [h2.has]
    by_cases hy : y ∈ plc S
    · rw [decide_eq_true hy, decide_eq_true (pm.mem_iff.mpr hy)]
    · rw [decide_eq_false hy, decide_eq_false fun z => hy (pm.mem_iff.mp z)]
  · unfold plc
    rw [List.map_map]
    have all : ∀ R : List Spot, (∀ s ∈ R, s ∈ S) → DeAll K H (R.map ((fun y => (valV kvs (.inr y)).getD V.non) ∘ fun s => s.1)) (R.map rowD) := by
      intro R
      induction R with
      | nil => exact fun _ => .nil
      | cons s R ih =>
        intro hR
        refine .cons ?_ (ih fun u hu => hR u (List.mem_cons_of_mem _ hu))
        obtain ⟨t, g1, g2⟩ := get s (hR s (by simp))
        show De K H ((valV kvs (.inr s.1)).getD V.non) _
        rw [g1]
        exact .tup g2 (.cons (.str _) (.cons (.bl _) (.cons (.bl _) .nil)))
    exact all S fun s hs => hs
end SK
namespace SK
open PySem PySem.Spec PyProof.Rows L2 LamX NdefX
/-- what is told of a class with own operators -/
structure Own (K : PySem.W.Frag) (C : Addr) : Prop where
  cd : ∃ cd rest, PySem.W.clsIn K C = some cd ∧ cd.mro = .ref C :: rest
  s1 : PySem.W.subIn K (.type "int") (.ref C) = some false
  s2 : PySem.W.subIn K (.ref C) (.type "int") = some false
  s3 : PySem.W.subIn K (.type "tuple") (.ref C) = some false
  sf : PySem.W.selfFirst K C = true
structure Has (K : PySem.W.Frag) (C : Addr) (m : Str) (f : Addr) : Prop where
  at_ : PySem.W.findIn K (.ref C) m = some (some (.ref f))
  fn : PySem.W.isFn K (.ref f) = true
/-- an instance -/
def Ins (C : Addr) (H : Hp) (x : V) : Prop := ∃ a dx fs, x = .ref a ∧ H a = some (.ins C dx fs)
section
variable {X : Cx} {CX : CXT} {k : Nat} {f g C : Addr} {fd : FuncData} {ps : List Str} {sp : Sp} {E : XK}
theorem inst_of {pins : List (Addr × Obj)} {s : Shared} {σ : St} {H : Hp} {x : V} {v : Value} (I : Inv X pins σ H s) (h : Ins C H x) (r : RelV x v) : ∃ a dx od, x = .ref a ∧ v = .ref a ∧ PySem.W.InstAt s.heap a (PySem.W.instObj C dx) C (some od) := by
  obtain ⟨a, dx, fs, rfl, ha⟩ := h
  obtain rfl : v = Value.ref a := r
  obtain ⟨mA, J, _⟩ := ins_get I.hok ha
  obtain ⟨od, J, _⟩ := J.look
  exact ⟨a, dx, od, rfl, rfl, J⟩
/-- a def's call in a nearer around -/
theorem run_at {A : Around} {pins : List (Addr × Obj)} {σ : St} {H : Hp} {s : Shared} {Q : VK} {us : List Value} {vs : List V} (F : FnOk X.prog X.w X.K X.mg X.base CX k f fd ps sp) (hr : Room k A) (e0 : Env0 X.prog X.w X.K X.mg X.base A X.stack s H) (hb : Binds X.K fd ps []) (hx : Passes CX X E)
    (I : Inv X pins σ H s) (r : Vals vs us) (h : sp vs H Q E) : wpAny (model X.prog X.w) A (call (.ref f) us) (EP X pins σ Q) X.xe s := by
  have hl : us.length = ps.length := by
    rw [← r.length]
    exact F.len _ _ _ _ h
  have b := hb s us I.kIn (by rw [List.append_nil]; exact hl)
  rw [List.append_nil] at b
  refine wpAny_call (codeAny_mono (F.run A X.stack s H ⟨us, []⟩ us vs Q E hr e0 b r h) fun r s' hq => ?_)
  cases r with
  | error e => exact hx pins σ H s e s' I hq
  | ok fl =>
    cases fl with
    | ret u => exact I.after hq
    | next => exact False.elim hq
    | brk => exact False.elim hq
    | cont => exact False.elim hq
theorem back_of {pins : List (Addr × Obj)} {σ : St} {Q : VK} {u : Value} {s' : Shared} (h : EP X pins σ Q u s') : PySem.W.CmpBack (EP X pins σ Q) u s' := by
  obtain ⟨v, H', I, r, q⟩ := h
  cases u with
  | notImplemented => cases v <;> first | (obtain ⟨_, z⟩ := r; cases z) | cases r
  | _ => exact ⟨v, H', I, r, q⟩
/-- one == y -/
theorem rc_own {op : CmpOp} (O : Own X.K C) (M : Has X.K C (cmpInfo op).2.1 f) (F : FnOk X.prog X.w X.K X.mg X.base CX k f fd ps sp) (hr : Room k X.A) (hb : Binds X.K fd ps []) (hx : Passes CX X E) {pins : List (Addr × Obj)} {s : Shared} {σ : St} {H : Hp} {x y : V} {v u : Value} {Q : VK} (I : Inv X pins σ H s) (rx : RelV x v) (ry : RelV y u)
    (hX : Ins C H x) (hY : Ins C H y ∨ (∃ j, y = .int j) ∨ ∃ t xs, y = .ref t ∧ SqT X.K H t xs) (q : sp [x, y] H Q E) : wpAny (model X.prog X.w) X.A (richCompare op v u) (EP X pins σ Q) X.xe s := by
  obtain ⟨a, dx, od, rfl, rfl, J⟩ := inst_of I hX rx
  obtain ⟨m, hF⟩ := I.fr
  have fin : wpAny (model X.prog X.w) X.A (call (.ref f) [.ref a, u]) (PySem.W.CmpBack (EP X pins σ Q)) X.xe s := wpAny_mono (run_at F hr I.env0 hb hx I (.cons rx (.cons ry .nil)) q) (fun _ _ h => back_of h) fun _ _ z => z
  rcases hY with hY | ⟨j, rfl⟩ | ⟨t, xs, rfl, hT⟩
  · obtain ⟨b, dy, od2, rfl, rfl, J2⟩ := inst_of I hY ry
    exact PySem.W.cmp_K (tb := .ref C) hr.units0 hF I.ok.mod.kin J J2.type (by simp [PySem.W.notFirst]) M.at_ M.fn fin
  · obtain ⟨t, rfl⟩ := ry
    exact PySem.W.cmp_K (tb := .type "int") hr.units0 hF I.ok.mod.kin J (fun A Q E s' k q => wpAny_typeOf (typeIs_int s' j t) q) (by unfold PySem.W.notFirst; rw [O.s1]; rfl) M.at_ M.fn fin
  · obtain rfl : u = Value.ref t := ry
    obtain ⟨its, rv, hl, hz⟩ := I.tuple hT
    obtain ⟨o, ho, hc, _⟩ := hl
    exact PySem.W.cmp_K (tb := .type "tuple") hr.units0 hF I.ok.mod.kin J (fun A Q E s' k q => wpAny_typeOf (T := "tuple") ⟨o, k _ _ ho, hc⟩ q) (by unfold PySem.W.notFirst; rw [O.s3]; rfl) M.at_ M.fn fin
theorem op_ownEq (O : Own X.K C) (M : Has X.K C "__eq__" f) (F : FnOk X.prog X.w X.K X.mg X.base CX k f fd ps sp) (hr : Room k X.A) (hb : Binds X.K fd ps []) (hx : Passes CX X E) :
    OpR X (compareOp .Eq) (fun x y H Q => Ins C H x ∧ (Ins C H y ∨ (∃ j, y = .int j) ∨ ∃ t xs, y = .ref t ∧ SqT X.K H t xs) ∧ sp [x, y] H Q E) := by
  intro pins s σ H x y v u Q I rx ry ⟨hX, hY, q⟩
  exact rc_own (op := .Eq) O M F hr hb hx I rx ry hX hY q
end
end SK
/-! ### one != other, by its __eq__ -/
namespace PySem.W
open PySem PySem.Calls PyProof.Rows Builtin
section
variable {prog : Program} {w : World} {A : Around} {E : Value → Shared → Prop} {s : Shared} {K : Frag} {x C f : Addr} {ox : Obj} {od : Option Obj}
theorem slot_ne : Slot "object" "__ne__" "object.__ne__" := .of (owner := "object") (n := "__ne__") (by rw [typeLookup_type, builtinLookup_eq_fast]; kernel_rfl) (by decide +kernel) (by decide +kernel) (by decide +kernel) (by decide +kernel) (by rw [isSubtype_type]; kernel_rfl)
theorem isInst_K {M : Model} {T : String} {Q : Bool → Shared → Prop} (X : K.In s.heap) (I : InstAt s.heap x ox C od) (h : subIn K (.ref C) (.type T) = some true) (q : Q true s) : wpAny M A (isInstance (.ref x) (.type T)) Q E s := by
  unfold isInstance
  exact wpAny_bind (I.type.here ((looks_subIn X h).here q))
theorem check_K {M : Model} {id owner n : String} {rest : List Value} {Q : Unit → Shared → Prop} (X : K.In s.heap) (I : InstAt s.heap x ox C od) (hk : builtinKind id = some .slot) (hs : splitId id = some (owner, n)) (h : subIn K (.ref C) (.type owner) = some true)
    (ha : argsOk id ⟨.ref x :: rest, []⟩) (q : Q () s) : wpAny M A (checkBuiltinCall id ⟨.ref x :: rest, []⟩) Q E s := by
  simp only [checkBuiltinCall, hk, hs]
  refine wpAny_bind (isInst_K X I h ?_)
  cases hsig : Manifest.signature? id with
  | none => exact wpAny_pure q
  | some sig =>
    simp only [argsOk, hsig] at ha
    have h2 : Bind.checkArgs id sig ⟨.ref x :: rest, []⟩ = pure () := ha
    show wpAny M A (Bind.checkArgs id sig ⟨.ref x :: rest, []⟩) Q E _
    rw [h2]
    exact wpAny_pure q
/-- what __eq__ gives, told the other way round -/
def NotOf (Q : Value → Shared → Prop) (v : Value) (s' : Shared) : Prop := ∃ b, v = .bool b ∧ Q (.bool (!b)) s'
theorem call_ne {b : Value} {Q : Value → Shared → Prop} (hu : A.in1.units < cLine) (X : K.In s.heap) (I : InstAt s.heap x ox C od) (ho : subIn K (.ref C) (.type "object") = some true) (hs : findIn K (.ref C) "__eq__" = some (some (.ref f))) (hf : isFn K (.ref f) = true)
    (h : wpAny (model prog w) A.in1 (call (.ref f) [.ref x, b]) (NotOf Q) E s) : wpAny (model prog w) A (call (.builtin "object.__ne__") [.ref x, b]) Q E s := by
  refine wpAny_call (codeAny_call_builtin slot_ne.plain F.cmpEntry_ne (check_K X I F.cmpKind_ne F.cmpSplit_ne ho (F.cmpArgs_ne _ _) ?_))
  unfold Builtin.«object.__ne__»
  refine wpAny_bind (m := slotArgs "__ne__" 1 _) (wpAny_pure ?_)
  refine wpAny_bind (wpAny_cRoomFor hu ?_)
  refine wpAny_bind (ifBound_K X I hs hf (wpAny_mono h (fun v s' hv => ?_) fun _ _ e => e))
  obtain ⟨c, rfl, q⟩ := hv
  exact wpAny_bind (wpAny_truthy_bool (wpAny_pure q))
theorem ne_K {b tb : Value} {Q : Value → Shared → Prop} (hu : A.in1.units < cLine) (X : K.In s.heap) (I : InstAt s.heap x ox C od) (hb : Looks (model prog w) s.heap (typeOf b) tb) (hn : notFirst K C tb = true) (hne : findIn K (.ref C) "__ne__" = some (some (.builtin "object.__ne__")))
    (ho : subIn K (.ref C) (.type "object") = some true) (hs : findIn K (.ref C) "__eq__" = some (some (.ref f))) (hf : isFn K (.ref f) = true)
    (h : wpAny (model prog w) A.in1 (call (.ref f) [.ref x, b]) (NotOf Q) E s) : wpAny (model prog w) A (richCompare .NotEq (.ref x) b) Q E s := by
  have hu0 : A.units < cLine := by
    have z : A.units + 1 < cLine := hu
    omega
  have back : wpAny (model prog w) A (call (.builtin "object.__ne__") [.ref x, b]) (fun v s' => ∃ c, v = .bool c ∧ Q v s') E s := call_ne (Q := fun v s' => ∃ c, v = .bool c ∧ Q v s') hu X I ho hs hf (wpAny_mono h (fun v s' hv => by
    obtain ⟨c, e, q⟩ := hv
    exact ⟨c, e, _, rfl, q⟩) fun _ _ e => e)
  have one : wpAny (model prog w) A (tryCompare (.ref x) "__ne__" b) (fun r s' => ∃ v, r = some v ∧ Q v s') E s := by
    unfold tryCompare
    simp only [callSpecialIfBound?, bindSpecialIfBound?]
    refine wpAny_bind (wpAny_holding (wpAny_bind (wpAny_bind (wpAny_bind (I.type.here ((looks_findIn X hne).here ?_))))))
    refine wpAny_bind (wpAny_askSetting (wpAny_ite ?_))
    have fin : wpAny (model prog w) A (call (.builtin "object.__ne__") ([.ref x] ++ [b]) >>= fun v => pure (some v)) (fun a s' => wpAny (model prog w) A (match a with
      | some .notImplemented | none => pure none
      | some v => pure (some v)) (fun r s' => ∃ v, r = some v ∧ Q v s') E s') E s := wpAny_bind (wpAny_mono back (fun v s' h' => by
        obtain ⟨c, rfl, q⟩ := h'
        exact wpAny_pure (wpAny_pure ⟨_, rfl, q⟩)) fun _ _ e => e)
    rw [slot_ne.bind]
    split
    · exact wpAny_bind (wpAny_pure (wpAny_pure fin))
    · exact wpAny_tryCatch (wpAny_bind (wpAny_pure (wpAny_pure fin)))
  unfold richCompare
  simp only [oneThing_ref]
  refine wpAny_holding (wpAny_bind (wpAny_cRoomFor hu0 ?_))
  refine wpAny_bind (I.type.here (wpAny_bind (hb.here ?_)))
  split
  · rename_i q
    have e : subIn K tb (.ref C) = some false := by
      rcases Bool.or_eq_true_iff.mp hn with e | e
      · rw [beq_iff_eq.mp e] at q; simp at q
      · exact beq_iff_eq.mp e
    refine wpAny_bind ((looks_subIn X e).here ?_)
    simp only [Bool.false_eq_true, if_false]
    exact wpAny_bind (wpAny_mono one (fun r s' z => by obtain ⟨v, rfl, hq⟩ := z; exact wpAny_pure hq) fun _ _ e => e)
  · refine wpAny_bind (wpAny_pure ?_)
    simp only [Bool.false_eq_true, if_false]
    exact wpAny_bind (wpAny_mono one (fun r s' z => by obtain ⟨v, rfl, hq⟩ := z; exact wpAny_pure hq) fun _ _ e => e)
end
end PySem.W
namespace SK
open PySem PySem.Spec PyProof.Rows L2 LamX NdefX
section
variable {X : Cx} {CX : CXT} {k : Nat} {f C : Addr} {fd : FuncData} {ps : List Str} {sp : Sp} {E : XK}
theorem op_ownNe (O : Own X.K C) (hne : PySem.W.findIn X.K (.ref C) "__ne__" = some (some (.builtin "object.__ne__"))) (ho : PySem.W.subIn X.K (.ref C) (.type "object") = some true) (M : Has X.K C "__eq__" f) (F : FnOk X.prog X.w X.K X.mg X.base CX k f fd ps sp) (hr : Room (k + 1) X.A) (hb : Binds X.K fd ps []) (hx : Passes CX X E) :
    OpR X (compareOp .NotEq) (fun x y H Q => Ins C H x ∧ Ins C H y ∧ sp [x, y] H (fun v H' => ∃ b, v = .bl b ∧ Q (.bl (!b)) H') E) := by
  intro pins s σ H x y v u Q I rx ry ⟨hX, hY, q⟩
  obtain ⟨a, dx, od, rfl, rfl, J⟩ := inst_of I hX rx
  obtain ⟨b, dy, od2, rfl, rfl, J2⟩ := inst_of I hY ry
  show wpAny (model X.prog X.w) X.A (richCompare .NotEq (.ref a) (.ref b)) (EP X pins σ Q) X.xe s
  refine PySem.W.ne_K (tb := .ref C) hr.in1.units0 I.kIn J J2.type (by simp [PySem.W.notFirst]) hne ho M.at_ M.fn ?_
  refine wpAny_mono (run_at F hr.in1 I.env0.in1 hb hx I (.cons rx (.cons ry .nil)) q) (fun v s' h => ?_) fun _ _ z => z
  obtain ⟨v1, H', I', r1, b1, rfl, q1⟩ := h
  obtain rfl : v = Value.bool b1 := r1
  exact ⟨b1, rfl, .bl (!b1), H', I', rfl, q1⟩
end
end SK
namespace SK
open PySem PySem.Spec PyProof.Rows L2 LamX NdefX
open K0 (De DeAll XCl spX withX)
/-! ### the methods of a tree -/
theorem pss_dead {X : Cx} {b : List Stmt} : PSs X b (fun _ _ _ => False) := ⟨fun _ _ _ _ _ _ h => h.elim⟩
structure TreeK (K : PySem.W.Frag) (C : Addr) : Prop where
  own : Own K C
  cl : Cls K C
  na : ∀ g ∈ six6, NoAttr K C g
  ha : PySem.W.findIn K (.ref C) "__class__" = some (some (.builtin "object.__class__"))
  hn : PySem.W.specialIn K (.builtin "object.__class__") "__get__" = some (some (.builtin "getset_descriptor.__get__"))
  htk : PySem.W.takesIn K (.builtin "object.__class__") = some true
  hm : PySem.W.mroIn K C (.type "object") = some true
  k1 : PySem.W.kitOne K (.ref C) (.ref C) = some true
  kT : PySem.W.kitOne K (.type "tuple") (.ref C) = some false
  ne : PySem.W.findIn K (.ref C) "__ne__" = some (some (.builtin "object.__ne__"))
  oo : PySem.W.subIn K (.ref C) (.type "object") = some true
theorem TreeK.ty {K : PySem.W.Frag} {C a dx : Addr} {H : Hp} {fs : List (Str × V)} (R : TreeK K C) (h : H a = some (.ins C dx fs)) : TyX K H (.ref a) (.ref C) := .base (.ins h R.cl R.ha R.hn R.htk R.hm)
def hasD (S : List Spot) : PyData → Bool
  | .str p => decide (p ∈ plc S)
  | _ => false
def spHas (K : PySem.W.Frag) (CT : Addr) : Sp := fun vs H Q _ => ∃ (x v : V) (d : PyData) (ls : Str) (S : List Spot), vs = [x, v] ∧ De K H v d ∧ TreeF K CT H x ls S ∧ Q (.bl (hasD S d)) H
def spRowM (K : PySem.W.Frag) (CT CN : Addr) : Sp := fun vs H Q E => ∃ (x v : V) (d : PyData) (ls : Str) (S : List Spot), vs = [x, v] ∧ De K H v d ∧ TreeF K CT H x ls S ∧
  (∀ s ∈ S, d = .str s.1 → ∀ t, H t = some (.tup [.str s.1, .bl s.2.1, .bl s.2.2]) → Q (.ref t) H) ∧ (hasD S d = false → Thrown E CN H [("place", v)])
def spBel (K : PySem.W.Frag) (CT CN : Addr) : Sp := fun vs H Q E => ∃ (x v : V) (d : PyData) (ls : Str) (S : List Spot), vs = [x, v] ∧ De K H v d ∧ TreeF K CT H x ls S ∧
  (∀ p, hasD S (.str p) = true → d = .str p → Q (.str (belS (plc S) p)) H) ∧ (hasD S d = false → Thrown E CN H [("place", v)])
def keptV (S : List Spot) : List V := (S.filter fun s => s.2.1).map fun s => V.str s.1
def spWordsM (K : PySem.W.Frag) (CT : Addr) : Sp := fun vs H Q _ => ∃ (x : V) (ls : Str) (S : List Spot), vs = [x] ∧ TreeF K CT H x ls S ∧ S.length ≤ 5000 ∧ ∀ (H' : Hp) (q : Addr), Same H H' → H' q = some (.tup (keptV S)) → Q (.ref q) H'
def StrsOk (S : List Spot) : Prop := ∀ s ∈ S, PyData.strOk s.1 = true
def spEqT (K : PySem.W.Frag) (CT : Addr) : Sp := fun vs H Q _ => ∃ (x y : V) (ls : Str) (S : List Spot), vs = [x, y] ∧ TreeF K CT H x ls S ∧ StrsOk S ∧
  ((∃ (l2 : Str) (S2 : List Spot), TreeF K CT H y l2 S2 ∧ StrsOk S2 ∧ Q (.bl (decide (ls = l2 ∧ S = S2))) H) ∨ (∃ t xs, y = .ref t ∧ H t = some (.tup xs) ∧ Q (.bl false) H))
/-! ### rows as data -/
theorem rows_dp {K : PySem.W.Frag} {H : Hp} : ∀ {S : List Spot} {xs : List V}, DeAll K H xs (S.map rowD) → DpAll K H xs (S.map rowD)
  | [], _, .nil => .nil
  | s :: S, _, .cons h1 h2 => by
    refine .cons ?_ (rows_dp h2)
    obtain ⟨t, rfl, ht⟩ := de_row (s := s) h1
    exact .tup (.inl (.inl ht)) (.cons (.str _) (.cons (.bl _) (.cons (.bl _) .nil)))
theorem rows_lay : ∀ {S : List Spot}, StrsOk S → PyData.canLayAll0 (S.map rowD) = true ∧ PyData.depthAll (S.map rowD) ≤ 1
  | [], _ => ⟨by simp [PyData.canLayAll0], by simp [PyData.depthAll]⟩
  | s :: S, h => by
    obtain ⟨h1, h2⟩ := rows_lay (S := S) fun y hy => h y (List.mem_cons_of_mem _ hy)
    have hw := h s (by simp)
    have h1' : PyData.canLayAll0 (S.map rowD) = true := h1
    refine ⟨by
      show (PyData.canLay0 (rowD s) && PyData.canLayAll0 (S.map rowD)) = true
      rw [h1', Bool.and_true]
      simp [rowD, PyData.canLayAll0, PyData.canLay0, hw], ?_⟩
    show PyData.depthAll (rowD s :: S.map rowD) ≤ 1
    simp only [PyData.depthAll, rowD, PyData.depth]
    omega
theorem rows_shaped {S : List Spot} (h : StrsOk S) : SeqAt.shaped (.tuple (S.map rowD)) = true := by
  obtain ⟨h1, h2⟩ := rows_lay h
  unfold SeqAt.shaped
  rw [Bool.and_eq_true, decide_eq_true_eq]
  refine ⟨by simp only [PyData.canLay0, h1], ?_⟩
  simp only [PyData.depth]
  omega
theorem eqv_row (s t : Spot) : PyData.eqv (rowD s) (rowD t) = decide (s = t) := by
  obtain ⟨p, m, f⟩ := s
  obtain ⟨p2, m2, f2⟩ := t
  unfold rowD
  simp only [PyData.eqv, PyData.eqvAll]
  by_cases h1 : p = p2 <;> cases m <;> cases m2 <;> cases f <;> cases f2 <;> simp [h1]
theorem eqv_rows : ∀ S S2 : List Spot, PyData.eqvAll (S.map rowD) (S2.map rowD) = decide (S = S2)
  | [], [] => by simp [PyData.eqvAll]
  | [], _ :: _ => by simp [PyData.eqvAll]
  | _ :: _, [] => by simp [PyData.eqvAll]
  | x :: xs, y :: ys => by
    simp only [List.map_cons, PyData.eqvAll, eqv_rows xs ys, eqv_row]
    by_cases h : x = y <;> by_cases h2 : xs = ys <;> simp [h, h2]
section
variable {P : Program} {w : World} {K : PySem.W.Frag} {mg : Str → Option Value} {base : Heap} {f fH CT CN : Addr} {fd fdH : FuncData}
theorem ok_has (F : Fun K "has" "Tree.has" (tm 3) f fd) (R : TreeK K CT) (gI : mg "isinstance" = none) (gS : mg "str" = none) : FnOk P w K mg base CX0 1 f fd ["self", "place"] (spHas K CT) := by
  have S0 : FnScope ["self", "place"] ["self", "place"] (defScope (tm 3)) := ⟨rfl, rfl, rfl, by decide +kernel, rfl, by decide +kernel, by decide +kernel⟩
  refine F.ok S0 (fun vs H Q E h => ?_) (fun cdv A outer s H vs Q E hr h => ?_)
  · obtain ⟨x, v, d, ls, S, rfl, _⟩ := h
    rfl
  · obtain ⟨x, v, d, ls, S, rfl, hd, ⟨a, dx, B, Tb, l, fs, kvs, kv2, xs, m, rfl, T⟩, q⟩ := h
    have hu := hu_of hr
    obtain ⟨Ty, tx, ks, _⟩ := ty_of hd
    refine ⟨_, pss_one (ps_ret (pe_and (pe_callB call_isi (by rfl) gI PyProof.Rows.boot_isinstance (pa_cons (pv 1) (pa_cons (pe_bltn (v := .ty "str") (by rfl) gS PyProof.Rows.boot_str rfl) pa_nil))) (pe_one (pe_cmp (pc_din hu (pv 1) (pe_fld (pv 0) rfl)))))), ?_⟩
    refine ⟨v, rfl, v, .ty "str", .type Ty, .type "str", isS d, rfl, .ty _, tx, kit_ty ks, _, rfl, ?_⟩
    cases d with
    | str p =>
      cases hd
      refine iteT ⟨V.str p, rfl, V.ref a, rfl, a, CT, dx, _, _, rfl, T.ins, R.cl, R.na _ (by simp [six6]), T.f2, Tb, _, rfl, DGet.k (k := (.inr p : Key)) T.t1, ?_⟩
      rw [T.t3]
      exact q
    | _ => exact iteF q
theorem ok_rowM (F : Fun K "row" "Tree.row" (tm 4) f fd) (R : TreeK K CT) (D : XR P w K mg base "NoPlace" CN ["place"]) (M : Meth K CT "has" fH) (GH : FnOk P w K mg base CX0 1 fH fdH ["self", "place"] (spHas K CT)) (bH : Binds K fdH ["self", "place"] []) : FnOk P w K mg base (L2.CX P w) 3 f fd ["self", "place"] (spRowM K CT CN) := by
  have S0 : FnScope ["self", "place"] ["self", "place"] (defScope (tm 4)) := ⟨rfl, rfl, rfl, by decide +kernel, rfl, by decide +kernel, by decide +kernel⟩
  refine F.okX S0 (fun vs H Q E h => ?_) (fun cdv A outer s H vs Q E hr h => ?_)
  · obtain ⟨x, v, d, ls, S, rfl, _⟩ := h
    rfl
  · obtain ⟨x, v, d, ls, S, rfl, hd, hT, k1, k2⟩ := h
    have hT0 := hT
    obtain ⟨a, dx, B, Tb, l, fs, kvs, kv2, xs, m, rfl, T⟩ := hT
    obtain ⟨fi, fdi, iC, tI, F1, b1⟩ := D.ini
    have hu := hu_of hr
    refine ⟨_, pss_cons (ps_if (pt_not (pt_val (pe_meth (pv 0) R.cl M GH (hr.mono (by decide)) bH .nil pass0 (pa_cons (pv 1) pa_nil)))) (pss_one (ps_raise rfl (takes_of rfl rfl rfl rfl) (pmk_oex D.cl.T iC tI F1 hr b1 .nil pass0 (by rfl) D.gC (pa_cons (pv 1) pa_nil)))) pss_nil) (pss_one (ps_ret (pe_dget hu (pe_fld (pv 0) rfl) (pv 1) (fun _ _ => rfl)))), ?_⟩
    refine ⟨V.ref a, rfl, a, dx, fs, rfl, T.ins, T.no _ (by simp only [six6]; decide), v, rfl, V.ref a, v, d, ls, S, rfl, hd, hT0, _, rfl, ?_⟩
    cases e : hasD S d with
    | false => exact iteT ⟨v, rfl, rd_mk rfl (by show 1 ≤ 1000; decide) fun dx' H' s' n q => k2 e H' dx' s' n q⟩
    | true =>
      refine iteF ?_
      cases d with
      | str p =>
        cases hd
        have hp : p ∈ plc S := of_decide_eq_true e
        obtain ⟨s, hs, es⟩ := List.mem_map.mp hp
        obtain ⟨t, g1, g2⟩ := T.t4 s hs
        have es : s.1 = p := es
        subst es
        have dg := DGet.k (k := (.inr s.1 : Key)) T.t1
        rw [g1] at dg
        exact ⟨V.ref a, rfl, a, CT, dx, _, _, rfl, T.ins, R.cl, R.na _ (by simp [six6]), T.f2, V.str s.1, rfl, Tb, _, rfl, dg, k1 s hs rfl t g2⟩
      | _ => cases e
theorem ok_bel (F : Fun K "below" "Tree.below" (tm 5) f fd) (R : TreeK K CT) (D : XR P w K mg base "NoPlace" CN ["place"]) (M : Meth K CT "has" fH) (GH : FnOk P w K mg base CX0 1 fH fdH ["self", "place"] (spHas K CT)) (bH : Binds K fdH ["self", "place"] []) : FnOk P w K mg base (L2.CX P w) 3 f fd ["self", "place"] (spBel K CT CN) := by
  have S0 : FnScope ["self", "place"] ["self", "place"] (defScope (tm 5)) := ⟨rfl, rfl, rfl, by decide +kernel, rfl, by decide +kernel, by decide +kernel⟩
  refine F.okX S0 (fun vs H Q E h => ?_) (fun cdv A outer s H vs Q E hr h => ?_)
  · obtain ⟨x, v, d, ls, S, rfl, _⟩ := h
    rfl
  · obtain ⟨x, v, d, ls, S, rfl, hd, hT, k1, k2⟩ := h
    have hT0 := hT
    obtain ⟨a, dx, B, Tb, l, fs, kvs, kv2, xs, m, rfl, T⟩ := hT
    obtain ⟨fi, fdi, iC, tI, F1, b1⟩ := D.ini
    have hu := hu_of hr
    refine ⟨_, pss_cons (ps_if (pt_not (pt_val (pe_meth (pv 0) R.cl M GH (hr.mono (by decide)) bH .nil pass0 (pa_cons (pv 1) pa_nil)))) (pss_one (ps_raise rfl (takes_of rfl rfl rfl rfl) (pmk_oex D.cl.T iC tI F1 hr b1 .nil pass0 (by rfl) D.gC (pa_cons (pv 1) pa_nil)))) pss_nil) (pss_one (ps_ret (pe_dget hu (pe_fld (pv 0) rfl) (pv 1) (fun _ _ => rfl)))), ?_⟩
    refine ⟨V.ref a, rfl, a, dx, fs, rfl, T.ins, T.no _ (by simp only [six6]; decide), v, rfl, V.ref a, v, d, ls, S, rfl, hd, hT0, _, rfl, ?_⟩
    cases e : hasD S d with
    | false => exact iteT ⟨v, rfl, rd_mk rfl (by show 1 ≤ 1000; decide) fun dx' H' s' n q => k2 e H' dx' s' n q⟩
    | true =>
      refine iteF ?_
      cases d with
      | str p =>
        cases hd
        have hp : p ∈ plc S := of_decide_eq_true e
        have dg := DGet.k (k := (.inr p : Key)) T.b1
        rw [T.b3 p hp] at dg
        exact ⟨V.ref a, rfl, a, CT, dx, _, _, rfl, T.ins, R.cl, R.na _ (by simp [six6]), T.f1, V.str p, rfl, B, _, rfl, dg, k1 p e rfl⟩
      | _ => cases e
theorem ok_wordsM (F : Fun K "words" "Tree.words" (tm 6) f fd) (R : TreeK K CT) (gT : mg "tuple" = none) : FnOk P w K mg base CX0 1 f fd ["self"] (spWordsM K CT) := by
  have S0 : FnScope ["self", "row"] ["self"] (defScope (tm 6)) := ⟨rfl, rfl, rfl, by decide +kernel, rfl, by decide +kernel, by decide +kernel⟩
  refine F.ok S0 (fun vs H Q E h => ?_) (fun cdv A outer s H vs Q E hr h => ?_)
  · obtain ⟨x, ls, S, rfl, _⟩ := h
    rfl
  · obtain ⟨x, ls, S, rfl, ⟨a, dx, B, Tb, l, fs, kvs, kv2, xs, m, rfl, T⟩, hz, q⟩ := h
    have hxl : xs.length = S.length := by
      have z := deAll_len T.r2
      rwa [List.length_map] at z
    have ex : (S.zip xs).map (fun p => p.2) = xs := List.map_snd_zip (by omega)
    have es : (S.zip xs).map (fun p => p.1) = S := List.map_fst_zip (by omega)
    have ef : ((S.zip xs).filter fun p => p.1.2.1).map (fun p => V.str p.1.1) = keptV S := by
      unfold keptV
      rw [← es, List.filter_map, List.map_map, es]
      rfl
    refine ⟨_, pss_one (ps_ret (pe_callTy call_tuple_of (by rfl) gT PyProof.Rows.boot_tuple (pa_cons (pe_lc (own := [("row", 1)]) (g := gName 1) rfl S0.nd (pi_tup (pe_fld (pv 0) rfl)) (blkOk_by (N := ["self", "row"]) (sc := defScope (tm 6)) (by decide +kernel))
      (fun _ _ _ _ _ => pg_name (i := 1) S0.nd rfl (Or.inl rfl)) (fun _ _ _ _ _ => pts_one (pt_val (pe_ix (r := rIxT K) ix_tup (pv 1) pe_int (fun _ _ => rfl)))) (fun _ _ _ _ _ => pe_ix (r := rIxT K) ix_tup (pv 1) pe_int (fun _ _ => rfl))) pa_nil))), ?_⟩
    refine ⟨V.ref a, rfl, a, CT, dx, _, _, rfl, T.ins, R.cl, R.na _ (by simp [six6]), T.f3, l, rfl, ⟨_, .inl (.inl T.r1)⟩, fun D nD => lcF_tup (K := K) (ws := S.zip xs) (fun p => p.2) nD (fun p => V.str p.1.1) (fun p => p.1.2.1) (by rw [ex]; exact .inl (.inl T.r1)) (Nat.lt_of_le_of_lt (by rw [List.length_zip]; omega) (show (5000 : Nat) < sizeLine by decide)) (fun i y G hy sG A B kA kB => ?_) fun G sG hD => ?_⟩
    · obtain ⟨s, v⟩ := y
      have hv : xs[i]? = some v := by
        have z := congrArg (·[i]?) ex
        simp only [List.getElem?_map, hy, Option.map_some] at z
        exact z.symm
      have hs : S[i]? = some s := by
        have z := congrArg (·[i]?) es
        simp only [List.getElem?_map, hy, Option.map_some] at z
        exact z.symm
      obtain ⟨d, hd, hde⟩ := deAll_at T.r2 hv
      rw [List.getElem?_map, hs] at hd
      obtain rfl := Option.some.inj hd
      obtain ⟨t, rfl, g2⟩ := de_row (s := s) hde
      refine ⟨rfl, V.ref t, rfl, t, _, 1, .bl s.2.1, rfl, rfl, .inl (.inl (sG _ _ g2)), rfl, s.2.1, rfl, ?_⟩
      cases e : s.2.1 with
      | true => exact iteT ⟨V.ref t, rfl, t, _, 0, .str s.1, rfl, rfl, .inl (.inl (sG _ _ g2)), rfl, kA e⟩
      | false => exact iteF (kB e)
    · rw [ef] at hD
      exact ⟨D, _, rfl, .inl ⟨.inl (.inl hD), fun l2 nl => q _ l2 (sG.trans (upd_new nl)) upd_same⟩⟩
theorem ok_eqT (F : Fun K "__eq__" "Tree.__eq__" (tm 2) f fd) (R : TreeK K CT) (gI : mg "isinstance" = none) (gC : mg "Tree" = some (.ref CT)) : FnOk P w K mg base (L2.CX P w) 1 f fd ["self", "other"] (spEqT K CT) := by
  have S0 : FnScope ["self", "other"] ["self", "other"] (defScope (tm 2)) := ⟨rfl, rfl, rfl, by decide +kernel, rfl, by decide +kernel, by decide +kernel⟩
  refine F.okX S0 (fun vs H Q E h => ?_) (fun cdv A outer s H vs Q E hr h => ?_)
  · obtain ⟨x, y, ls, S, rfl, _⟩ := h
    rfl
  · obtain ⟨x, y, ls, S, rfl, ⟨a, dx, B, Tb, l, fs, kvs, kv2, xs, m, rfl, T⟩, hS, hy⟩ := h
    have hu64 := hr.units
    refine ⟨_, pss_one (ps_ret (pe_and (pe_callB call_isi (by rfl) gI PyProof.Rows.boot_isinstance (pa_cons (pv 1) (pa_cons (pe_glob (v := V.ref CT) (by rfl) gC rfl) pa_nil)))
      (pe_and (pe_cmpR op_eq (pe_fld (pv 0) rfl) (pe_fld (pv 1) rfl) (nomark _)) (pe_one (pe_cmpR (op_eqD hu64) (pe_fld (pv 0) rfl) (pe_fld (pv 1) rfl) (nomark _)))))), ?_⟩
    rcases hy with ⟨l2, S2, ⟨b, dy, B2, Tb2, lb, fb, kvb, kvb2, xb, mb, rfl, T2⟩, hS2, q⟩ | ⟨t, ts, rfl, ht, q⟩
    · refine ⟨V.ref b, rfl, V.ref b, .ref CT, .ref CT, .ref CT, true, rfl, .own CT, R.ty T2.ins, R.k1, true, rfl, iteT ?_⟩
      refine ⟨V.ref a, rfl, a, CT, dx, _, _, rfl, T.ins, R.cl, R.na _ (by simp [six6]), T.f4, V.ref b, rfl, b, CT, dy, _, _, rfl, T2.ins, R.cl, R.na _ (by simp [six6]), T2.f4, rfl, _, rfl, ?_⟩
      refine ite2 (fun c => ?_) (fun c => ?_)
      · have cl : ls = l2 := V.str.inj (of_decide_eq_true c)
        refine ⟨V.ref a, rfl, a, CT, dx, _, _, rfl, T.ins, R.cl, R.na _ (by simp [six6]), T.f3, V.ref b, rfl, b, CT, dy, _, _, rfl, T2.ins, R.cl, R.na _ (by simp [six6]), T2.f3, .tuple (S.map rowD), .tuple (S2.map rowD), .tup (.inl (.inl T.r1)) (rows_dp T.r2), .tup (.inl (.inl T2.r1)) (rows_dp T2.r2), rows_shaped hS, rows_shaped hS2, ?_⟩
        have z : PyData.eqv (.tuple (S.map rowD)) (.tuple (S2.map rowD)) = decide (ls = l2 ∧ S = S2) := by
          simp only [PyData.eqv, eqv_rows]
          rw [decide_eq_decide]
          exact ⟨fun h => ⟨cl, h⟩, fun h => h.2⟩
        rw [z]
        exact q
      · have z : decide (ls = l2 ∧ S = S2) = false := decide_eq_false fun h => c (decide_eq_true (by rw [h.1]))
        rw [z] at q
        exact q
    · exact ⟨V.ref t, rfl, V.ref t, .ref CT, .type "tuple", .ref CT, false, rfl, .own CT, .base (.tup ht), R.kT, false, rfl, iteF q⟩
end
end SK
namespace SK
open PySem PySem.Spec PyProof.Rows L2 LamX NdefX
open K0 (De DeAll XCl spX withX)
theorem neT {p : Prop} {A B : Prop} [inst : Decidable p] (h : p) (k : B) : if (!decide p) = true then A else B := by
  rw [decide_eq_true h]
  exact iteF k
def lcp : List Nat → List Nat → Nat
  | a :: x, b :: y => if a = b then lcp x y + 1 else 0
  | _, _ => 0
theorem lcp_at : ∀ (x y : List Nat) (i : Nat), i < x.length → i < y.length → (∀ j, j < i → x[j]? = y[j]?) → x[i]? ≠ y[i]? → lcp x y = i
  | [], _, i, h, _, _, _ => absurd h (Nat.not_lt_zero _)
  | _ :: _, [], i, _, h, _, _ => absurd h (Nat.not_lt_zero _)
  | a :: x, b :: y, 0, _, _, _, h => by
    have n : a ≠ b := fun e => h (by rw [e]; rfl)
    unfold lcp
    rw [if_neg n]
  | a :: x, b :: y, i + 1, h1, h2, h3, h4 => by
    have e : a = b := by
      have z := h3 0 (Nat.succ_pos _)
      exact Option.some.inj z
    unfold lcp
    rw [if_pos e, lcp_at x y i (Nat.lt_of_succ_lt_succ h1) (Nat.lt_of_succ_lt_succ h2) (fun j hj => h3 (j + 1) (Nat.succ_lt_succ hj)) h4]
theorem lcp_min : ∀ (x y : List Nat), (∀ j, j < min x.length y.length → x[j]? = y[j]?) → lcp x y = min x.length y.length
  | [], y, _ => by simp [lcp]
  | _ :: _, [], _ => by simp [lcp]
  | a :: x, b :: y, h => by
    have e : a = b := by
      have z := h 0 (by simp)
      exact Option.some.inj z
    unfold lcp
    rw [if_pos e, lcp_min x y (fun j hj => h (j + 1) (by simp at hj ⊢; omega))]
    simp
def lcpS (x y : Str) : Nat := lcp x.cps.toList y.cps.toList
def spShared : Sp := fun vs H Q _ => ∃ x y : Str, vs = [.str x, .str y] ∧ x.cps.size ≤ 1000 ∧ y.cps.size ≤ 1000 ∧ Q (.int (lcpS x y : Nat)) H
section
variable {P : Program} {w : World} {K : PySem.W.Frag} {mg : Str → Option Value} {base : Heap} {f fH fR fB fWd fS fC CT : Addr} {fd fdH fdR fdB fdWd fdS fdC : FuncData}
theorem ok_shared (F : Fun K "shared" "shared" (top 34) f fd) (gM : mg "min" = none) (gN : mg "len" = none) (gR : mg "range" = none) : FnOk P w K mg base CX0 1 f fd ["one", "other"] spShared := by
  have S0 : FnScope ["one", "other", "most", "at"] ["one", "other"] (defScope (top 34)) := ⟨rfl, rfl, rfl, by decide +kernel, rfl, by decide +kernel, by decide +kernel⟩
  refine F.ok S0 (fun vs H Q E h => ?_) (fun cdv A outer s H vs Q E hr h => ?_)
  · obtain ⟨x, y, rfl, _⟩ := h
    rfl
  · obtain ⟨x, y, rfl, hx, hy, q⟩ := h
    have z1 : (1000 : Nat) ≤ sizeLine := by decide
    have lx : x.length ≤ sizeLine := Nat.le_trans hx z1
    have ly : y.length ≤ sizeLine := Nat.le_trans hy z1
    refine ⟨_, pss_cons (ps_set (i := 2) S0.nd rfl (Or.inl rfl) (pe_callB (call_min2 rfl) (by rfl) gM PyProof.Rows.boot_min (pa_cons (pe_callB call_len_str (by rfl) gN PySem.boot_len (pa_cons (pv 0) pa_nil)) (pa_cons (pe_callB call_len_str (by rfl) gN PySem.boot_len (pa_cons (pv 1) pa_nil)) pa_nil))))
      (pss_cons (ps_for PassesOwn.never rfl (pi_range1 (by rfl) gR (pa_cons (pv 2) pa_nil)) (pg_name (i := 3) S0.nd rfl (Or.inl rfl)) (pss_one (ps_if (pt_cmpR op_ne (pe_ix ix_str (pv 0) (pv 3) (fun _ _ => rfl)) (pe_ix ix_str (pv 1) (pv 3) (fun _ _ => rfl)) (nomark _)) (pss_one (ps_ret (pv 3))) pss_nil)))
      (pss_one (ps_ret (pv 2)))), ?_⟩
    refine ⟨V.str x, rfl, x, rfl, lx, V.str y, rfl, y, rfl, ly, x.length, y.length, rfl, ?_⟩
    obtain ⟨m, hm, hm2⟩ : ∃ m : Nat, (if (y.length : Int) < (x.length : Int) then (y.length : Int) else (x.length : Int)) = (m : Int) ∧ m = min x.cps.toList.length y.cps.toList.length := by
      have ex : x.length = x.cps.toList.length := by simp [Str.length]
      have ey : y.length = y.cps.toList.length := by simp [Str.length]
      rw [← ex, ← ey]
      refine ⟨min x.length y.length, ?_, rfl⟩
      split <;> omega
    dsimp only
    rw [hm]
    have mx : m ≤ x.cps.toList.length := by omega
    have my : m ≤ y.cps.toList.length := by omega
    have mz : m ≤ 1000 := by
      have : x.cps.toList.length = x.cps.size := Array.length_toList
      omega
    refine ⟨V.int m, rfl, m, rfl, by omega, by omega, for_it walk_range (fun i σ G => G = H ∧ (∃ x3, σ = [some (.str x), some (.str y), some (.int m), x3]) ∧ ∀ j, j < i → x.cps.toList[j]? = y.cps.toList[j]?) ⟨rfl, ⟨none, rfl⟩, fun j h => absurd h (Nat.not_lt_zero _)⟩ (fun _ _ _ _ _ => trivial) ?_ ?_⟩
    · rintro i v σ G G2 hi ⟨rfl, ⟨x3, rfl⟩, hj⟩ ⟨rfl, rfl⟩
      have hi' : i < m := by
        have z : ((m : Nat) : Int).toNat = m := Int.toNat_natCast m
        have h2 : i < ((m : Nat) : Int).toNat := hi
        omega
      obtain ⟨a, hxa⟩ : ∃ a, x.cps.toList[i]? = some a := ⟨_, List.getElem?_eq_getElem (by omega)⟩
      obtain ⟨b, hyb⟩ : ∃ b, y.cps.toList[i]? = some b := ⟨_, List.getElem?_eq_getElem (by omega)⟩
      have e0 : (0 + (i : Int)) = (i : Int) := by omega
      refine ⟨V.str x, rfl, V.int (0 + i), rfl, x, (0 + i : Int), a, rfl, rfl, lx, (by rw [e0]; exact atI_nat hxa), V.str y, rfl, V.int (0 + i), rfl, y, (0 + i : Int), b, rfl, rfl, ly, (by rw [e0]; exact atI_nat hyb), rfl, _, rfl, ?_⟩
      by_cases hab : a = b
      · subst hab
        refine neT rfl ⟨rfl, ⟨_, rfl⟩, fun j h => ?_⟩
        by_cases hji : j = i
        · rw [hji, hxa, hyb]
        · exact hj j (by omega)
      · have n : ¬ V.str ⟨#[a]⟩ = V.str ⟨#[b]⟩ := fun z => hab (by injection z with z; injection z with z; simpa using z)
        rw [decide_eq_false n]
        refine iteT ⟨V.int (0 + i), rfl, ?_⟩
        rw [e0]
        have e : lcpS x y = i := lcp_at _ _ i (by omega) (by omega) hj (by rw [hxa, hyb]; exact fun z => hab (Option.some.inj z))
        rw [e] at q
        exact q
    · rintro σ G ⟨rfl, ⟨x3, rfl⟩, hj⟩
      refine ⟨V.int m, rfl, ?_⟩
      have z : ((m : Nat) : Int).toNat = m := Int.toNat_natCast m
      rw [z] at hj
      have e : lcpS x y = m := by
        rw [hm2]
        exact lcp_min _ _ (fun j h => hj j (by omega))
      rw [e] at q
      exact q
end
end SK
namespace SK
open PySem PySem.Spec PyProof.Rows L2 LamX NdefX
open K0 (De DeAll XCl spX withX)
theorem unlock_same {H G : Hp} {d : Addr} {o : Obj} {u : HO} (h : H d = some u) (s : Same (upd H d (.frz o u)) G) : Same H (upd G d u) := fun b v e => by
  by_cases c : b = d
  · subst c
    rw [h] at e
    cases e
    exact upd_same
  · rw [upd_ne c]
    exact s _ _ (by rw [upd_ne c]; exact e)
theorem lock_none {H : Hp} {d D : Addr} {o : HO} (h : upd H d o D = none) : H D = none := by
  by_cases c : D = d
  · rw [c, upd_same] at h
    cases h
  · rw [upd_ne c] at h
    exact h
section
variable {g : TG} {tt : TT} {te : TE} {vs : List Nat} {σ : St} {H1 : Hp} {D : Addr} {Qd : Hp → Prop}
theorem lcF_keys {α : Type} {ws : List α} {d : Addr} {o : Obj} {kvs : List (Key × V)} (enc : α → Str) (nD : H1 D = none) (hd : H1 d = some (.frz o (.dK kvs))) (hk : kvs.map Prod.fst = ws.map fun a => (Sum.inr (enc a) : Key)) (f : α → V) (c : α → Bool) (hz : ws.length < sizeLine)
    (step : ∀ (i : Nat) (x : α) (H : Hp), ws[i]? = some x → Same H1 H → TurnF g tt te vs σ (.str (enc x)) (f x) (c x) H) (fin : ∀ H, Same H1 H → H D = some (.lst ((ws.filter c).map f)) → Qd H) :
    ∃ W : Nat → Nat → Hp → Prop, (∃ m, W 0 m (upd H1 D (.lst []))) ∧ ∀ i m H, W i m H →
      ((Itk d o kvs).stop i H ∧ Qd H) ∨ ((Itk d o kvs).go i H ∧ ∃ Nx : Hp → Prop, (∀ H', Nx H' → ∃ m', m' < m ∧ W (i + 1) m' H') ∧ ∀ x H', (Itk d o kvs).yld i H x H' → g x (wipe σ vs) H' fun σ2 H2 => wipe σ2 vs = wipe σ vs ∧ tt σ2 H2 fun b H3 =>
        if b = true then te σ2 H3 fun y H4 => ∃ acc, H4 D = some (.lst acc) ∧ acc.length < sizeLine ∧ Nx (upd H4 D (.lst (acc ++ [y]))) else Nx H3) := by
  have hl : kvs.length = ws.length := by
    have z := congrArg List.length hk
    rw [List.length_map, List.length_map] at z
    exact z
  refine lc_it (walk_keys (d := d) (o := o) (kvs := kvs)) (fun i H => Same H1 H ∧ H D = some (.lst (((ws.take i).filter c).map f))) ⟨same_new nD, upd_same⟩ (fun i H _ p => p.1 _ _ hd) ?_ fun H p => fin H p.1 (by rw [hl, List.take_length] at p; exact p.2)
  rintro i x H H' hi ⟨s, hD⟩ ⟨rfl, k, v, hkv, rfl⟩
  obtain ⟨y, hy⟩ : ∃ y, ws[i]? = some y := ⟨_, List.getElem?_eq_getElem (by omega)⟩
  have ek : k = .inr (enc y) := by
    have z := congrArg (fun l : List Key => l[i]?) hk
    simp only [List.getElem?_map, hkv, hy, Option.map_some] at z
    exact Option.some.inj z
  subst ek
  refine step i y H' hy s _ _ (fun hc => ⟨_, hD, Nat.lt_of_le_of_lt filt_len hz, same_upd nD s, ?_⟩) fun hc => ⟨s, ?_⟩
  · rw [filt_snoc hy, if_pos hc]
    exact upd_same
  · rw [filt_snoc hy, if_neg (by rw [hc]; simp), List.append_nil]
    exact hD
end
end SK
namespace SK
open PySem PySem.Spec PyProof.Rows L2 LamX NdefX
open K0 (De DeAll XCl spX withX)
/-! ### sorted of texts, a list or a tuple, any length -/
def srt (ws : List Str) : List Str := ws.mergeSort (PySem.W.dataLe false PyData.str)
def rSrt (K : PySem.W.Frag) : List V → Hp → VK → Prop := fun xs H Q => ∃ (a : Addr) (ws : List Str), xs = [.ref a] ∧ (SqL K H a (ws.map V.str) ∨ SqT K H a (ws.map V.str)) ∧ ∀ p, H p = none → Q (.ref p) (upd H p (.lst ((srt ws).map V.str)))
end SK
namespace PyProof.Rows
open PySem PySem.Calls
section
variable {prog : Program} {w : World} {A : Around} {E : Value → Shared → Prop} {s : Shared}
theorem tupled {l : Addr} {vs : List Value} {Q : List Value → Shared → Prop} (hl : s.heap.IsTuple l vs.toArray) (hsz : vs.length ≤ sizeLine)
    (k : Q vs { s with heap := (s.heap.push (seqObj "list" #[] 0)).update s.heap.objs.size (Obj.mapSeq (· ++ vs.toArray)) }) : wpAny (model prog w) A (collect (.ref l)) Q E s := by
  obtain ⟨ot, hot, hct, nt, hdt⟩ := id hl
  unfold collect
  refine wpAny_bind (wpAny_runValue (codeAny_builtin entry_proto_collect' ?_))
  show wpAny _ _ (do again (.builtin "list.__iadd__" ⟨[← newList [], Value.ref l], []⟩)) _ _ s
  refine wpAny_bind (wpAny_newList (wpAny_pure ⟨Code.quiet_builtin _ (by decide +kernel), codeAny_builtin entry_list_iadd' ?_⟩))
  show wpAny _ _ (Builtin.List.listExtendWith (Value.ref s.heap.objs.size) (Value.ref l) (Value.ref s.heap.objs.size)) _ _ { s with heap := s.heap.push (seqObj "list" #[] 0) }
  unfold Builtin.List.listExtendWith
  have hot' : (s.heap.push (seqObj "list" #[] 0)).get? l = some ot := Heap.get?_push_of_some _ hot
  have new0 : (s.heap.push (seqObj "list" #[] 0)).get? s.heap.objs.size = some (seqObj "list" #[] 0) := Heap.get?_push_size _ rfl
  refine wpAny_bind (wpAny_typeOf (T := "tuple") ⟨ot, hot', hct⟩ ?_)
  have ht : (Value.type "tuple" == Value.type "tuple") = true := by rfl
  rw [if_pos (by rw [ht]; simp)]
  refine wpAny_bind (listItems_at hot' hdt ?_)
  refine wpAny_bind (listItems_at (xs := #[]) (n := 0) new0 rfl ?_)
  rw [if_neg (show ¬ ((!(#[] : Array Value).isEmpty && _) = true) by simp)]
  have room : (#[] ++ vs.toArray).size ≤ sizeLine + 1 := by
    simp only [Array.size_append, List.size_toArray, List.length_nil]
    omega
  refine wpAny_bind (listUpdate_at (xs := #[]) (n := 0) new0 rfl ?_ (Nat.zero_le _) room)
  refine wpAny_pure ?_
  show wpAny _ _ (do
      let ob ← load s.heap.objs.size
      match ob.data with
      | .seq ys _ => pure ys.toList
      | _ => unsupported "internal:collect") _ _ { s with heap := (s.heap.push (seqObj "list" #[] 0)).update s.heap.objs.size (Obj.mapSeq (· ++ vs.toArray)) }
  refine wpAny_bind (wpAny_load (get?_update_seq new0 _) ?_)
  show wpAny _ _ (pure ((#[] : Array Value) ++ vs.toArray).toList) _ _ _
  have all : ((#[] : Array Value) ++ vs.toArray).toList = vs := by simp
  rw [all]
  exact wpAny_pure k
end
end PyProof.Rows
namespace PySem.W
open PySem PyProof.Rows PySem.Calls
section
variable {prog : Program} {w : World} {A : Around} {E : Value → Shared → Prop} {s : Shared} {β : Type} {vs : List Value} {bs : List β} {enc : β → PyData} {R : Value → β → Prop}
theorem sortT {l : Addr} {vs : List Value} {kw : List (Str × Value)} {Q : Value → Shared → Prop} (hl : s.heap.IsTuple l vs.toArray) (hL : vs.length ≤ sizeLine) (a1 : argsOk "sorted" ⟨[.ref l], kw⟩) (a2 : ∀ x, argsOk "list.sort" ⟨[.ref x], kw⟩)
    (h : ∀ E' : Value → Shared → Prop, wpAny (model prog w) A.in1.in1 (Builtin.«list.sort» ⟨[.ref (s.heap.objs.size + 1)], kw⟩) (fun f s' => f = .done (.ret .none) ∧ Q (.ref (s.heap.objs.size + 1)) s') E' { s with heap := copyHeap s.heap vs }) :
    wpAny (model prog w) A (call (.builtin "sorted") [.ref l] kw) Q E s := by
  refine call_function_entry_kw kind_sorted plain_sorted entry_sorted a1 ?_
  unfold Builtin.«sorted»
  refine wpAny_bind (m := checkCount "sorted" 1 1 _) (wpAny_pure (wpAny_bind (tupled hl hL ?_)))
  refine wpAny_bind (wpAny_newList ?_ hL)
  have len : ((s.heap.push (seqObj "list" #[] 0)).update s.heap.objs.size (Obj.mapSeq (· ++ vs.toArray))).objs.size = s.heap.objs.size + 1 := by
    rw [Heap.size_update, size_push']
  show wpAny _ _ _ _ _ ({ s with heap := copyHeap s.heap vs } : Shared)
  rw [len]
  refine wpAny_bind (wpAny_holding (wpAny_call_entry_kw slot_list_sort ⟨_, copyHeap_at s.heap vs, rfl⟩ entry_list_sort ?body (a2 _)))
  case body =>
    refine wpAny_mono (h _) (fun f s' hf => ?_) fun _ _ z => z
    obtain ⟨rfl, q⟩ := hf
    exact ⟨_, rfl, wpAny_pure ⟨_, rfl, q⟩⟩
theorem sortedT {l : Addr} {Q : Value → Shared → Prop} (hl : s.heap.IsTuple l vs.toArray) (e : EachIs R vs bs) (er : EachIs (fun v b => ∃ as, Reads s.heap v (enc b) as) vs bs) (hal : AllAlike (bs.map enc)) (hk : Sortable (bs.map enc)) (hL : bs.length ≤ sizeLine)
    (hu : ∀ b, b ∈ bs → A.units + 2 + (enc b).depth < cLine) (h : ∀ out, out.length = bs.length → EachIs R out (bs.mergeSort (dataLe false enc)) → Q (.ref (s.heap.objs.size + 1)) { s with heap := sortedAll s.heap vs (List.toArray out) }) :
    wpAny (model prog w) A (call (.builtin "sorted") [.ref l]) Q E s := by
  have er2 : EachIs (fun v b => ∃ as, Reads (sortingHeap (copyHeap s.heap vs) (s.heap.objs.size + 1) vs) v (enc b) as) vs bs := er.mono fun _ _ ⟨as, r⟩ => ⟨as, PyProof.Rows.Reads.keeps (fun _ _ => sorting_copy_old) r⟩
  have S : SortsAt prog w A.in1.in1 { s with heap := sortingHeap (copyHeap s.heap vs) (s.heap.objs.size + 1) vs } _ vs := SortsAt.data (s := { s with heap := sortingHeap (copyHeap s.heap vs) (s.heap.objs.size + 1) vs }) (each_map (R := fun v d => ∃ as, Reads (sortingHeap (copyHeap s.heap vs) (s.heap.objs.size + 1) vs) v d as) enc er2) hal hk (bound_map hu)
  have hL2 : vs.length ≤ sizeLine := by rw [e.length]; exact hL
  exact sortT hl hL2 (args_sorted1 _) (fun _ => args_list_sort _) fun _ => list_sort_vals (s := { s with heap := copyHeap s.heap vs }) (copyHeap_at s.heap vs) S hL2 ⟨rfl, h _ (by rw [sortVals_length false rfl]; exact e.length) (sortVals_data false e er2 hal)⟩
end
end PySem.W
namespace SK
open PySem PySem.Spec PyProof.Rows L2 LamX NdefX
open K0 (De DeAll XCl spX withX)
theorem strs_of : ∀ {ws : List Str} {us : List Value}, Vals (ws.map V.str) us → PySem.W.EachIs (fun v b => ∃ t, v = Value.str b t) us ws
  | [], [], _ => .nil
  | [], _ :: _, h => by cases h
  | _ :: _, [], h => by cases h
  | w :: ws, u :: us, h => by
    cases h with
    | cons h1 h2 => exact .cons h1 (strs_of h2)
theorem strs_to : ∀ {us : List Value} {ws : List Str}, PySem.W.EachIs (fun v b => ∃ t, v = Value.str b t) us ws → Vals (ws.map V.str) us
  | _, _, .nil => .nil
  | _, _, .cons h1 h2 => .cons h1 (strs_to h2)
theorem strs_alike (ws : List Str) : PySem.W.AllAlike (ws.map PyData.str) := fun d hd e he => by
  obtain ⟨x, _, rfl⟩ := List.mem_map.mp hd
  obtain ⟨y, _, rfl⟩ := List.mem_map.mp he
  simp [PySem.W.alike]
theorem strs_sortable (ws : List Str) : PySem.W.Sortable (ws.map PyData.str) := .inr fun d hd => by
  obtain ⟨x, _, rfl⟩ := List.mem_map.mp hd
  exact ⟨(fun z => nomatch z), fun xs z => nomatch z⟩
theorem cr_srt {X : Cx} (hu : X.A.units + 64 < cLine) : CallR X (.builtin "sorted") (rSrt X.K) := by
  intro pins s σ H xs us Q I r h
  obtain ⟨a, ws, rfl, hS, q⟩ := h
  obtain ⟨u, rfl, ru⟩ := vals1 r
  obtain rfl : u = Value.ref a := ru
  have rd : ∀ {us : List Value} {cs : List Str}, PySem.W.EachIs (fun v b => ∃ t, v = Value.str b t) us cs → PySem.W.EachIs (fun v b => ∃ as, Reads s.heap v (PyData.str b) as) us cs := fun {us cs} ee => by
    induction ee with
    | nil => exact .nil
    | cons h1 h2 ih =>
      obtain ⟨t, rfl⟩ := h1
      exact .cons ⟨_, Reads.str _ t⟩ ih
  have dep : ∀ b : Str, b ∈ ws → X.A.units + 2 + (PyData.str b).depth < cLine := fun b _ => by
    simp only [PyData.depth]
    omega
  have fin : ∀ (its out : List Value), ws.length ≤ sizeLine → PySem.W.EachIs (fun v b => ∃ t, v = Value.str b t) out (ws.mergeSort (PySem.W.dataLe false PyData.str)) → ∃ (v : V) (H' : Hp), Inv X pins σ H' { s with heap := sortedAll s.heap its (List.toArray out) } ∧ RelV v (.ref (s.heap.objs.size + 1)) ∧ Q v H' := fun its out hz eo => by
    obtain ⟨ep, he'⟩ := PyProof.Rows.sortedAll_at s.heap its out.toArray
    have hlen : ((srt ws).map V.str).length ≤ sizeLine := by
      unfold srt
      rw [List.length_map, List.length_mergeSort]
      exact hz
    exact ⟨.ref _, upd H (s.heap.objs.size + 1) (.lst ((srt ws).map V.str)), I.laid (t' := s.toks) (fun _ _ => PyProof.Rows.sortedAll_old) (Nat.le_succ _) ⟨hlen, _, ep, strs_to eo, he'⟩, rfl, q _ (I.hok.fresh (Nat.le_succ _))⟩
  rcases hS with hS | hS
  · obtain ⟨its, rv, hl, hz⟩ := I.list hS
    rw [List.length_map] at hz
    have e := strs_of rv
    exact PySem.W.sorted_data (R := fun v b => ∃ t, v = Value.str b t) hl.isList e (rd e) (strs_alike ws) (strs_sortable ws) hz dep fun out ho eo => fin its out hz eo
  · obtain ⟨its, rv, hl, hz⟩ := I.tuple hS
    rw [List.length_map] at hz
    have e := strs_of rv
    exact PySem.W.sortedT (R := fun v b => ∃ t, v = Value.str b t) hl e (rd e) (strs_alike ws) (strs_sortable ws) hz dep fun out ho eo => fin its out hz eo
end SK
namespace SK
open PySem PySem.Spec PyProof.Rows L2 LamX NdefX
open K0 (De DeAll XCl spX withX)
/-! ### how many beginnings -/
theorem lcp_le2 : ∀ (x y : List Nat), lcp x y ≤ y.length
  | [], y => by simp [lcp]
  | _ :: _, [] => by simp [lcp]
  | a :: x, b :: y => by
    have := lcp_le2 x y
    unfold lcp
    split
    · simp
      omega
    · simp
def nobL : Str → List Str → Nat → Nat
  | _, [], m => m
  | last, y :: r, m => nobL y r (m + (y.cps.size - lcpS last y))
def nob (ws : List Str) : Nat := nobL "" (srt ws) 1
theorem nobL_snoc : ∀ (l : List Str) (last y : Str) (m : Nat), nobL last (l ++ [y]) m = nobL last l m + (y.cps.size - lcpS (l.getLastD last) y)
  | [], _, _, _ => rfl
  | x :: l, last, y, m => by
    show nobL x (l ++ [y]) _ = nobL x l _ + _
    rw [nobL_snoc l x y]
    rw [List.getLastD_cons]
def spNob (K : PySem.W.Frag) : Sp := fun vs H Q _ => ∃ (a : Addr) (ws : List Str), vs = [.ref a] ∧ (SqL K H a (ws.map V.str) ∨ SqT K H a (ws.map V.str)) ∧ ws.length ≤ 1000 ∧ (∀ y ∈ ws, y.cps.size ≤ 1000) ∧ ∀ H', Same H H' → Q (.int (nob ws : Nat)) H'
section
variable {P : Program} {w : World} {K : PySem.W.Frag} {mg : Str → Option Value} {base : Heap} {f fS : Addr} {fd fdS : FuncData}
theorem ok_nob (F : Fun K "number_of_beginnings" "number_of_beginnings" (top 35) f fd) (gSo : mg "sorted" = none) (gN : mg "len" = none) (gS : mg "shared" = some (.ref fS)) (kS : PySem.W.keepIn K (.ref fS) = true)
    (GS : FnOk P w K mg base CX0 1 fS fdS ["one", "other"] spShared) (bS : Binds K fdS ["one", "other"] []) : FnOk P w K mg base CX0 2 f fd ["words"] (spNob K) := by
  have S0 : FnScope ["words", "many", "last", "word"] ["words"] (defScope (top 35)) := ⟨rfl, rfl, rfl, by decide +kernel, rfl, by decide +kernel, by decide +kernel⟩
  refine F.ok S0 (fun vs H Q E h => ?_) (fun cdv A outer s H vs Q E hr h => ?_)
  · obtain ⟨a, ws, rfl, _⟩ := h
    rfl
  · obtain ⟨a, ws, rfl, hS, hz, hy, kk⟩ := h
    have hu64 := hr.units
    refine ⟨_, pss_cons (ps_set (i := 1) S0.nd rfl (Or.inl rfl) pe_int) (pss_cons (ps_set (i := 2) S0.nd rfl (Or.inl rfl) pe_str)
      (pss_cons (ps_for PassesOwn.never rfl (pi_list (pe_callB (cr_srt hu64) (by rfl) gSo PyProof.Rows.boot_sorted (pa_cons (pv 0) pa_nil))) (pg_name (i := 3) S0.nd rfl (Or.inl rfl))
        (pss_cons (ps_aug (i := 1) S0.nd rfl (Or.inl rfl) (pe_op op_sub (pe_callB call_len_str (by rfl) gN PySem.boot_len (pa_cons (pv 3) pa_nil)) (pe_call GS hr (by rfl) gS kS bS .nil pass0 (pa_cons (pv 2) (pa_cons (pv 3) pa_nil)))) ip_add)
        (pss_one (ps_set (i := 2) S0.nd rfl (Or.inl rfl) (pv 3)))))
      (pss_one (ps_ret (pv 1))))), ?_⟩
    refine ⟨V.ref a, rfl, a, ws, rfl, hS, fun p np => ?_⟩
    have s1 := upd_new (o := .lst ((srt ws).map V.str)) np
    have h1 : upd H p (.lst ((srt ws).map V.str)) p = some (.lst ((srt ws).map V.str)) := upd_same
    generalize upd H p (.lst ((srt ws).map V.str)) = H1 at s1 h1
    have hm : ∀ y ∈ srt ws, y.cps.size ≤ 1000 := fun y hy' => hy y ((List.mergeSort_perm ws _).mem_iff.mp hy')
    have hl : (srt ws).length ≤ 1000 := by
      unfold srt
      rw [List.length_mergeSort]
      exact hz
    have kk : ∀ H', Same H H' → Q (.int (nobL "" (srt ws) 1 : Nat)) H' := kk
    generalize srt ws = zs at h1 hm hl kk
    refine ⟨p, rfl, ⟨_, .inl (.inl h1)⟩, for_it (walk_list (K := K) (xs := zs.map V.str)) (fun i σ G => G = H1 ∧ ∃ (x3 : Option V), σ = [some (.ref a), some (.int (nobL "" (zs.take i) 1 : Nat)), some (.str ((zs.take i).getLastD "")), x3] ∧ nobL "" (zs.take i) 1 ≤ 1 + 1000 * i)
      ⟨rfl, none, rfl, (by show 1 ≤ _; omega)⟩ (fun i σ G _ q => by rw [q.1]; exact .inl (.inl h1)) ?_ ?_⟩
    · rintro i x σ G G2 hi ⟨rfl, x3, rfl, hb⟩ ⟨rfl, hx⟩
      obtain ⟨y, hy', rfl⟩ := map_at hx
      have hyz := hm y (List.mem_of_getElem? hy')
      have hyl : y.length ≤ sizeLine := Nat.le_trans hyz (by decide)
      have hlast : ((zs.take i).getLastD "").cps.size ≤ 1000 := by
        rw [List.getLastD_eq_getLast?]
        cases e : (zs.take i).getLast? with
        | none => exact (by decide : ((Str.ofString "").cps.size ≤ 1000))
        | some u => exact hm u (List.mem_of_mem_take (List.mem_of_getLast? e))
      have hil : i < 1000 := by
        rw [List.length_map] at hi
        omega
      have hlc : lcpS ((zs.take i).getLastD "") y ≤ y.cps.size := by
        have z := lcp_le2 ((zs.take i).getLastD "").cps.toList y.cps.toList
        rw [Array.length_toList] at z
        exact z
      have b62 : (2000000 : Int) < 2 ^ 62 := by decide
      refine ⟨_, rfl, V.str y, rfl, y, rfl, hyl, V.str ((zs.take i).getLastD ""), rfl, V.str y, rfl, _, y, rfl, hlast, hyz, ?_⟩
      refine ⟨(y.length : Int), (lcpS ((zs.take i).getLastD "") y : Nat), rfl, rfl, ?_⟩
      have el : y.length = y.cps.size := rfl
      have en : nobL "" (zs.take (i + 1)) 1 = nobL "" (zs.take i) 1 + (y.cps.size - lcpS ((zs.take i).getLastD "") y) := by
        rw [take_snoc hy', nobL_snoc]
      refine ⟨_, _, rfl, rfl, ?_⟩
      refine ⟨V.str y, rfl, rfl, some (.str y), ?_, by rw [en]; omega⟩
      have e1 : ((nobL "" (zs.take i) 1 : Nat) : Int) + ((y.length : Int) - ((lcpS ((zs.take i).getLastD "") y : Nat) : Int)) = ((nobL "" (zs.take (i + 1)) 1 : Nat) : Int) := by
        rw [en, el]
        omega
      have e2 : (zs.take (i + 1)).getLastD "" = y := by
        rw [take_snoc hy']
        simp
      rw [e2, ← e1]
      rfl
    · rintro σ G ⟨rfl, x3, rfl, hb⟩
      rw [List.length_map, List.take_length]
      exact ⟨_, rfl, kk _ s1⟩
end
end SK
namespace SK
open PySem PySem.Spec PyProof.Rows L2 LamX NdefX
open K0 (De DeAll XCl spX withX)
/-! ### the marks of all beginnings -/
def isBeg (ws : List Str) (x : Str) : Prop := x = Str.ofString "" ∨ ∃ y ∈ ws, x.cps.toList <+: y.cps.toList
theorem cut_take (y : Str) (n : Nat) : (cutS y none (some (n : Int))).cps.toList = y.cps.toList.take n := by
  have e : HT.sIx y.length y.length (some (n : Int)) = min n y.length := by
    show (if ((n : Int)) < 0 then (((n : Int)) + (y.length : Int)).toNat else min ((n : Int)).toNat y.length) = _
    rw [if_neg (by omega)]
    rfl
  unfold cutS
  rw [e, HT.sIx_none, List.drop_zero, Nat.sub_zero]
  have z : y.length = y.cps.toList.length := by simp [Str.length]
  rw [z, List.toList_toArray, ← List.take_take, List.take_length]
theorem empty_list : (Str.ofString "").cps.toList = [] := by decide +kernel
theorem beg_step (pw : List Str) (y x : Str) : isBeg (pw ++ [y]) x ↔ (isBeg pw x ∨ ∃ n, 1 ≤ n ∧ n ≤ y.length - 1 ∧ x.cps.toList = y.cps.toList.take n) ∨ x = y := by
  have hyl : y.length = y.cps.toList.length := by simp [Str.length]
  constructor
  · rintro (h | ⟨u, hu, hp⟩)
    · exact .inl (.inl (.inl h))
    · rcases List.mem_append.mp hu with hu | hu
      · exact .inl (.inl (.inr ⟨u, hu, hp⟩))
      · obtain rfl : u = y := by simpa using hu
        have ht := List.prefix_iff_eq_take.mp hp
        have hle := hp.length_le
        by_cases h0 : x.cps.toList.length = 0
        · exact .inl (.inl (.inl (str_ext (by rw [empty_list]; exact List.eq_nil_of_length_eq_zero h0))))
        · by_cases h1 : x.cps.toList.length = u.cps.toList.length
          · refine .inr (str_ext ?_)
            rw [ht, h1, List.take_length]
          · exact .inl (.inr ⟨x.cps.toList.length, by omega, by omega, ht⟩)
  · rintro ((h | ⟨n, h1, h2, h3⟩) | rfl)
    · rcases h with h | ⟨u, hu, hp⟩
      · exact .inl h
      · exact .inr ⟨u, List.mem_append_left _ hu, hp⟩
    · exact .inr ⟨y, by simp, by rw [h3]; exact List.take_prefix _ _⟩
    · exact .inr ⟨x, by simp, List.prefix_refl _⟩
structure MarksAt (kvs : List (Key × V)) (ps pw : List Str) : Prop where
  keys : Keys kvs ps
  nd : ps.Nodup
  vals : ∀ x ∈ ps, valV kvs (.inr x) = some (.bl (decide (x ∈ pw)))
  sub : ∀ x ∈ pw, x ∈ ps
theorem MarksAt.no {kvs : List (Key × V)} {ps pw : List Str} (h : MarksAt kvs ps pw) {x : Str} (hx : x ∉ ps) : valV kvs (.inr x) = none := by
  have z := h.keys.has x
  rw [decide_eq_false hx] at z
  cases q : valV kvs (.inr x) with
  | none => rfl
  | some v =>
    rw [q] at z
    cases z
theorem MarksAt.put {kvs : List (Key × V)} {ps pw : List Str} (h : MarksAt kvs ps pw) {x : Str} (hx : x ∉ ps) (b : Bool) : Keys (putK kvs (.inr x) (.bl b)) (ps ++ [x]) ∧ (ps ++ [x]).Nodup := by
  refine ⟨?_, List.nodup_append.mpr ⟨h.nd, by simp, fun a ha c hc z => ?_⟩⟩
  · rw [putK_new _ (h.no hx)]
    unfold Keys
    rw [List.map_append, List.map_append]
    have z : kvs.map Prod.fst = _ := h.keys
    rw [z]
    rfl
  · obtain rfl : c = x := by simpa using hc
    subst z
    exact hx ha
theorem MarksAt.add {kvs : List (Key × V)} {ps pw : List Str} (h : MarksAt kvs ps pw) {x : Str} (hx : x ∉ ps) : MarksAt (putK kvs (.inr x) (.bl false)) (ps ++ [x]) pw := by
  obtain ⟨h1, h2⟩ := h.put hx false
  refine ⟨h1, h2, fun y hy => ?_, fun y hy => List.mem_append_left _ (h.sub y hy)⟩
  rw [valV_put]
  by_cases e : y = x
  · subst e
    rw [if_pos rfl, decide_eq_false fun z => hx (h.sub _ z)]
  · rw [if_neg (fun z => e (by injection z))]
    refine h.vals y ?_
    rcases List.mem_append.mp hy with hy | hy
    · exact hy
    · exact absurd (by simpa using hy) e
theorem MarksAt.mark {kvs : List (Key × V)} {ps pw : List Str} (h : MarksAt kvs ps pw) (x : Str) : ∃ ps', MarksAt (putK kvs (.inr x) (.bl true)) ps' (pw ++ [x]) ∧ (∀ y, y ∈ ps' ↔ y ∈ ps ∨ y = x) ∧ ps'.length ≤ ps.length + 1 := by
  have val : ∀ y, (y ∈ ps ∨ y = x) → valV (putK kvs (.inr x) (.bl true)) (.inr y) = some (.bl (decide (y ∈ pw ++ [x]))) := fun y hy => by
    rw [valV_put]
    by_cases e : y = x
    · subst e
      rw [if_pos rfl, decide_eq_true (by simp)]
    · rw [if_neg (fun z => e (by injection z)), h.vals y (hy.elim id fun z => absurd z e)]
      have q : y ∈ pw ++ [x] ↔ y ∈ pw := by simp [e]
      exact congrArg (fun b => some (V.bl b)) (decide_eq_decide.mpr q.symm)
  by_cases hx : x ∈ ps
  · refine ⟨ps, ⟨h.keys.put hx, h.nd, fun y hy => val y (.inl hy), fun y hy => ?_⟩, fun y => ⟨.inl, fun z => z.elim id fun e => e ▸ hx⟩, by omega⟩
    rcases List.mem_append.mp hy with hy | hy
    · exact h.sub y hy
    · obtain rfl : y = x := by simpa using hy
      exact hx
  · obtain ⟨h1, h2⟩ := h.put hx true
    refine ⟨ps ++ [x], ⟨h1, h2, fun y hy => val y (by simpa using hy), fun y hy => ?_⟩, fun y => by simp, by simp⟩
    rcases List.mem_append.mp hy with hy | hy
    · exact List.mem_append_left _ (h.sub y hy)
    · exact List.mem_append_right _ hy
theorem marks0 : MarksAt [(.inr (Str.ofString ""), .bl false)] [Str.ofString ""] [] := ⟨rfl, by simp, fun x hx => by
  obtain rfl : x = Str.ofString "" := by simpa using hx
  show (valV [(Sum.inr (Str.ofString ""), V.bl false)] (Sum.inr (Str.ofString ""))) = some (.bl false)
  kernel_rfl, fun x hx => absurd hx (by simp)⟩
def spMarks (K : PySem.W.Frag) : Sp := fun vs H Q _ => ∃ (a : Addr) (ws : List Str), vs = [.ref a] ∧ Rows H a (ws.map V.str) ∧ ws.length ≤ 1000 ∧ (∀ y ∈ ws, y.cps.size ≤ 1000) ∧
  ∀ (H' : Hp) (D : Addr) (kvs : List (Key × V)) (ps : List Str), Same H H' → H D = none → H' D = some (.dK kvs) → MarksAt kvs ps ws → (∀ x, x ∈ ps ↔ isBeg ws x) → Q (.ref D) H'
section
variable {P : Program} {w : World} {K : PySem.W.Frag} {mg : Str → Option Value} {base : Heap} {f fS : Addr} {fd fdS : FuncData}
theorem ok_marks (F : Fun K "marks_of" "marks_of" (top 36) f fd) (gN : mg "len" = none) (gR : mg "range" = none) : FnOk P w K mg base CX0 1 f fd ["words"] (spMarks K) := by
  have S0 : FnScope ["words", "marks", "word", "length"] ["words"] (defScope (top 36)) := ⟨rfl, rfl, rfl, by decide +kernel, rfl, by decide +kernel, by decide +kernel⟩
  refine F.ok S0 (fun vs H Q E h => ?_) (fun cdv A outer s H vs Q E hr h => ?_)
  · obtain ⟨a, ws, rfl, _⟩ := h
    rfl
  · obtain ⟨a, ws, rfl, hrows, hz, hy, kk⟩ := h
    have hu := hu_of hr
    rcases hrows with ha | ha
    · refine ⟨_, pss_cons (ps_set (i := 1) S0.nd rfl (Or.inl rfl) (pe_disp (pps_cons pe_str pe_bl pps_nil) rfl rfl (by simp) (by decide))) (pss_cons (ps_for PassesOwn.never rfl (pi_list (pv 0)) (pg_name (i := 2) S0.nd rfl (Or.inl rfl))
          (pss_cons (ps_for PassesOwn.never rfl (pi_range2 (by rfl) gR (pa_cons pe_int (pa_cons (pe_callB call_len_str (by rfl) gN PySem.boot_len (pa_cons (pv 2) pa_nil)) pa_nil))) (pg_name (i := 3) S0.nd rfl (Or.inl rfl))
            (pss_one (ps_expr (pe_dsetd (pv 1) (pe_slice sl_str (pv 2) po_none (po_some (pv 3))) pe_bl ⟨rfl, rfl, rfl, rfl⟩))))
          (pss_one (ps_dput hu (pv 1) (pv 2) pe_bl rfl))))
        (pss_one (ps_ret (pv 1)))), ?_⟩
      refine fun D nD => ⟨upd_same, [(.inr (Str.ofString ""), .bl false)], rfl, by decide, ?_⟩
      have em : mergeK [] [((Sum.inr (Str.ofString "") : Key), V.bl false)] = [(.inr (Str.ofString ""), .bl false)] := by kernel_rfl
      rw [em]
      have s0 : Same H (upd (upd H D (.dK [])) D (.dK [(.inr (Str.ofString ""), .bl false)])) := fun b o e => by
        have n1 := ne_of_none e nD
        rw [upd_ne n1, upd_ne n1]
        exact e
      have d0 : upd (upd H D (.dK [])) D (.dK [(.inr (Str.ofString ""), .bl false)]) D = some (.dK [(.inr (Str.ofString ""), .bl false)]) := upd_same
      generalize upd (upd H D (.dK [])) D (.dK [(.inr (Str.ofString ""), .bl false)]) = H0 at s0 d0
      refine ⟨V.ref a, rfl, a, rfl, ⟨_, .inl (.inl (s0 _ _ ha))⟩, for_it (walk_list (K := K) (xs := ws.map V.str)) (fun i σ G => ∃ (x2 x3 : Option V) (kvs : List (Key × V)) (ps : List Str), σ = [some (.ref a), some (.ref D), x2, x3] ∧ Same H G ∧ G D = some (.dK kvs) ∧ MarksAt kvs ps (ws.take i) ∧ (∀ x, x ∈ ps ↔ isBeg (ws.take i) x) ∧ ps.length ≤ 1 + 1001 * i)
        ⟨none, none, _, [Str.ofString ""], rfl, s0, d0, marks0, fun x => ⟨fun h => .inl (by simpa using h), fun h => h.elim (fun z => by simp [z]) fun ⟨u, hu, _⟩ => absurd hu (by simp)⟩, by show 1 ≤ _; omega⟩ (fun i σ G _ q => ?_) ?_ ?_⟩
      · obtain ⟨_, _, _, _, _, sG, _⟩ := q
        exact .inl (.inl (sG _ _ ha))
      · rintro i x σ G G2 hi ⟨x2, x3, kvs, ps, rfl, sG, hD, hM, hps, hl⟩ ⟨rfl, hx⟩
        obtain ⟨y, hy', rfl⟩ := map_at hx
        have hyz := hy y (List.mem_of_getElem? hy')
        have hyl : y.length ≤ 1000 := hyz
        have hys : y.length ≤ sizeLine := Nat.le_trans hyl (by decide)
        have big : (1100000 : Nat) < sizeLine := by decide
        have hil : i < 1000 := by
          rw [List.length_map] at hi
          omega
        have b62 : (1001 : Int) < 2 ^ 62 := by decide
        refine ⟨V.str y, rfl, y, rfl, hys, 1, _, rfl, ⟨by decide, by decide, by omega, by omega⟩, for_it walk_range (fun j σ G3 => ∃ (x3 : Option V) (kv2 : List (Key × V)) (p2 : List Str), σ = [some (.ref a), some (.ref D), some (.str y), x3] ∧ Same H G3 ∧ G3 D = some (.dK kv2) ∧ MarksAt kv2 p2 (ws.take i) ∧ (∀ x, x ∈ p2 ↔ (isBeg (ws.take i) x ∨ ∃ n, 1 ≤ n ∧ n ≤ j ∧ x.cps.toList = y.cps.toList.take n)) ∧ p2.length ≤ 1 + 1001 * i + j)
          ⟨x3, kvs, ps, rfl, sG, hD, hM, fun x => ⟨fun h => .inl ((hps x).mp h), fun h => h.elim (hps x).mpr fun ⟨n, h1, h2, _⟩ => by omega⟩, by omega⟩ (fun _ _ _ _ _ => trivial) ?_ ?_⟩
        · rintro j x σ G3 G4 hj ⟨x3, kv2, p2, rfl, s3, hD3, hM3, hp3, hl3⟩ ⟨rfl, rfl⟩
          have ec : (1 : Int) + (j : Int) = ((j + 1 : Nat) : Int) := by omega
          have hkl : kv2.length = p2.length := hM3.keys.len
          have hjl : j < 1000 := by omega
          refine ⟨V.ref D, rfl, D, rfl, .inl ⟨_, .inl hD3⟩, V.str y, rfl, V.int (1 + (j : Int)), rfl, _, rfl, y, rfl, hys, kv2, .inr (cutS y none (some (1 + (j : Int)))), hD3, rfl, by omega, fun v hv => ?_, fun hv => ?_⟩
          · have hm : cutS y none (some (1 + (j : Int))) ∈ p2 := Decidable.byContradiction fun z => by
              rw [hM3.no z] at hv
              cases hv
            refine ⟨_, kv2, p2, rfl, s3, hD3, hM3, fun x => ⟨fun h => ?_, fun h => ?_⟩, by omega⟩
            · rcases (hp3 x).mp h with h | ⟨n, h1, h2, h3⟩
              · exact .inl h
              · exact .inr ⟨n, h1, by omega, h3⟩
            · rcases h with h | ⟨n, h1, h2, h3⟩
              · exact (hp3 x).mpr (.inl h)
              · by_cases e : n = j + 1
                · have ex : x = cutS y none (some (1 + (j : Int))) := str_ext (by rw [h3, e, ec, cut_take])
                  rw [ex]
                  exact hm
                · exact (hp3 x).mpr (.inr ⟨n, h1, by omega, h3⟩)
          · have hm : cutS y none (some (1 + (j : Int))) ∉ p2 := fun z => by
              rw [hM3.vals _ z] at hv
              cases hv
            refine ⟨_, _, p2 ++ [cutS y none (some (1 + (j : Int)))], rfl, fun b o e => ?_, upd_same, hM3.add hm, fun x => ⟨fun h => ?_, fun h => ?_⟩, by rw [List.length_append]; show p2.length + 1 ≤ _; omega⟩
            · rw [upd_ne (ne_of_none e nD)]
              exact s3 _ _ e
            · rcases List.mem_append.mp h with h | h
              · rcases (hp3 x).mp h with h | ⟨n, h1, h2, h3⟩
                · exact .inl h
                · exact .inr ⟨n, h1, by omega, h3⟩
              · have ex : x = cutS y none (some (1 + (j : Int))) := by simpa using h
                exact .inr ⟨j + 1, by omega, by omega, by rw [ex, ec, cut_take]⟩
            · rcases h with h | ⟨n, h1, h2, h3⟩
              · exact List.mem_append_left _ ((hp3 x).mpr (.inl h))
              · by_cases e : n = j + 1
                · have ex : x = cutS y none (some (1 + (j : Int))) := str_ext (by rw [h3, e, ec, cut_take])
                  rw [ex]
                  exact List.mem_append_right _ (by simp)
                · exact List.mem_append_left _ ((hp3 x).mpr (.inr ⟨n, h1, by omega, h3⟩))
        · rintro σ G3 ⟨x3, kv2, p2, rfl, s3, hD3, hM3, hp3, hl3⟩
          have ej : (((y.length : Nat) : Int) - 1).toNat = y.length - 1 := by omega
          rw [ej] at hp3 hl3
          have hkl : kv2.length = p2.length := hM3.keys.len
          obtain ⟨p4, h1, h2, h3⟩ := hM3.mark y
          refine ⟨V.ref D, rfl, V.str y, rfl, D, _, rfl, .inl ⟨kv2, .inr y, hD3, rfl, by omega, rfl⟩, _, _, _, p4, rfl, fun b o e => ?_, upd_same, ?_, fun x => ?_, by omega⟩
          · rw [upd_ne (ne_of_none e nD)]
            exact s3 _ _ e
          · rw [take_snoc hy']
            exact h1
          · rw [take_snoc hy', beg_step, h2, hp3]
      · rintro σ G ⟨x2, x3, kvs, ps, rfl, sG, hD, hM, hps, hl⟩
        rw [List.length_map, List.take_length] at hM hps
        exact ⟨V.ref D, rfl, kk G D kvs ps sG nD hD hM hps⟩
    · refine ⟨_, pss_cons (ps_set (i := 1) S0.nd rfl (Or.inl rfl) (pe_disp (pps_cons pe_str pe_bl pps_nil) rfl rfl (by simp) (by decide))) (pss_cons (ps_for PassesOwn.never rfl (pi_tup (pv 0)) (pg_name (i := 2) S0.nd rfl (Or.inl rfl))
          (pss_cons (ps_for PassesOwn.never rfl (pi_range2 (by rfl) gR (pa_cons pe_int (pa_cons (pe_callB call_len_str (by rfl) gN PySem.boot_len (pa_cons (pv 2) pa_nil)) pa_nil))) (pg_name (i := 3) S0.nd rfl (Or.inl rfl))
            (pss_one (ps_expr (pe_dsetd (pv 1) (pe_slice sl_str (pv 2) po_none (po_some (pv 3))) pe_bl ⟨rfl, rfl, rfl, rfl⟩))))
          (pss_one (ps_dput hu (pv 1) (pv 2) pe_bl rfl))))
        (pss_one (ps_ret (pv 1)))), ?_⟩
      refine fun D nD => ⟨upd_same, [(.inr (Str.ofString ""), .bl false)], rfl, by decide, ?_⟩
      have em : mergeK [] [((Sum.inr (Str.ofString "") : Key), V.bl false)] = [(.inr (Str.ofString ""), .bl false)] := by kernel_rfl
      rw [em]
      have s0 : Same H (upd (upd H D (.dK [])) D (.dK [(.inr (Str.ofString ""), .bl false)])) := fun b o e => by
        have n1 := ne_of_none e nD
        rw [upd_ne n1, upd_ne n1]
        exact e
      have d0 : upd (upd H D (.dK [])) D (.dK [(.inr (Str.ofString ""), .bl false)]) D = some (.dK [(.inr (Str.ofString ""), .bl false)]) := upd_same
      generalize upd (upd H D (.dK [])) D (.dK [(.inr (Str.ofString ""), .bl false)]) = H0 at s0 d0
      refine ⟨V.ref a, rfl, a, rfl, ⟨_, .inl (.inl (s0 _ _ ha))⟩, for_it (walk_tup (K := K) (xs := ws.map V.str)) (fun i σ G => ∃ (x2 x3 : Option V) (kvs : List (Key × V)) (ps : List Str), σ = [some (.ref a), some (.ref D), x2, x3] ∧ Same H G ∧ G D = some (.dK kvs) ∧ MarksAt kvs ps (ws.take i) ∧ (∀ x, x ∈ ps ↔ isBeg (ws.take i) x) ∧ ps.length ≤ 1 + 1001 * i)
        ⟨none, none, _, [Str.ofString ""], rfl, s0, d0, marks0, fun x => ⟨fun h => .inl (by simpa using h), fun h => h.elim (fun z => by simp [z]) fun ⟨u, hu, _⟩ => absurd hu (by simp)⟩, by show 1 ≤ _; omega⟩ (fun i σ G _ q => ?_) ?_ ?_⟩
      · obtain ⟨_, _, _, _, _, sG, _⟩ := q
        exact .inl (.inl (sG _ _ ha))
      · rintro i x σ G G2 hi ⟨x2, x3, kvs, ps, rfl, sG, hD, hM, hps, hl⟩ ⟨rfl, hx⟩
        obtain ⟨y, hy', rfl⟩ := map_at hx
        have hyz := hy y (List.mem_of_getElem? hy')
        have hyl : y.length ≤ 1000 := hyz
        have hys : y.length ≤ sizeLine := Nat.le_trans hyl (by decide)
        have big : (1100000 : Nat) < sizeLine := by decide
        have hil : i < 1000 := by
          rw [List.length_map] at hi
          omega
        have b62 : (1001 : Int) < 2 ^ 62 := by decide
        refine ⟨V.str y, rfl, y, rfl, hys, 1, _, rfl, ⟨by decide, by decide, by omega, by omega⟩, for_it walk_range (fun j σ G3 => ∃ (x3 : Option V) (kv2 : List (Key × V)) (p2 : List Str), σ = [some (.ref a), some (.ref D), some (.str y), x3] ∧ Same H G3 ∧ G3 D = some (.dK kv2) ∧ MarksAt kv2 p2 (ws.take i) ∧ (∀ x, x ∈ p2 ↔ (isBeg (ws.take i) x ∨ ∃ n, 1 ≤ n ∧ n ≤ j ∧ x.cps.toList = y.cps.toList.take n)) ∧ p2.length ≤ 1 + 1001 * i + j)
          ⟨x3, kvs, ps, rfl, sG, hD, hM, fun x => ⟨fun h => .inl ((hps x).mp h), fun h => h.elim (hps x).mpr fun ⟨n, h1, h2, _⟩ => by omega⟩, by omega⟩ (fun _ _ _ _ _ => trivial) ?_ ?_⟩
        · rintro j x σ G3 G4 hj ⟨x3, kv2, p2, rfl, s3, hD3, hM3, hp3, hl3⟩ ⟨rfl, rfl⟩
          have ec : (1 : Int) + (j : Int) = ((j + 1 : Nat) : Int) := by omega
          have hkl : kv2.length = p2.length := hM3.keys.len
          have hjl : j < 1000 := by omega
          refine ⟨V.ref D, rfl, D, rfl, .inl ⟨_, .inl hD3⟩, V.str y, rfl, V.int (1 + (j : Int)), rfl, _, rfl, y, rfl, hys, kv2, .inr (cutS y none (some (1 + (j : Int)))), hD3, rfl, by omega, fun v hv => ?_, fun hv => ?_⟩
          · have hm : cutS y none (some (1 + (j : Int))) ∈ p2 := Decidable.byContradiction fun z => by
              rw [hM3.no z] at hv
              cases hv
            refine ⟨_, kv2, p2, rfl, s3, hD3, hM3, fun x => ⟨fun h => ?_, fun h => ?_⟩, by omega⟩
            · rcases (hp3 x).mp h with h | ⟨n, h1, h2, h3⟩
              · exact .inl h
              · exact .inr ⟨n, h1, by omega, h3⟩
            · rcases h with h | ⟨n, h1, h2, h3⟩
              · exact (hp3 x).mpr (.inl h)
              · by_cases e : n = j + 1
                · have ex : x = cutS y none (some (1 + (j : Int))) := str_ext (by rw [h3, e, ec, cut_take])
                  rw [ex]
                  exact hm
                · exact (hp3 x).mpr (.inr ⟨n, h1, by omega, h3⟩)
          · have hm : cutS y none (some (1 + (j : Int))) ∉ p2 := fun z => by
              rw [hM3.vals _ z] at hv
              cases hv
            refine ⟨_, _, p2 ++ [cutS y none (some (1 + (j : Int)))], rfl, fun b o e => ?_, upd_same, hM3.add hm, fun x => ⟨fun h => ?_, fun h => ?_⟩, by rw [List.length_append]; show p2.length + 1 ≤ _; omega⟩
            · rw [upd_ne (ne_of_none e nD)]
              exact s3 _ _ e
            · rcases List.mem_append.mp h with h | h
              · rcases (hp3 x).mp h with h | ⟨n, h1, h2, h3⟩
                · exact .inl h
                · exact .inr ⟨n, h1, by omega, h3⟩
              · have ex : x = cutS y none (some (1 + (j : Int))) := by simpa using h
                exact .inr ⟨j + 1, by omega, by omega, by rw [ex, ec, cut_take]⟩
            · rcases h with h | ⟨n, h1, h2, h3⟩
              · exact List.mem_append_left _ ((hp3 x).mpr (.inl h))
              · by_cases e : n = j + 1
                · have ex : x = cutS y none (some (1 + (j : Int))) := str_ext (by rw [h3, e, ec, cut_take])
                  rw [ex]
                  exact List.mem_append_right _ (by simp)
                · exact List.mem_append_left _ ((hp3 x).mpr (.inr ⟨n, h1, by omega, h3⟩))
        · rintro σ G3 ⟨x3, kv2, p2, rfl, s3, hD3, hM3, hp3, hl3⟩
          have ej : (((y.length : Nat) : Int) - 1).toNat = y.length - 1 := by omega
          rw [ej] at hp3 hl3
          have hkl : kv2.length = p2.length := hM3.keys.len
          obtain ⟨p4, h1, h2, h3⟩ := hM3.mark y
          refine ⟨V.ref D, rfl, V.str y, rfl, D, _, rfl, .inl ⟨kv2, .inr y, hD3, rfl, by omega, rfl⟩, _, _, _, p4, rfl, fun b o e => ?_, upd_same, ?_, fun x => ?_, by omega⟩
          · rw [upd_ne (ne_of_none e nD)]
            exact s3 _ _ e
          · rw [take_snoc hy']
            exact h1
          · rw [take_snoc hy', beg_step, h2, hp3]
      · rintro σ G ⟨x2, x3, kvs, ps, rfl, sG, hD, hM, hps, hl⟩
        rw [List.length_map, List.take_length] at hM hps
        exact ⟨V.ref D, rfl, kk G D kvs ps sG nD hD hM hps⟩
end
end SK
namespace SK
open PySem PySem.Spec PyProof.Rows L2 LamX NdefX
open K0 (De DeAll XCl spX withX)
/-! ### a list of words is looked through -/
def wscan (ls : Str) : List Str → Nat → List PyData → Option Nat
  | _, _, [] => none
  | seen, i, d :: r => if okW ls d = true ∧ strOf d ∉ seen then wscan ls (seen ++ [strOf d]) (i + 1) r else some i
def TxtFit (ds : List PyData) : Prop := ∀ x, PyData.str x ∈ ds → x.cps.size ≤ 1000
def spCW (K : PySem.W.Frag) (C : Addr) : Sp := fun vs H Q E => ∃ (ls : Str) (a : Addr) (xs : List V) (ds : List PyData), vs = [.str ls, .ref a] ∧ Rows H a xs ∧ DeAll K H xs ds ∧ TxtFit ds ∧ xs.length ≤ 5000 ∧
  (wscan ls [] 0 ds = none → ∀ H', Same H H' → Q .non H') ∧ (∀ i, wscan ls [] 0 ds = some i → Thrown E C H [("number", .int (i : Nat))])
section
variable {P : Program} {w : World} {K : PySem.W.Frag} {mg : Str → Option Value} {base : Heap} {f fW C : Addr} {fd fdW : FuncData}
theorem ok_cw (F : Fun K "check_words" "check_words" (top 28) f fd) (D : XR P w K mg base "BadWord" C ["number"]) (gE : mg "enumerate" = none) (gW : mg "is_word" = some (.ref fW)) (kW : PySem.W.keepIn K (.ref fW) = true)
    (GW : FnOk P w K mg base CX0 1 fW fdW ["letters", "word"] (spWord K)) (bW : Binds K fdW ["letters", "word"] []) : FnOk P w K mg base (L2.CX P w) 3 f fd ["letters", "words"] (spCW K C) := by
  have S0 : FnScope ["letters", "words", "known", "number", "word"] ["letters", "words"] (defScope (top 28)) := ⟨rfl, rfl, rfl, by decide +kernel, rfl, by decide +kernel, by decide +kernel⟩
  refine F.okX S0 (fun vs H Q E h => ?_) (fun cdv A outer s H vs Q E hr h => ?_)
  · obtain ⟨ls, a, xs, ds, rfl, _⟩ := h
    rfl
  · obtain ⟨ls, a, xs, ds, rfl, hrows, hda, hfit, hz, k1, k2⟩ := h
    obtain ⟨fi, fdi, iC, tI, F1, b1⟩ := D.ini
    have hu := hu_of hr
    have hlen := deAll_len hda
    rcases hrows with ha | ha
    · refine ⟨_, pss_cons (ps_set (i := 2) S0.nd rfl (Or.inl rfl) pe_dnewK) (pss_one (ps_for (passes_of rfl) rfl (pi_enum (by rfl) gE (pa_cons (pv 1) pa_nil)) (pg_tup rfl (pgs_cons (pg_name (i := 3) S0.nd rfl (Or.inl rfl)) (pgs_cons (pg_name (i := 4) S0.nd rfl (Or.inl rfl)) pgs_nil)))
        (pss_cons (ps_if (pw_or (pt_not (pt_val (pe_call GW (hr.mono (by decide)) (by rfl) gW kW bW .nil pass0 (pa_cons (pv 0) (pa_cons (pv 4) pa_nil))))) (pw_or1 (pt_cmp (pc_din hu (pv 4) (pv 2))))).pt
            (pss_one (ps_raise rfl (takes_of rfl rfl rfl rfl) (pmk_oex D.cl.T iC tI F1 hr b1 .nil pass0 (by rfl) D.gC (pa_cons (pv 3) pa_nil)))) pss_nil)
          (pss_one (ps_dput hu (pv 2) (pv 4) pe_bl rfl))))), ?_⟩
      refine fun B nB => ⟨V.ref a, rfl, a, xs, rfl, .inl (.inl (upd_new nB _ _ ha)), for_it (walk_enum (K := K) (xs := xs)) (fun i σ H1 => ∃ (x3 x4 : Option V) (kvs : List (Key × V)), σ = [some (.str ls), some (.ref a), some (.ref B), x3, x4] ∧ Same H H1 ∧ H1 B = some (.dK kvs) ∧ Keys kvs ((ds.take i).map strOf) ∧ wscan ls [] 0 ds = wscan ls ((ds.take i).map strOf) i (ds.drop i))
        ⟨none, none, [], rfl, upd_new nB, upd_same, rfl, rfl⟩ (fun i σ H1 _ q => ?_) ?_ ?_⟩
      · obtain ⟨_, _, _, _, s1, _⟩ := q
        exact .inl (.inl (s1 _ _ ha))
      · rintro i x σ H1 H2 hi ⟨x3, x4, kvs, rfl, s1, hB, hk, hsc⟩ ⟨T1, x1, y1, rfl, nT1, rfl, ex, ey⟩
        obtain rfl : V.int (i : Nat) = x1 := Option.some.inj ex
        obtain ⟨d, hdi, hd⟩ := deAll_at hda ey
        have s3 : Same H1 (upd H1 T1 (.tup [.int (i : Nat), y1])) := upd_new nT1
        refine ⟨T1, _, rfl, .inl (.inl upd_same), rfl, _, _, rfl, _, _, rfl, rfl, ?_⟩
        generalize upd H1 T1 (.tup [.int (i : Nat), y1]) = H2 at s3
        have hd2 : De K H2 y1 d := de_mono (s1.trans s3) d y1 hd
        refine ⟨V.str ls, rfl, y1, rfl, ls, y1, d, rfl, hd2, fun x e => hfit x (e ▸ List.mem_of_getElem? hdi), fun H3 s4 => ⟨okW ls d, rfl, ?_⟩⟩
        have s13 := (s1.trans s3).trans s4
        have hil : i < ds.length := by omega
        have ed : ds.drop i = d :: ds.drop (i + 1) := by
          have z := List.drop_eq_getElem_cons hil
          have e2 : ds[i] = d := by
            rw [List.getElem?_eq_getElem hil] at hdi
            exact Option.some.inj hdi
          rw [z, e2]
        have et : ds.take (i + 1) = ds.take i ++ [d] := take_snoc hdi
        rw [ed] at hsc
        have thr : ¬ (okW ls d = true ∧ strOf d ∉ (ds.take i).map strOf) → ∀ H4, Same H H4 → Thrown E C H4 [("number", .int (i : Nat))] := fun no H4 s5 => by
          have z : wscan ls [] 0 ds = some i := by
            rw [hsc]
            show (if okW ls d = true ∧ strOf d ∉ (ds.take i).map strOf then _ else _) = _
            rw [if_neg no]
          exact (k2 i z).mono s5
        cases eR : okW ls d with
        | false => exact iteT (iteT ⟨V.int (i : Nat), rfl, rd_mk rfl (by show 1 ≤ 1000; decide) fun dx H' s' n q => thr (fun z => by rw [eR] at z; exact absurd z.1 (by decide)) H3 s13 H' dx s' n q⟩)
        | true =>
          cases d with
          | str y =>
            cases hd
            have hB3 : H3 B = some (.dK kvs) := s4 _ _ (s3 _ _ hB)
            have hget : DGet H3 B (.str y) (valV kvs (.inr y)) := DGet.k (k := (.inr y : Key)) hB3
            refine iteF ⟨V.str y, rfl, V.ref B, rfl, B, _, rfl, hget, _, rfl, ?_⟩
            rw [hk.has]
            refine ite2 (fun c1 => ?_) (fun c1 => ?_)
            · have hm := of_decide_eq_true c1
              exact ⟨V.int (i : Nat), rfl, rd_mk rfl (by show 1 ≤ 1000; decide) fun dx H' s' n q => thr (fun z => z.2 hm) H3 s13 H' dx s' n q⟩
            · have hm : y ∉ (ds.take i).map strOf := fun z => c1 (decide_eq_true z)
              have hnone : valV kvs (.inr y) = none := by
                have z := hk.has y
                rw [decide_eq_false hm] at z
                cases q : valV kvs (.inr y) with
                | none => rfl
                | some v =>
                  rw [q] at z
                  cases z
              have hkl : kvs.length < sizeLine := by
                have z := hk.len
                rw [List.length_map, List.length_take] at z
                have z2 : (5000 : Nat) < sizeLine := by decide
                omega
              refine ⟨V.ref B, rfl, V.str y, rfl, B, _, rfl, DPut.k (k := (.inr y : Key)) hB3 hkl, _, _, kvs ++ [(.inr y, .bl true)], rfl, fun b o e => ?_, ?_, ?_, ?_⟩
              · rw [upd_ne (ne_of_none e nB)]
                exact s13 _ _ e
              · rw [putK_new _ hnone]
                exact upd_same
              · unfold Keys
                rw [et, List.map_append, List.map_append, List.map_append]
                have z : kvs.map Prod.fst = _ := hk
                rw [z]
                rfl
              · rw [hsc, et, List.map_append]
                show (if okW ls (.str y) = true ∧ strOf (.str y) ∉ (ds.take i).map strOf then _ else _) = _
                rw [if_pos ⟨eR, hm⟩]
                rfl
          | _ => cases eR
      · rintro σ H1 ⟨x3, x4, kvs, rfl, s1, hB, hk, hsc⟩
        rw [hlen, List.drop_length] at hsc
        exact k1 hsc H1 s1
    · refine ⟨_, pss_cons (ps_set (i := 2) S0.nd rfl (Or.inl rfl) pe_dnewK) (pss_one (ps_for (passes_of rfl) rfl (pi_enumT (by rfl) gE (pa_cons (pv 1) pa_nil)) (pg_tup rfl (pgs_cons (pg_name (i := 3) S0.nd rfl (Or.inl rfl)) (pgs_cons (pg_name (i := 4) S0.nd rfl (Or.inl rfl)) pgs_nil)))
        (pss_cons (ps_if (pw_or (pt_not (pt_val (pe_call GW (hr.mono (by decide)) (by rfl) gW kW bW .nil pass0 (pa_cons (pv 0) (pa_cons (pv 4) pa_nil))))) (pw_or1 (pt_cmp (pc_din hu (pv 4) (pv 2))))).pt
            (pss_one (ps_raise rfl (takes_of rfl rfl rfl rfl) (pmk_oex D.cl.T iC tI F1 hr b1 .nil pass0 (by rfl) D.gC (pa_cons (pv 3) pa_nil)))) pss_nil)
          (pss_one (ps_dput hu (pv 2) (pv 4) pe_bl rfl))))), ?_⟩
      refine fun B nB => ⟨V.ref a, rfl, a, xs, rfl, upd_new nB _ _ ha, for_it (walk_enumT (xs := xs)) (fun i σ H1 => ∃ (x3 x4 : Option V) (kvs : List (Key × V)), σ = [some (.str ls), some (.ref a), some (.ref B), x3, x4] ∧ Same H H1 ∧ H1 B = some (.dK kvs) ∧ Keys kvs ((ds.take i).map strOf) ∧ wscan ls [] 0 ds = wscan ls ((ds.take i).map strOf) i (ds.drop i))
        ⟨none, none, [], rfl, upd_new nB, upd_same, rfl, rfl⟩ (fun i σ H1 _ q => ?_) ?_ ?_⟩
      · obtain ⟨_, _, _, _, s1, _⟩ := q
        exact s1 _ _ ha
      · rintro i x σ H1 H2 hi ⟨x3, x4, kvs, rfl, s1, hB, hk, hsc⟩ ⟨T1, x1, y1, rfl, nT1, rfl, ex, ey⟩
        obtain rfl : V.int (i : Nat) = x1 := Option.some.inj ex
        obtain ⟨d, hdi, hd⟩ := deAll_at hda ey
        have s3 : Same H1 (upd H1 T1 (.tup [.int (i : Nat), y1])) := upd_new nT1
        refine ⟨T1, _, rfl, .inl (.inl upd_same), rfl, _, _, rfl, _, _, rfl, rfl, ?_⟩
        generalize upd H1 T1 (.tup [.int (i : Nat), y1]) = H2 at s3
        have hd2 : De K H2 y1 d := de_mono (s1.trans s3) d y1 hd
        refine ⟨V.str ls, rfl, y1, rfl, ls, y1, d, rfl, hd2, fun x e => hfit x (e ▸ List.mem_of_getElem? hdi), fun H3 s4 => ⟨okW ls d, rfl, ?_⟩⟩
        have s13 := (s1.trans s3).trans s4
        have hil : i < ds.length := by omega
        have ed : ds.drop i = d :: ds.drop (i + 1) := by
          have z := List.drop_eq_getElem_cons hil
          have e2 : ds[i] = d := by
            rw [List.getElem?_eq_getElem hil] at hdi
            exact Option.some.inj hdi
          rw [z, e2]
        have et : ds.take (i + 1) = ds.take i ++ [d] := take_snoc hdi
        rw [ed] at hsc
        have thr : ¬ (okW ls d = true ∧ strOf d ∉ (ds.take i).map strOf) → ∀ H4, Same H H4 → Thrown E C H4 [("number", .int (i : Nat))] := fun no H4 s5 => by
          have z : wscan ls [] 0 ds = some i := by
            rw [hsc]
            show (if okW ls d = true ∧ strOf d ∉ (ds.take i).map strOf then _ else _) = _
            rw [if_neg no]
          exact (k2 i z).mono s5
        cases eR : okW ls d with
        | false => exact iteT (iteT ⟨V.int (i : Nat), rfl, rd_mk rfl (by show 1 ≤ 1000; decide) fun dx H' s' n q => thr (fun z => by rw [eR] at z; exact absurd z.1 (by decide)) H3 s13 H' dx s' n q⟩)
        | true =>
          cases d with
          | str y =>
            cases hd
            have hB3 : H3 B = some (.dK kvs) := s4 _ _ (s3 _ _ hB)
            have hget : DGet H3 B (.str y) (valV kvs (.inr y)) := DGet.k (k := (.inr y : Key)) hB3
            refine iteF ⟨V.str y, rfl, V.ref B, rfl, B, _, rfl, hget, _, rfl, ?_⟩
            rw [hk.has]
            refine ite2 (fun c1 => ?_) (fun c1 => ?_)
            · have hm := of_decide_eq_true c1
              exact ⟨V.int (i : Nat), rfl, rd_mk rfl (by show 1 ≤ 1000; decide) fun dx H' s' n q => thr (fun z => z.2 hm) H3 s13 H' dx s' n q⟩
            · have hm : y ∉ (ds.take i).map strOf := fun z => c1 (decide_eq_true z)
              have hnone : valV kvs (.inr y) = none := by
                have z := hk.has y
                rw [decide_eq_false hm] at z
                cases q : valV kvs (.inr y) with
                | none => rfl
                | some v =>
                  rw [q] at z
                  cases z
              have hkl : kvs.length < sizeLine := by
                have z := hk.len
                rw [List.length_map, List.length_take] at z
                have z2 : (5000 : Nat) < sizeLine := by decide
                omega
              refine ⟨V.ref B, rfl, V.str y, rfl, B, _, rfl, DPut.k (k := (.inr y : Key)) hB3 hkl, _, _, kvs ++ [(.inr y, .bl true)], rfl, fun b o e => ?_, ?_, ?_, ?_⟩
              · rw [upd_ne (ne_of_none e nB)]
                exact s13 _ _ e
              · rw [putK_new _ hnone]
                exact upd_same
              · unfold Keys
                rw [et, List.map_append, List.map_append, List.map_append]
                have z : kvs.map Prod.fst = _ := hk
                rw [z]
                rfl
              · rw [hsc, et, List.map_append]
                show (if okW ls (.str y) = true ∧ strOf (.str y) ∉ (ds.take i).map strOf then _ else _) = _
                rw [if_pos ⟨eR, hm⟩]
                rfl
          | _ => cases eR
      · rintro σ H1 ⟨x3, x4, kvs, rfl, s1, hB, hk, hsc⟩
        rw [hlen, List.drop_length] at hsc
        exact k1 hsc H1 s1
end
end SK
namespace SK
open PySem PySem.Spec PyProof.Rows L2 LamX NdefX
open K0 (De DeAll XCl spX withX)
/-! ### C(e, ..), C a local name that holds a class -/
def tMakeV (i : Nat) (C : Addr) (sp : Sp) (dvs : List V) (E : XK) (t : TA) : TE := fun σ H Q => σ[i]? = some (some (.ref C)) ∧ tMake C sp dvs E t σ H Q
section
variable {X : Cx} {CX : CXT} {k i : Nat} {f C : Addr} {fd : FuncData} {ps : List Str} {ds : List Value} {dvs : List V} {sp : Sp} {E : XK} {x : Str} {e : Expr} {es : List Expr} {t : TA} {p pos : Pos}
theorem pe_makeV (M : Mk X.K C f) (F : FnOk X.prog X.w X.K X.mg X.base CX k f fd ps sp) (hr : Room (k + 1) X.A) (hb : Binds X.K fd ps ds) (hd : Vals dvs ds) (hx : Passes CX X E) (ha : PA X (e :: es) t) (hN : X.N[i]? = some x := by rfl)
    (hv : Vis X.env.scope x := by first | exact Or.inl rfl | exact Or.inr (Or.inl rfl) | exact Or.inr (Or.inr rfl)) (hdb : (x == ("__debug__" : Str)) = false := by decide) (hcd : (x == ("__classdict__" : Str)) = false := by decide)
    (he : starEach (e :: es) X.env = (false, eval e X.env) :: starEach es X.env := by rfl) (hpl : (backTo pos (starEach es X.env)).any (·.1) = false := by rfl) : PE X (.Call (.Name x p) (e :: es) [] pos) (tMakeV i C sp dvs E t) := by
  refine ⟨fun pins s σ H Q I h => ?_⟩
  obtain ⟨hs, h⟩ := h
  refine wpAny_Call_Name_kw (thn ((pe_var (pos := p) (i := i) hN hv hdb hcd).run pins s σ H (fun v H1 => v = .ref C ∧ H1 = H) I ⟨.ref C, hs, rfl, rfl⟩) fun u s1 ⟨v, H1, I1, r1, ev, eH⟩ => ?_)
  subst ev
  rw [eH] at I1
  cases r1
  refine PySem.W.callWith_K (h₀ := X.base) I.ok.mod.kin M.kp (thn (ha.run pos pins s1 σ H _ I1 h) fun us s2 ⟨vs, H2, I2, r, q⟩ => ⟨I2.kIn, ?_⟩) he hpl
  exact run_make M F hr hb hd hx I2 r q
end
/-! ### data that is words -/
theorem wscan_none {ls : Str} : ∀ {ds : List PyData} {seen : List Str} {i : Nat}, wscan ls seen i ds = none → (∀ d ∈ ds, okW ls d = true ∧ strOf d ∉ seen) ∧ (ds.map strOf).Nodup
  | [], _, _, _ => ⟨fun d h => absurd h (by simp), by simp⟩
  | d :: r, seen, i, h => by
    have h' : (if okW ls d = true ∧ strOf d ∉ seen then wscan ls (seen ++ [strOf d]) (i + 1) r else some i) = none := h
    by_cases c : okW ls d = true ∧ strOf d ∉ seen
    · rw [if_pos c] at h'
      obtain ⟨h1, h2⟩ := wscan_none h'
      refine ⟨fun e he => ?_, ?_⟩
      · rcases List.mem_cons.mp he with rfl | he
        · exact c
        · exact ⟨(h1 e he).1, fun z => (h1 e he).2 (List.mem_append_left _ z)⟩
      · rw [List.map_cons, List.nodup_cons]
        refine ⟨fun z => ?_, h2⟩
        obtain ⟨e, he, e2⟩ := List.mem_map.mp z
        exact (h1 e he).2 (by rw [e2]; simp)
    · rw [if_neg c] at h'
      cases h'
theorem okW_str {ls : Str} {d : PyData} (h : okW ls d = true) : d = .str (strOf d) ∧ OverL ls (strOf d) := by
  cases d with
  | str y =>
    have h : (decide (y.cps.size ≤ 200) && y.cps.toList.all fun c => decide (c ∈ ls.cps.toList)) = true := h
    rw [Bool.and_eq_true, decide_eq_true_eq, List.all_eq_true] at h
    exact ⟨rfl, h.1, fun c hc => of_decide_eq_true (h.2 c hc)⟩
  | _ => cases h
theorem de_strs {K : PySem.W.Frag} {H : Hp} : ∀ {ds : List PyData} {xs : List V}, (∀ d ∈ ds, d = .str (strOf d)) → DeAll K H xs ds → xs = (ds.map strOf).map V.str
  | [], _, _, .nil => rfl
  | d :: ds, _, h, .cons h1 h2 => by
    have e := h d (by simp)
    rw [e] at h1
    cases h1
    rw [de_strs (fun y hy => h y (List.mem_cons_of_mem _ hy)) h2]
    rfl
theorem deAll_snoc {K : PySem.W.Frag} {H : Hp} : ∀ {xs : List V} {ds : List PyData} {v : V} {d : PyData}, DeAll K H xs ds → De K H v d → DeAll K H (xs ++ [v]) (ds ++ [d])
  | _, _, _, _, .nil, h => .cons h .nil
  | _, _, _, _, .cons h1 h2, h => .cons h1 (deAll_snoc h2 h)
/-! ### the tree of words -/
def mkS (ws : List Str) (p : Str) : Spot := (p, decide (p ∈ ws), false)
def ofS (ls : Str) (bs ws : List Str) : List Spot := (sortW ls bs).map (mkS ws)
theorem plc_mk (ws bs : List Str) : plc (bs.map (mkS ws)) = bs := by
  unfold plc
  rw [List.map_map]
  exact List.map_id'' (fun _ => rfl) bs
theorem over_pre {ls x y : Str} (h : OverL ls y) (hp : x.cps.toList <+: y.cps.toList) : OverL ls x := by
  refine ⟨?_, fun c hc => h.2 c (hp.subset hc)⟩
  have z := hp.length_le
  rw [Array.length_toList, Array.length_toList] at z
  exact Nat.le_trans z h.1
theorem over_empty (ls : Str) : OverL ls (Str.ofString "") := ⟨by decide, fun c hc => by rw [empty_list] at hc; exact absurd hc (by simp)⟩
theorem beg_over {ls : Str} {ws : List Str} (h : ∀ y ∈ ws, OverL ls y) {x : Str} (hx : isBeg ws x) : OverL ls x := by
  rcases hx with rfl | ⟨y, hy, hp⟩
  · exact over_empty ls
  · exact over_pre (h y hy) hp
theorem good_of {ls : Str} {bs ws : List Str} (nd : bs.Nodup) (hb : ∀ x, x ∈ bs ↔ isBeg ws x) (ho : ∀ y ∈ ws, OverL ls y) (hn : bs.length ≤ 2000) : GoodS ls (ofS ls bs ws) := by
  have pm := sortW_perm ls bs
  have ov : ∀ y ∈ bs, OverL ls y := fun y hy => beg_over ho ((hb y).mp hy)
  have e : plc (ofS ls bs ws) = sortW ls bs := plc_mk ws _
  refine ⟨?_, ?_, ?_, ?_, ?_, ?_⟩
  · rw [e]
    exact pm.nodup_iff.mpr nd
  · rw [e, pm.mem_iff, hb]
    exact .inl rfl
  · intro p hp hne
    rw [e, pm.mem_iff, hb] at hp ⊢
    rcases hp with h | ⟨y, hy, h⟩
    · exact absurd h hne
    · refine .inr ⟨y, hy, List.IsPrefix.trans ?_ h⟩
      unfold initS
      rw [List.toList_toArray]
      exact List.dropLast_prefix _
  · intro p hp
    rw [e, pm.mem_iff] at hp
    exact ov p hp
  · unfold ofS
    rw [List.length_map, pm.length_eq]
    exact hn
  · rw [e]
    exact sortW_sorted ov
theorem ofS_congr {ls : Str} {b1 b2 ws : List Str} (n1 : b1.Nodup) (n2 : b2.Nodup) (h1 : ∀ x, x ∈ b1 ↔ isBeg ws x) (h2 : ∀ x, x ∈ b2 ↔ isBeg ws x) (ho : ∀ y ∈ ws, OverL ls y) : ofS ls b1 ws = ofS ls b2 ws := by
  unfold ofS
  rw [sortW_congr ((List.perm_ext_iff_of_nodup n1 n2).mpr fun x => (h1 x).trans (h2 x).symm) fun y hy => beg_over ho ((h1 y).mp hy)]
def spOf (K : PySem.W.Frag) (CT : Addr) (C : Cs) (CW : Addr) (T : List (Addr × Str)) : Sp := fun vs H Q E => ∃ (vL : V) (L : PyData) (a : Addr) (xs : List V) (ds : List PyData), vs = [.ref CT, vL, .ref a] ∧ De K H vL L ∧ (∀ z, L = .str z → z.cps.all (· < 128) = true ∧ z.cps.size ≤ 1000) ∧
  Rows H a xs ∧ DeAll K H xs ds ∧ TxtFit ds ∧ xs.length ≤ 1000 ∧ Tabs T H ∧
  (okLd L = false → ThrownN E C.l H [("letters", vL)] T) ∧
  (okLd L = true → ∀ i : Nat, wscan (strOf L) [] 0 ds = some i → ThrownN E CW H [("number", .int i)] T) ∧
  (okLd L = true → wscan (strOf L) [] 0 ds = none → ¬ (1 ≤ nob (ds.map strOf) ∧ nob (ds.map strOf) ≤ 2000) → ThrownN E C.m H [("most", .int 2000), ("many", .int (nob (ds.map strOf) : Nat)), ("what", .str "places")] T) ∧
  (okLd L = true → wscan (strOf L) [] 0 ds = none → (1 ≤ nob (ds.map strOf) ∧ nob (ds.map strOf) ≤ 2000) → (∀ bs : List Str, bs.Nodup → (∀ x ∈ bs, isBeg (ds.map strOf) x) → bs.length ≤ 2000) ∧
    ∀ (H' : Hp) (x : Addr) (bs : List Str), ExtN H H' → Tabs T H' → bs.Nodup → (∀ y, y ∈ bs ↔ isBeg (ds.map strOf) y) → TreeF K CT H' (.ref x) (strOf L) (ofS (strOf L) bs (ds.map strOf)) → Q (.ref x) H')
section
variable {P : Program} {w : World} {K : PySem.W.Frag} {mg : Str → Option Value} {base : Heap} {f fCL fCW fCP fN fM fI CT CW : Addr} {fd fdCL fdCW fdCP fdN fdM fdI : FuncData} {C : Cs} {T : List (Addr × Str)}
theorem ok_of (F : Fun K "of" "Tree.of" (tm 1) f fd) (M : Mk K CT fI) (GI : FnOk P w K mg base (L2.CX P w) 6 fI fdI ["self", "letters", "rows"] (spInit K CT C T)) (bI : Binds K fdI ["self", "letters", "rows"] [])
    (gCL : mg "check_letters" = some (.ref fCL)) (kCL : PySem.W.keepIn K (.ref fCL) = true) (GCL : FnOk P w K mg base (L2.CX P w) 3 fCL fdCL ["letters"] (spCheckL K C.l)) (bCL : Binds K fdCL ["letters"] [])
    (gCW : mg "check_words" = some (.ref fCW)) (kCW : PySem.W.keepIn K (.ref fCW) = true) (GCW : FnOk P w K mg base (L2.CX P w) 3 fCW fdCW ["letters", "words"] (spCW K CW)) (bCW : Binds K fdCW ["letters", "words"] [])
    (gCP : mg "check_places" = some (.ref fCP)) (kCP : PySem.W.keepIn K (.ref fCP) = true) (GCP : FnOk P w K mg base (L2.CX P w) 3 fCP fdCP ["many"] (spCheckP C.m)) (bCP : Binds K fdCP ["many"] [])
    (gN : mg "number_of_beginnings" = some (.ref fN)) (kN : PySem.W.keepIn K (.ref fN) = true) (GN : FnOk P w K mg base CX0 2 fN fdN ["words"] (spNob K)) (bN : Binds K fdN ["words"] [])
    (gM : mg "marks_of" = some (.ref fM)) (kM : PySem.W.keepIn K (.ref fM) = true) (GM : FnOk P w K mg base CX0 1 fM fdM ["words"] (spMarks K)) (bM : Binds K fdM ["words"] []) :
    FnOk P w K mg base (L2.CX P w) 8 f fd ["cls", "letters", "words"] (spOf K CT C CW T) := by
  have S0 : FnScope ["cls", "letters", "words", "marks", "place"] ["cls", "letters", "words"] (defScope (tm 1)) := ⟨rfl, rfl, rfl, by decide +kernel, rfl, by decide +kernel, by decide +kernel⟩
  have nd := S0.nd
  refine F.okX S0 (fun vs H Q E h => ?_) (fun cdv A outer s H vs Q E hr h => ?_)
  · obtain ⟨vL, L, a, xs, ds, rfl, _⟩ := h
    rfl
  · obtain ⟨vL, L, a, xs, ds, rfl, hL, hasc, hrows, hda, hfit, hz, hT, e1, e2, e3, kk⟩ := h
    have hu := hu_of hr
    have hr3 : Room 3 _ := hr.mono (by decide)
    have hr2 : Room 2 _ := hr.mono (by decide)
    have hr1 : Room 1 _ := hr.mono (by decide)
    refine ⟨_, pss_cons (ps_expr (pe_call GCL hr3 (by rfl) gCL kCL bCL .nil (passes_call (takes_of rfl rfl rfl rfl) (fun _ _ _ _ h => h)) (pa_cons (pv 1) pa_nil)))
      (pss_cons (ps_expr (pe_call GCW hr3 (by rfl) gCW kCW bCW .nil (passes_call (takes_of rfl rfl rfl rfl) (fun _ _ _ _ h => h)) (pa_cons (pv 1) (pa_cons (pv 2) pa_nil))))
      (pss_cons (ps_expr (pe_call GCP hr3 (by rfl) gCP kCP bCP .nil (passes_call (takes_of rfl rfl rfl rfl) (fun _ _ _ _ h => h)) (pa_cons (pe_call GN hr2 (by rfl) gN kN bN .nil pass0 (pa_cons (pv 2) pa_nil)) pa_nil)))
      (pss_cons (ps_set (i := 3) nd rfl (Or.inr rfl) (pe_call GM hr1 (by rfl) gM kM bM .nil pass0 (pa_cons (pv 2) pa_nil)))
      (pss_one (ps_ret (pe_makeV (i := 0) M GI hr bI .nil (passes_call (takes_of rfl rfl rfl rfl) (fun _ _ _ _ h => h)) (pa_cons (pv 1) (pa_cons (pe_lock (pe_lc (own := [("place", 4)]) (g := gName 4) (tt := tYes) rfl nd (pi_keys (pv 3)) (blkOk_by (N := ["cls", "letters", "words", "marks", "place"]) (sc := defScope (tm 1)) (by decide +kernel))
        (fun _ _ _ _ _ => pg_name (i := 4) nd rfl (Or.inl rfl)) (fun _ _ _ _ _ => pts_nil) (fun _ _ _ _ _ => pe_tup (pa_cons (pv 4) (pa_cons (pe_dget hu (pv 3) (pv 4) (fun _ _ => rfl)) (pa_cons pe_bl pa_nil)))))) pa_nil)))))))), ?_⟩
    refine ⟨vL, rfl, vL, L, rfl, hL, hasc, fun okL H1 s1 => ?_, fun no => (e1 no).to (ExtN.refl H) hT⟩
    obtain ⟨ls, rfl⟩ : ∃ ls, L = .str ls := by
      cases L with
      | str z => exact ⟨z, rfl⟩
      | _ => cases okL
    cases hL
    have e2 := e2 okL
    have e3 := e3 okL
    have kk := kk okL
    have r1 := hrows.mono (ExtN.of s1)
    refine ⟨V.str ls, rfl, V.ref a, rfl, ls, a, xs, ds, rfl, r1, de_monoAll s1 _ _ hda, hfit, by omega, fun hsc H2 s2 => ?_, fun i e => (e2 i e).to (ExtN.of s1) (hT.ext s1)⟩
    have e3 := e3 hsc
    have kk := kk hsc
    obtain ⟨hall, hnd⟩ := wscan_none hsc
    have exs : xs = (ds.map strOf).map V.str := de_strs (fun d hd => (okW_str (hall d hd).1).1) hda
    have ho : ∀ y ∈ ds.map strOf, OverL ls y := fun y hy => by
      obtain ⟨d, hd, rfl⟩ := List.mem_map.mp hy
      exact (okW_str (hall d hd).1).2
    have hwl : (ds.map strOf).length ≤ 1000 := by
      have z := deAll_len hda
      rw [List.length_map]
      omega
    have eL : strOf (.str ls) = ls := rfl
    rw [eL] at kk
    generalize ds.map strOf = ws at e3 kk exs ho hnd hwl
    subst exs
    have hw1 : ∀ y ∈ ws, y.cps.size ≤ 1000 := fun y hy => Nat.le_trans (ho y hy).1 (by decide)
    have s12 := s1.trans s2
    have r2 := hrows.mono (ExtN.of s12)
    refine ⟨V.ref a, rfl, a, ws, rfl, r2.seq, hwl, hw1, fun H3 s3 => ?_⟩
    have s13 := s12.trans s3
    refine ⟨nob ws, rfl, fun hn => ?_, fun hn => (e3 hn).to (ExtN.of s13) (hT.ext s13)⟩
    obtain ⟨hcap, kk⟩ := kk hn
    refine ⟨V.ref a, rfl, a, ws, rfl, hrows.mono (ExtN.of s13), hwl, hw1, fun H4 d kvs ps s4 nd4 hd4 hM hps => ?_⟩
    have s14 := s13.trans s4
    have hk : kvs.map Prod.fst = ps.map fun a => (Sum.inr a : Key) := hM.keys
    have hkl : kvs.length = ps.length := hM.keys.len
    have hpl := hcap ps hM.nd fun x hx => (hps x).mp hx
    have b2 : (2000 : Nat) < sizeLine := by decide
    refine ⟨rfl, V.str ls, rfl, d, .dK kvs, hd4, trivial, fun od => ⟨V.ref d, rfl, d, od, rfl, .inl ⟨kvs, upd_same, fun D nD => lc_it (walk_keys (d := d) (o := od) (kvs := kvs)) (fun i G => Same (upd H4 d (.frz od (.dK kvs))) G ∧ ∃ acc : List V, G D = some (.lst acc) ∧ acc.length = i ∧ DeAll K G acc (((ps.take i).map (mkS ws)).map rowD))
      ⟨upd_new nD, [], upd_same, rfl, .nil⟩ (fun i G _ q => q.1 _ _ upd_same) ?_ ?_⟩⟩⟩
    · rintro i x G G2 hi ⟨sG, acc, hD, hal, hacc⟩ ⟨rfl, k, v, hkv, rfl⟩
      obtain ⟨y, hy⟩ : ∃ y, ps[i]? = some y := ⟨_, List.getElem?_eq_getElem (by omega)⟩
      have ek : k = .inr y := by
        have z := congrArg (fun l : List Key => l[i]?) hk
        simp only [List.getElem?_map, hkv, hy, Option.map_some] at z
        exact Option.some.inj z
      subst ek
      have hv := hM.vals y (List.mem_of_getElem? hy)
      have hdG : G2 d = some (.frz od (.dK kvs)) := sG _ _ upd_same
      refine ⟨rfl, V.str y, rfl, V.ref d, rfl, V.str y, rfl, d, .bl (decide (y ∈ ws)), rfl, .inl ⟨kvs, .inr y, .inr ⟨od, hdG⟩, rfl, hv.symm⟩, (by show 3 ≤ sizeLine; decide), fun q nq => ?_⟩
      have s5 := upd_new (o := .tup [.str y, .bl (decide (y ∈ ws)), .bl false]) nq
      have hq : upd G2 q (.tup [.str y, .bl (decide (y ∈ ws)), .bl false]) q = some (.tup [.str y, .bl (decide (y ∈ ws)), .bl false]) := upd_same
      generalize upd G2 q (.tup [.str y, .bl (decide (y ∈ ws)), .bl false]) = G3 at s5 hq
      have hD3 := s5 _ _ hD
      refine ⟨acc, hD3, by omega, fun b o e => ?_, _, upd_same, by rw [List.length_append, hal]; rfl, ?_⟩
      · rw [upd_ne (ne_of_none e nD)]
        exact s5 _ _ (sG _ _ e)
      · have ky : Ky G3 (upd G3 D (.lst (acc ++ [.ref q]))) := fun b o h _ _ hl => by
          rw [upd_ne (fun z => by rw [z, hD3] at h; exact hl acc (Option.some.inj h).symm)]
          exact h
        rw [take_snoc hy, List.map_append]
        have all : DeAll K G3 (acc ++ [.ref q]) (((ps.take i).map (mkS ws) ++ [mkS ws y]).map rowD) := by
          rw [List.map_append]
          exact deAll_snoc (de_monoAll s5 _ _ hacc) (.tup hq (.cons (.str _) (.cons (.bl _) (.cons (.bl _) .nil))))
        exact rows_ky ky all
    · rintro G ⟨sG, acc, hD, hal, hacc⟩
      rw [hkl, List.take_length] at hacc
      have hdG : G d = some (.frz od (.dK kvs)) := sG _ _ upd_same
      refine ⟨hdG, ?_⟩
      have nDd : D ≠ d := ne_of hD hdG (by intro z; cases z)
      have s6 : Same H4 (upd G d (.dK kvs)) := unlock_same hd4 sG
      have hD6 : upd G d (.dK kvs) D = some (.lst acc) := by
        rw [upd_ne nDd]
        exact hD
      have hacc6 : DeAll K (upd G d (.dK kvs)) acc ((ps.map (mkS ws)).map rowD) := by
        have e : ∀ {xs : List V} {S : List Spot}, DeAll K G xs (S.map rowD) → DeAll K (upd G d (.dK kvs)) xs (S.map rowD) := by
          intro xs S
          induction S generalizing xs with
          | nil => intro h; cases h; exact .nil
          | cons s S ih =>
            intro h
            cases h with
            | cons h1 h2 =>
              refine .cons ?_ (ih h2)
              obtain ⟨t, rfl, ht⟩ := de_row (s := s) h1
              exact .tup (by rw [upd_ne (ne_of ht hdG (by intro z; cases z))]; exact ht) (.cons (.str _) (.cons (.bl _) (.cons (.bl _) .nil)))
        exact e hacc
      generalize upd G d (.dK kvs) = H6 at s6 hD6 hacc6
      have s16 := s14.trans s6
      intro x dx nx ndx nxd
      have g := good_of (ls := ls) hM.nd hps ho hpl
      have hro : RowsOf ((ps.map (mkS ws)).map rowD) (ofS ls ps ws) := by
        refine ⟨fun e he => ?_, ?_⟩
        · obtain ⟨s, _, rfl⟩ := List.mem_map.mp he
          rfl
        · rw [List.map_map]
          unfold ofS
          exact (((sortW_perm ls ps).symm.map (mkS ws)).map _)
      have s7 : Same H6 (upd (upd H6 dx (.own x)) x (.ins CT dx [])) := fun b o e => by
        rw [upd_ne (ne_of_none e nx), upd_ne (ne_of_none e ndx)]
        exact e
      have hx7 : upd (upd H6 dx (.own x)) x (.ins CT dx []) x = some (.ins CT dx []) := upd_same
      generalize upd (upd H6 dx (.own x)) x (.ins CT dx []) = H7 at s7 hx7
      have s17 := s16.trans s7
      have hway := way_good (show okLb ls = true from okL) g hro
      refine ⟨x, dx, D, .str ls, .str ls, acc, _, rfl, hx7, .str ls, hasc, .inl (s7 _ _ hD6), de_monoAll s7 _ _ hacc6, fun e he => ?_, ?_, hT.ext s17, ?_, fun _ H' fs keep T' hx' tA => ⟨rfl, ?_⟩⟩
      · obtain ⟨s, hs, rfl⟩ := List.mem_map.mp he
        obtain ⟨p, hp, rfl⟩ := List.mem_map.mp hs
        have z := beg_over ho ((hps p).mp hp)
        intro es ees u hu
        rcases ees with ees | ees
        · injection ees with ees
          subst ees
          have hu : u = p := by simpa [mkS] using hu
          rw [hu]
          exact Nat.le_trans z.1 (by decide)
        · cases ees
      · have z := deAll_len hacc6
        rw [List.length_map, List.length_map] at z
        omega
      · rw [hway]
        exact ⟨fun z => (by cases z), fun _ z => (by cases z), fun _ z => (by cases z), fun _ z => (by cases z)⟩
      · refine kk H' x ps (fun b o e t => keep b o (fun z => ?_) (s17 _ _ e) t) T' hM.nd hps (treeP_of hx' g hro tA)
        subst z
        have z := s16 _ _ e
        rw [z] at nx
        cases nx
end
end SK
namespace SK
open PySem PySem.Spec PyProof.Rows L2 LamX NdefX
open K0 (De DeAll XCl spX withX)
/-! ### any list != [] -/
theorem erase_perm {α : Type} {y : α} : ∀ {l : List α} {j : Nat}, l[j]? = some y → (y :: l.eraseIdx j).Perm l
  | [], j, h => by simp at h
  | x :: l, 0, h => by
    simp at h
    subst h
    exact .refl _
  | x :: l, j + 1, h => by
    have ih := erase_perm (l := l) (j := j) (by simpa using h)
    exact (List.Perm.swap x y _).trans (ih.cons x)
structure ShufR (K : PySem.W.Frag) (R : Hp → V → Prop) : Prop where
  mono : ∀ {H H' : Hp} {x : V} {p : Addr} {kv : List (Key × V)}, R H x → H p = some (.dK kv) → SameBut p H H' → R H' x
  data : ∀ {H : Hp} {zs : List V}, (∀ z ∈ zs, R H z) → ∃ ds, DpAll K H zs ds ∧ SeqAt.shaped (.list ds) = true ∧ ds.length = zs.length
theorem scShuf : FnScope ["pen", "items", "rest", "found"] ["pen", "items"] (defScope (top 63)) := ⟨rfl, rfl, rfl, by decide +kernel, rfl, by decide +kernel, by decide +kernel⟩
def rNeE (K : PySem.W.Frag) : R2 := fun x y H Q => ∃ (a b : Addr) (xs : List V), x = .ref a ∧ y = .ref b ∧ SqL K H a xs ∧ SqL K H b [] ∧ Q (.bl (!xs.isEmpty)) H
theorem op_neE {X : Cx} (hu : X.A.units < cLine) : OpR X (compareOp .NotEq) (rNeE X.K) := by
  intro pins s σ H x y v u Q I rx ry h
  obtain ⟨a, b, xs, rfl, rfl, h1, h2, q⟩ := h
  obtain rfl : v = Value.ref a := rx
  obtain rfl : u = Value.ref b := ry
  obtain ⟨its, r1, p1, z1⟩ := I.list h1
  obtain ⟨js, r2, p2, z2⟩ := I.list h2
  cases r2
  have hl := r1.length
  show wpAny (model X.prog X.w) X.A (richCompare .NotEq (.ref a) (.ref b)) (EP X pins σ Q) X.xe s
  cases xs with
  | nil =>
    cases r1
    refine SeqAt.RcNeAt.lists (e := fun _ => true) p1.isList p2.isList rfl hu (fun j h1 h2 => absurd h1 (by simp)) X.prog X.w _ _ ⟨.bl false, H, I, ?_, q⟩
    rfl
  | cons x0 xr =>
    cases r1 with
    | cons g1 g2 =>
      refine SeqAt.RcNeAt.lists_lengths p1.isList p2.isList (by simp) hu X.prog X.w _ _ ⟨.bl true, H, I, rfl, q⟩
def spShufA (K : PySem.W.Frag) : Sp := fun vs H Q _ => ∃ (p l a : Addr) (ns : List Int) (k lf : Int) (xs : List V), vs = [.ref p, .ref a] ∧ PenAt H p l ns k lf ∧ ns.length ≤ 63 ∧ 0 ≤ k ∧ k ≤ 90000 ∧ 0 ≤ lf ∧ SqL K H a xs ∧ xs.length ≤ 900 ∧
  ∀ (H' : Hp) (k' lf' : Int) (b : Addr) (ys : List V), k' ≤ k + xs.length → 0 ≤ k' → 0 ≤ lf' → ys.Perm xs → SameBut p H H' → PenAt H' p l ns k' lf' → H' b = some (.lst ys) → H b = none → Q (.ref b) H'
section
variable {P : Program} {w : World} {K : PySem.W.Frag} {mg : Str → Option Value} {base : Heap} {f fD fP : Addr} {fd fdD fdP : FuncData}
theorem ok_shufA (F : Fun K "_law_shuffled" "_law_shuffled" (top 63) f fd) (gN : mg "len" = none) (gL : mg "list" = none) (gD : mg "_law_draw" = some (.ref fD)) (kD : PySem.W.keepIn K (.ref fD) = true) (GD : FnOk P w K mg base CX0 1 fD fdD ["pen", "many"] spDraw)
    (bD : Binds K fdD ["pen", "many"] []) : FnOk P w K mg base CX0 2 f fd ["pen", "items"] (spShufA K) := by
  refine F.ok scShuf (fun vs H Q E h => ?_) (fun cdv A outer s H vs Q E hr h => ?_)
  · obtain ⟨p, l, a, ns, k, lf, xs, rfl, _⟩ := h
    rfl
  · obtain ⟨p, l, a, ns, k, lf, xs, rfl, hp, hn, hk0, hk1, hf, hS, hz, kk⟩ := h
    have hu1 : _ < cLine := Nat.lt_of_le_of_lt (Nat.le_add_right _ 64) hr.units
    refine ⟨_, pss_cons (ps_par (i := 2) (j := 3) rfl scShuf.nd rfl rfl (by decide) rfl rfl (pa_cons (pe_callTy call_list_of (by rfl) gL PyProof.Rows.boot_list (pa_cons (pv 1) pa_nil)) (pa_cons (pe_lst pa_nil) pa_nil)) rfl)
      (pss_cons (ps_while PassesOwn.never (pt_cmpR (op_neE hu1) (pv 2) (pe_lst pa_nil) (nomark _)) (pss_one (ps_expr (pe_bm PySem.F.plainAttrs_list PySem.F.slot_list_append PySem.F.type_list_append mt_append (pv 3) (pa_cons
          (pe_bm PySem.F.plainAttrs_list PySem.F.slot_list_pop PySem.F.type_list_pop mt_popAt (pv 2) (pa_cons (pe_call GD hr (by rfl) gD kD bD .nil pass0 (pa_cons (pv 0) (pa_cons (pe_callB call_len_seq (by rfl) gN PySem.boot_len (pa_cons (pv 2) pa_nil)) pa_nil))) pa_nil)) pa_nil)))))
      (pss_one (ps_ret (pv 3)))), ?_⟩
    refine ⟨V.ref a, rfl, a, xs, rfl, .inl hS, fun r nr => ⟨Nat.zero_le _, fun b nb => ⟨V.ref r, V.ref b, rfl, ?_⟩⟩⟩
    have s0 : Same H (upd (upd H r (.lst xs)) b (.lst [])) := (upd_new nr).trans (upd_new nb)
    have r0 : upd (upd H r (.lst xs)) b (.lst []) r = some (.lst xs) := upd_new nb _ _ upd_same
    have b0 : upd (upd H r (.lst xs)) b (.lst []) b = some (.lst []) := upd_same
    have nrb : r ≠ b := fun z => by
      rw [← z, upd_same] at nb
      cases nb
    have nbH : H b = none := by
      rw [upd_ne (Ne.symm nrb)] at nb
      exact nb
    generalize upd (upd H r (.lst xs)) b (.lst []) = H0 at s0 r0 b0
    refine ⟨fun m σ H1 => ∃ (k1 lf1 : Int) (zs ys : List V), σ = [some (.ref p), some (.ref a), some (.ref r), some (.ref b)] ∧ zs.length = m ∧ (ys ++ zs).Perm xs ∧ k1 ≤ k + ys.length ∧ 0 ≤ k1 ∧ 0 ≤ lf1 ∧ PenAt H1 p l ns k1 lf1 ∧ SameBut p H H1 ∧
      H1 r = some (.lst zs) ∧ H1 b = some (.lst ys), ⟨xs.length, k, lf, xs, [], rfl, rfl, .refl _, by simp, hk0, hf, ⟨s0 _ _ hp.dc, s0 _ _ hp.ls⟩, .of s0, r0, b0⟩, ?_⟩
    rintro m σ H1 ⟨k1, lf1, zs, ys, rfl, hm, hperm, e1, e2, e3, P1, s1, hr1, hb1⟩
    have hsum : ys.length + zs.length = xs.length := by
      have z := hperm.length_eq
      rw [List.length_append] at z
      exact z
    refine ⟨V.ref r, rfl, Nat.zero_le _, fun q nq => ?_⟩
    have s2 := upd_new (o := .lst []) nq
    have hq2 : upd H1 q (.lst []) q = some (.lst []) := upd_same
    have P2 : PenAt (upd H1 q (.lst [])) p l ns k1 lf1 := ⟨s2 _ _ P1.dc, s2 _ _ P1.ls⟩
    have s02 := s1.trans (SameBut.of s2)
    have hr2 := s2 _ _ hr1
    have hb2 := s2 _ _ hb1
    generalize upd H1 q (.lst []) = H2 at s2 hq2 P2 s02 hr2 hb2
    refine ⟨r, q, zs, rfl, rfl, .inl (.inl hr2), .inl (.inl hq2), _, rfl, ?_⟩
    have npr : r ≠ p := ne_of hr2 P2.dc (by intro z; cases z)
    have npb : b ≠ p := ne_of hb2 P2.dc (by intro z; cases z)
    cases zs with
    | nil =>
      have hy : ys.length = xs.length := hsum
      rw [List.append_nil] at hperm
      exact ⟨V.ref b, rfl, kk H2 k1 lf1 b ys (by omega) e2 e3 hperm s02 P2 hb2 nbH⟩
    | cons z0 zr =>
      have ed : (z0 :: zr).isEmpty = false := rfl
      rw [ed]
      generalize hzs : z0 :: zr = zs at *
      have hpos : 0 < zs.length := by rw [← hzs]; simp
      refine ⟨_, fun σ' H' q => q, ?_⟩
      refine ⟨V.ref b, rfl, .inl ⟨rfl, _, .inl (.inl hb2)⟩, V.ref r, rfl, .inl ⟨rfl, _, .inl (.inl hr2)⟩, V.ref p, rfl, V.ref r, rfl, r, zs, rfl, .inl (.inl (.inl hr2)), p, l, ns, k1, lf1, _, rfl, P2, hn, e2, by omega, e3, by omega, by omega, fun H3 k3 lf3 d g1 g2 g3 g4 g5 s3 P3 => ?_⟩
      obtain ⟨j, hj⟩ : ∃ j : Nat, d = (j : Int) := ⟨d.toNat, (Int.toNat_of_nonneg g4).symm⟩
      have hjl : j < zs.length := by omega
      obtain ⟨y, hy⟩ : ∃ y, zs[j]? = some y := ⟨_, List.getElem?_eq_getElem hjl⟩
      have hr3 := s3 _ _ npr hr2
      have hb3 := s3 _ _ npb hb2
      have b63 : (900 : Int) < 2 ^ 63 := by decide
      have b900 : (900 : Nat) < sizeLine := by decide
      refine ⟨r, zs, d, j, y, rfl, rfl, hr3, by omega, by omega, seq_ix hj hjl, hy, b, ys, y, rfl, rfl, (upd_ne (Ne.symm nrb)).trans hb3, by omega, ?_⟩
      refine ⟨(zs.eraseIdx j).length, ?_, k3, lf3, zs.eraseIdx j, ys ++ [y], rfl, rfl, ?_, ?_, g2, g3, ⟨?_, ?_⟩, ?_, ?_, upd_same⟩
      · rw [List.length_eraseIdx_of_lt hjl]
        omega
      · have e := erase_perm hy
        rw [List.append_assoc]
        exact (e.append_left ys).trans hperm
      · rw [List.length_append]
        show k3 ≤ k + ((ys.length + 1 : Nat) : Int)
        omega
      · rw [upd_ne (Ne.symm npb), upd_ne (Ne.symm npr)]
        exact P3.dc
      · rw [upd_ne (ne_of_none hp.ls nbH), upd_ne (ne_of_none hp.ls nr)]
        exact P3.ls
      · intro c o hc e
        have n1 : c ≠ r := fun z => by
          rw [z] at e
          rw [e] at nr
          cases nr
        have n2 : c ≠ b := fun z => by
          rw [z] at e
          rw [e] at nbH
          cases nbH
        rw [upd_ne n2, upd_ne n1]
        exact s3 _ _ hc (s02 _ _ hc e)
      · rw [upd_ne nrb, upd_same]
end
end SK
namespace SK
open PySem PySem.Spec PyProof.Rows L2 LamX NdefX
open K0 (De DeAll XCl spX withX)
/-! ### small data, as texts -/
theorem quote_two (x : Str) : reprQuote x = 34 ∨ reprQuote x = 39 := by
  unfold reprQuote
  split
  · exact .inl rfl
  · exact .inr rfl
theorem char_ok : ∀ q, q = 34 ∨ q = 39 → ∀ c < 128, ((Builtin.Str.reprChar q c).all fun z => decide (z < 0x110000)) = true := by
  intro q hq
  rcases hq with rfl | rfl <;> decide +kernel
theorem repr_fold (q : Nat) (hq : q = 34 ∨ q = 39) : ∀ (l : List Nat) (acc : Array Nat), (∀ c ∈ l, c < 128) → (∀ z ∈ acc.toList, z < 0x110000) → ∀ z ∈ (l.foldl (fun out c => out ++ (Builtin.Str.reprChar q c).toArray) acc).toList, z < 0x110000
  | [], acc, _, h => h
  | c :: r, acc, hl, h => by
    rw [List.foldl_cons]
    refine repr_fold q hq r _ (fun d hd => hl d (List.mem_cons_of_mem _ hd)) fun z hz => ?_
    rw [Array.toList_append] at hz
    rcases List.mem_append.mp hz with hz | hz
    · exact h z hz
    · have a := char_ok q hq c (hl c (by simp))
      rw [List.all_eq_true] at a
      exact of_decide_eq_true (a z hz)
theorem repr_ok {x : Str} (h : ∀ c ∈ x.cps.toList, c < 128) : PyData.strOk (reprText x) = true := by
  have hq := quote_two x
  have q0 : reprQuote x < 0x110000 := by rcases hq with e | e <;> rw [e] <;> decide
  unfold PyData.strOk reprText
  rw [← Array.all_toList, List.all_eq_true]
  intro z hz
  rw [← Array.foldl_toList, Array.toList_push] at hz
  refine decide_eq_true ?_
  rcases List.mem_append.mp hz with hz | hz
  · refine repr_fold (reprQuote x) hq x.cps.toList #[reprQuote x] h (fun c hc => ?_) z hz
    obtain rfl : c = reprQuote x := by simpa using hc
    exact q0
  · obtain rfl : z = reprQuote x := by simpa using hz
    exact q0
theorem small_str {x : Str} (h : ∀ c ∈ x.cps.toList, c < 128) (hz : x.cps.size ≤ 400) : Small (.str x) ∧ PyData.strOk (PyData.str x).shown = true := by
  have e : (PyData.str x).shown = reprText x := rfl
  refine ⟨⟨rfl, by simp [PyData.depth], ?_⟩, by rw [e]; exact repr_ok h⟩
  rw [e]
  have z := PySem.StrLaws.reprText_len x fun c hc => Nat.lt_trans (h c hc) (by decide)
  have z2 : x.length = x.cps.size := rfl
  omega
/-- data that is refused as a place -/
structure OddD (S : List Spot) (d : PyData) : Prop where
  no : hasD S d = false
  sm : Small d
  ok : PyData.strOk d.shown = true
end SK
namespace SK
open PySem PySem.Spec PyProof.Rows L2 LamX NdefX
open K0 (De DeAll XCl spX withX)
/-! ### expressions that make data -/
def Al (K : PySem.W.Frag) (H0 : Hp) (σ : St) (te : TE) (d : PyData) : Prop := ∀ (H : Hp) (R : VK), Same H0 H → (∀ H' v, Same H H' → De K H' v d → R v H') → te σ H R
def AlAll (K : PySem.W.Frag) (H0 : Hp) (σ : St) (ta : TA) (ds : List PyData) : Prop := ∀ (H : Hp) (R : List V → Hp → Prop), Same H0 H → (∀ H' vs, Same H H' → DeAll K H' vs ds → R vs H') → ta σ H R
section
variable {K : PySem.W.Frag} {H0 : Hp} {σ : St}
theorem Al.mono {H1 : Hp} {te : TE} {d : PyData} (h : Al K H0 σ te d) (s : Same H0 H1) : Al K H1 σ te d := fun H R s1 k => h H R (s.trans s1) k
theorem al_non : Al K H0 σ (tC .non) .none := fun H R _ k => k H _ (Same.refl _) .non
theorem al_bl {b : Bool} : Al K H0 σ (tC (.bl b)) (.bool b) := fun H R _ k => k H _ (Same.refl _) (.bl b)
theorem al_int {i : Int} : Al K H0 σ (tC (.int i)) (.int i) := fun H R _ k => k H _ (Same.refl _) (.int i)
theorem al_str {x : Str} : Al K H0 σ (tC (.str x)) (.str x) := fun H R _ k => k H _ (Same.refl _) (.str x)
theorem al_var {i : Nat} {v : V} {d : PyData} (h : σ[i]? = some (some v)) (hd : De K H0 v d) : Al K H0 σ (tVar i) d := fun H R s k => ⟨v, h, k H v (Same.refl _) (de_mono s _ _ hd)⟩
theorem al_new : Al K H0 σ tDNewK (.dict []) := fun H R s k p np => k _ _ (upd_new np) (.dic upd_same)
theorem al_nil : AlAll K H0 σ tNil [] := fun H R s k => k H [] (Same.refl _) .nil
theorem al_cons {te : TE} {ta : TA} {d : PyData} {ds : List PyData} (h1 : Al K H0 σ te d) (h2 : AlAll K H0 σ ta ds) : AlAll K H0 σ (tCons te ta) (d :: ds) := fun H R s k => by
  refine h1 H _ s fun H1 v s1 hd => ?_
  exact h2 H1 _ (s.trans s1) fun H2 vs s2 hds => k H2 (v :: vs) (s1.trans s2) (.cons (de_mono s2 _ _ hd) hds)
theorem al_tup {ta : TA} {ds : List PyData} (h : AlAll K H0 σ ta ds) (hz : ds.length ≤ 1000) : Al K H0 σ (tTup ta) (.tuple ds) := fun H R s k => by
  refine h H _ s fun H1 vs s1 hds => ⟨?_, fun p np => ?_⟩
  · rw [deAll_len hds]
    exact Nat.le_trans hz (by decide)
  · exact k _ _ (s1.trans (upd_new np)) (.tup upd_same (de_monoAll (upd_new np) _ _ hds))
theorem al_lst {ta : TA} {ds : List PyData} (h : AlAll K H0 σ ta ds) (hz : ds.length ≤ 1000) : Al K H0 σ (tLst ta) (.list ds) := fun H R s k => by
  refine h H _ s fun H1 vs s1 hds => ⟨?_, fun p np => ?_⟩
  · rw [deAll_len hds]
    exact Nat.le_trans hz (by decide)
  · exact k _ _ (s1.trans (upd_new np)) (.lst upd_same (de_monoAll (upd_new np) _ _ hds))
theorem deAll_app {H : Hp} : ∀ {xs ys : List V} {ds es : List PyData}, DeAll K H xs ds → DeAll K H ys es → DeAll K H (xs ++ ys) (ds ++ es)
  | _, _, _, _, .nil, h => h
  | _, _, _, _, .cons h t, h2 => .cons h (deAll_app t h2)
theorem al_cat {t1 t2 : TE} {ds es : List PyData} (h1 : Al K H0 σ t1 (.list ds)) (h2 : Al K H0 σ t2 (.list es)) (hz : ds.length + es.length ≤ 1000) : Al K H0 σ (tOp rCat t1 t2) (.list (ds ++ es)) := fun H R s k => by
  refine h1 H _ s fun H1 v s1 hd => ?_
  refine h2 H1 _ (s.trans s1) fun H2 u s2 he => ?_
  cases de_mono s2 _ _ hd with
  | @lst a xs _ ha hx =>
    cases he with
    | @lst b ys _ hb hy =>
      refine ⟨a, b, xs, ys, rfl, rfl, ha, hb, ?_, fun p np => ?_⟩
      · rw [deAll_len hx, deAll_len hy]
        exact Nat.le_trans hz (by decide)
      · exact k _ _ ((s1.trans s2).trans (upd_new np)) (.lst upd_same (de_monoAll (upd_new np) _ _ (deAll_app hx hy)))
theorem al_addS {t1 t2 : TE} {x y : Str} (h1 : Al K H0 σ t1 (.str x)) (h2 : Al K H0 σ t2 (.str y)) (hz : x.length + y.length ≤ 10000) : Al K H0 σ (tOp (fun x y H Q => ∃ i j, x = .str i ∧ y = .str j ∧ i.length + j.length ≤ sizeLine ∧ Q (.str (i ++ j)) H) t1 t2) (.str (x ++ y)) := fun H R s k => by
  refine h1 H _ s fun H1 v s1 hd => ?_
  refine h2 H1 _ (s.trans s1) fun H2 u s2 he => ?_
  cases hd
  cases he
  exact ⟨x, y, rfl, rfl, Nat.le_trans hz (by decide), k H2 _ (s1.trans s2) (.str _)⟩
/-- a text, some times -/
def rMulS : R2 := fun x y H Q => ∃ (z : Str) (n : Int), x = .str z ∧ y = .int n ∧ z.length ≤ 16 ∧ 0 ≤ n ∧ n ≤ 1000 ∧ Q (.str (Txt.mul z n)) H
theorem op_mulS {X : Cx} : OpR X (binaryOp .Mult) rMulS := by
  intro pins s σ H x y v u Q I rx ry h
  obtain ⟨z, n, rfl, rfl, hz, h0, h1, q⟩ := h
  obtain ⟨t, rfl⟩ := rx
  obtain ⟨t', rfl⟩ := ry
  have b63 : (1000 : Int) < 2 ^ 63 := by decide
  exact SB.mul (mulOk_of 16 1000 hz (by omega) (by omega) (by decide) (by decide)) fun t' k => ⟨.str _, H, I.tok _, ⟨_, rfl⟩, q⟩
end
/-! ### data that stays but for the pen -/
mutual
theorem de_but {K : PySem.W.Frag} {H H' : Hp} {p : Addr} {kv : Key × V} {kvs : List (Key × V)} (hp : H p = some (.dK (kv :: kvs))) (m : SameBut p H H') : ∀ {d : PyData} {v : V}, De K H v d → De K H' v d
  | _, _, .non => .non
  | _, _, .bl b => .bl b
  | _, _, .int i => .int i
  | _, _, .str x => .str x
  | _, _, .lst ha hd => .lst (m _ _ (ne_of ha hp (by intro z; cases z)) ha) (de_butAll hp m hd)
  | _, _, .tup ha hd => .tup (m _ _ (ne_of ha hp (by intro z; cases z)) ha) (de_butAll hp m hd)
  | _, _, .dic ha => .dic (m _ _ (ne_of ha hp (by intro z; cases z)) ha)
theorem de_butAll {K : PySem.W.Frag} {H H' : Hp} {p : Addr} {kv : Key × V} {kvs : List (Key × V)} (hp : H p = some (.dK (kv :: kvs))) (m : SameBut p H H') : ∀ {ds : List PyData} {vs : List V}, DeAll K H vs ds → DeAll K H' vs ds
  | _, _, .nil => .nil
  | _, _, .cons h1 h2 => .cons (de_but hp m h1) (de_butAll hp m h2)
end
theorem deAll_mem {K : PySem.W.Frag} {H : Hp} {y : V} : ∀ {xs : List V} {ds : List PyData}, DeAll K H xs ds → y ∈ xs → ∃ d ∈ ds, De K H y d
  | _, _, .nil, h => absurd h (by simp)
  | _, _, .cons h t, hm => by
    rcases List.mem_cons.mp hm with rfl | hm
    · exact ⟨_, by simp, h⟩
    · obtain ⟨d, hd, he⟩ := deAll_mem t hm
      exact ⟨d, List.mem_cons_of_mem _ hd, he⟩
theorem deAll_drop {K : PySem.W.Frag} {H : Hp} : ∀ (n : Nat) {xs : List V} {ds : List PyData}, DeAll K H xs ds → DeAll K H (xs.drop n) (ds.drop n)
  | 0, _, _, h => h
  | _ + 1, _, _, .nil => .nil
  | n + 1, _, _, .cons _ t => deAll_drop n t
theorem deAll_take {K : PySem.W.Frag} {H : Hp} : ∀ (n : Nat) {xs : List V} {ds : List PyData}, DeAll K H xs ds → DeAll K H (xs.take n) (ds.take n)
  | 0, _, _, _ => .nil
  | _ + 1, _, _, .nil => .nil
  | n + 1, _, _, .cons h t => .cons h (deAll_take n t)
/-! ### what rows and letters hold -/
structure RowD (d : PyData) : Prop where
  f : Fit d
  p : FitP d
theorem fit_tup {ds : List PyData} (h : ∀ x, PyData.str x ∈ ds → x.cps.size ≤ 1000) : Fit (.tuple ds) := fun es e => by
  rcases e with e | e
  · injection e with e
    subst e
    exact h
  · cases e
theorem fit_lst {ds : List PyData} (h : ∀ x, PyData.str x ∈ ds → x.cps.size ≤ 1000) : Fit (.list ds) := fun es e => by
  rcases e with e | e
  · cases e
  · injection e with e
    subst e
    exact h
theorem row_flat {d : PyData} (h : isTL d = false) : RowD d := by
  refine ⟨fun es e => ?_, fun a b c e => ?_⟩
  · rcases e with rfl | rfl <;> cases h
  · cases d with
    | tuple ds => cases h
    | list ds => cases h
    | _ => cases e
theorem row_three {ds : List PyData} {a b c : PyData} (h : ds = [a, b, c]) (ha : ∀ x, a = .str x → x.cps.size ≤ 1000) (hb : Plain b) (hc : Plain c) : RowD (.tuple ds) ∧ RowD (.list ds) := by
  subst h
  have hs : ∀ x, PyData.str x ∈ [a, b, c] → x.cps.size ≤ 1000 := fun x hx => by
    simp only [List.mem_cons, List.mem_nil_iff, or_false] at hx
    rcases hx with hx | hx | hx
    · exact ha x hx.symm
    · subst hx
      cases hb
      decide +kernel
    · subst hx
      cases hc
      decide +kernel
  have hp : ∀ a' b' c', ([a, b, c] : List PyData) = [a', b', c'] → Plain b' ∧ Plain c' := fun a' b' c' e => by
    injection e with e1 e
    injection e with e2 e
    injection e with e3 _
    subst e2 e3
    exact ⟨hb, hc⟩
  exact ⟨⟨fit_tup hs, hp⟩, ⟨fit_lst hs, hp⟩⟩
theorem row_few {ds : List PyData} (hl : ds.length ≠ 3) (h : ∀ x, PyData.str x ∈ ds → x.cps.size ≤ 1000) : RowD (.tuple ds) ∧ RowD (.list ds) := by
  have hp : ∀ a b c, ds = [a, b, c] → Plain b ∧ Plain c := fun a b c e => absurd (by rw [e]; rfl) hl
  exact ⟨⟨fit_tup h, hp⟩, ⟨fit_lst h, hp⟩⟩
end SK
/-! ### trees that are told by rules -/
namespace SK
structure RuleD where
  mark : Bool
  flag : Bool
  parts : List (Nat × Nat)
abbrev RuleT := Nat → RuleD
structure GoodR (al : List Nat) (R : RuleT) : Prop where
  dn : ∀ i, ∀ p ∈ (R i).parts, p.2 < i
  nd : ∀ i, ((R i).parts.map Prod.fst).Nodup
  al : ∀ i, ∀ p ∈ (R i).parts, p.1 ∈ al
theorem lookup_iff {c m : Nat} : ∀ {l : List (Nat × Nat)}, (l.map Prod.fst).Nodup → (l.lookup c = some m ↔ (c, m) ∈ l)
  | [], _ => by simp
  | (a, b) :: l, nd => by
    rw [List.map_cons, List.nodup_cons] at nd
    rw [List.lookup_cons]
    by_cases e : c = a
    · subst e
      simp only [beq_self_eq_true, if_true]
      constructor
      · intro h
        simp at h
        simp [h]
      · intro h
        rcases List.mem_cons.mp h with h | h
        · injection h with h1 h2
          rw [h2]
        · exact absurd (List.mem_map.mpr ⟨(c, m), h, rfl⟩) nd.1
    · have e' : (c == a) = false := by simpa using e
      simp only [e', if_false, Bool.false_eq_true, List.mem_cons, Prod.mk.injEq, e, false_and, false_or]
      exact lookup_iff nd.2
def plF (R : RuleT) : Nat → Nat → List (List Nat × Nat)
  | 0, _ => []
  | k + 1, i => ([], i) :: (R i).parts.flatMap fun p => (plF R k p.2).map fun q => (p.1 :: q.1, q.2)
def pl (R : RuleT) (i : Nat) : List (List Nat × Nat) := plF R (i + 1) i
theorem flatMap_same {α β : Type} {f g : α → List β} : ∀ {l : List α}, (∀ a ∈ l, f a = g a) → l.flatMap f = l.flatMap g
  | [], _ => rfl
  | a :: l, h => by
    rw [List.flatMap_cons, List.flatMap_cons, h a (by simp), flatMap_same fun b hb => h b (List.mem_cons_of_mem _ hb)]
section
variable {al : List Nat} {R : RuleT}
theorem plF_eq (g : GoodR al R) : ∀ k k' i, i < k → i < k' → plF R k i = plF R k' i
  | 0, _, _, h, _ => absurd h (Nat.not_lt_zero _)
  | _ + 1, 0, _, _, h => absurd h (Nat.not_lt_zero _)
  | k + 1, k' + 1, i, h, h' => by
    unfold plF
    congr 1
    refine flatMap_same fun p hp => ?_
    have z := g.dn i p hp
    rw [plF_eq g k k' p.2 (by omega) (by omega)]
theorem pl_eq (g : GoodR al R) (i : Nat) : pl R i = ([], i) :: (R i).parts.flatMap fun p => (pl R p.2).map fun q => (p.1 :: q.1, q.2) := by
  show plF R (i + 1) i = _
  unfold plF
  congr 1
  refine flatMap_same fun p hp => ?_
  have z := g.dn i p hp
  rw [plF_eq g i (p.2 + 1) p.2 z (by omega)]
  rfl
def wk (R : RuleT) : Nat → List Nat → Option Nat
  | i, [] => some i
  | i, c :: w => match (R i).parts.lookup c with
    | some j => wk R j w
    | none => none
theorem wk_cons {i j c : Nat} {w : List Nat} (h : (R i).parts.lookup c = some j) : wk R i (c :: w) = wk R j w := by
  show (match (R i).parts.lookup c with
    | some j => wk R j w
    | none => none) = _
  rw [h]
theorem wk_none {i c : Nat} {w : List Nat} (h : (R i).parts.lookup c = none) : wk R i (c :: w) = none := by
  show (match (R i).parts.lookup c with
    | some j => wk R j w
    | none => none) = _
  rw [h]
theorem wk_snoc {c : Nat} : ∀ {w : List Nat} {i j : Nat}, wk R i w = some j → wk R i (w ++ [c]) = (R j).parts.lookup c
  | [], i, j, h => by
    obtain rfl : i = j := Option.some.inj h
    cases e : (R i).parts.lookup c with
    | none => exact wk_none e
    | some m => exact wk_cons e
  | d :: w, i, j, h => by
    cases e : (R i).parts.lookup d with
    | none =>
      rw [wk_none e] at h
      cases h
    | some m =>
      rw [wk_cons e] at h
      rw [List.cons_append, wk_cons e]
      exact wk_snoc h
theorem wk_append {v : List Nat} : ∀ {w : List Nat} {i : Nat}, wk R i (w ++ v) = (wk R i w).bind fun j => wk R j v
  | [], i => rfl
  | d :: w, i => by
    cases e : (R i).parts.lookup d with
    | none =>
      rw [List.cons_append, wk_none e, wk_none e]
      rfl
    | some m =>
      rw [List.cons_append, wk_cons e, wk_cons e]
      exact wk_append
theorem mem_pl (g : GoodR al R) {j : Nat} : ∀ {w : List Nat} {i : Nat}, (w, j) ∈ pl R i ↔ wk R i w = some j
  | [], i => by
    rw [pl_eq g, List.mem_cons]
    constructor
    · rintro (h | h)
      · injection h with _ h
        rw [h]
        rfl
      · obtain ⟨p, _, h⟩ := List.mem_flatMap.mp h
        obtain ⟨q, _, h⟩ := List.mem_map.mp h
        injection h with h
        cases h
    · intro h
      obtain rfl : i = j := Option.some.inj h
      exact .inl rfl
  | c :: w, i => by
    rw [pl_eq g, List.mem_cons]
    constructor
    · rintro (h | h)
      · injection h with h
        cases h
      · obtain ⟨p, hp, h⟩ := List.mem_flatMap.mp h
        obtain ⟨q, hq, h⟩ := List.mem_map.mp h
        injection h with h1 h2
        injection h1 with h1 h3
        obtain ⟨a, b⟩ := p
        obtain ⟨q1, q2⟩ := q
        have h1 : a = c := h1
        have h3 : q1 = w := h3
        have h2 : q2 = j := h2
        subst h1
        subst h3
        subst h2
        rw [wk_cons ((lookup_iff (g.nd i)).mpr hp)]
        exact (mem_pl g).mp hq
    · intro h
      cases e : (R i).parts.lookup c with
      | none =>
        rw [wk_none e] at h
        cases h
      | some m =>
        rw [wk_cons e] at h
        exact .inr (List.mem_flatMap.mpr ⟨(c, m), (lookup_iff (g.nd i)).mp e, List.mem_map.mpr ⟨(w, j), (mem_pl g).mpr h, rfl⟩⟩)
theorem wk_len (g : GoodR al R) : ∀ {w : List Nat} {i j : Nat}, wk R i w = some j → w.length + j ≤ i ∧ ∀ c ∈ w, c ∈ al
  | [], i, j, h => by
    obtain rfl : i = j := Option.some.inj h
    exact ⟨by simp, fun c hc => absurd hc (by simp)⟩
  | c :: w, i, j, h => by
    cases e : (R i).parts.lookup c with
    | none =>
      rw [wk_none e] at h
      cases h
    | some m =>
      rw [wk_cons e] at h
      obtain ⟨h1, h2⟩ := wk_len g h
      have hm := (lookup_iff (g.nd i)).mp e
      have z : m < i := g.dn i _ hm
      refine ⟨by simp only [List.length_cons]; omega, fun d hd => ?_⟩
      rcases List.mem_cons.mp hd with rfl | hd
      · exact g.al i _ hm
      · exact h2 d hd
theorem pl_nodup (g : GoodR al R) : ∀ i, ((pl R i).map Prod.fst).Nodup := by
  intro i
  induction i using Nat.strongRecOn with
  | _ i ih =>
    rw [pl_eq g, List.map_cons, List.nodup_cons, List.map_flatMap]
    refine ⟨fun h => ?_, ?_⟩
    · obtain ⟨p, _, h⟩ := List.mem_flatMap.mp h
      rw [List.map_map] at h
      obtain ⟨q, _, h⟩ := List.mem_map.mp h
      cases h
    · unfold List.Nodup
      rw [List.pairwise_flatMap]
      refine ⟨fun p hp => ?_, ?_⟩
      · have z := ih p.2 (g.dn i p hp)
        have e : List.map Prod.fst (List.map (fun q : List Nat × Nat => (p.1 :: q.1, q.2)) (pl R p.2)) = ((pl R p.2).map Prod.fst).map (p.1 :: ·) := by
          rw [List.map_map, List.map_map]
          rfl
        rw [e]
        exact List.Pairwise.map _ (fun a b h z => h (by injection z)) z
      · have z := g.nd i
        unfold List.Nodup at z
        rw [List.pairwise_map] at z
        refine z.imp fun {a b} hab x hx y hy e => hab ?_
        rw [List.map_map] at hx hy
        obtain ⟨q, _, rfl⟩ := List.mem_map.mp hx
        obtain ⟨r, _, rfl⟩ := List.mem_map.mp hy
        injection e
/-! ### sizes and numbers of kept words -/
def sz (R : RuleT) (i : Nat) : Nat := (pl R i).length
def mn (R : RuleT) (i : Nat) : Nat := (pl R i).countP fun q => (R q.2).mark
theorem sz_eq (g : GoodR al R) (i : Nat) : sz R i = ((R i).parts.map fun p => sz R p.2).sum + 1 := by
  unfold sz
  rw [pl_eq g, List.length_cons, List.length_flatMap]
  congr 2
  refine List.map_congr_left fun p _ => ?_
  rw [List.length_map]
theorem mn_eq (g : GoodR al R) (i : Nat) : mn R i = ((R i).parts.map fun p => mn R p.2).sum + (if (R i).mark = true then 1 else 0) := by
  unfold mn
  rw [pl_eq g, List.countP_cons, List.countP_flatMap]
  congr 2
  refine List.map_congr_left fun p _ => ?_
  show List.countP _ (List.map _ _) = _
  rw [List.countP_map]
  rfl
/-! ### walks from the root on -/
def extP (w : List Nat) (l : List (List Nat × Nat)) : List (List Nat × Nat) := l.map fun q => (w ++ q.1, q.2)
def rem (R : RuleT) (st : List (List Nat × Nat)) : List (List Nat × Nat) := st.flatMap fun q => extP q.1 (pl R q.2)
def kidsOf (R : RuleT) (w : List Nat) (i : Nat) : List (List Nat × Nat) := (R i).parts.map fun p => (w ++ [p.1], p.2)
theorem rem_append (s t : List (List Nat × Nat)) : rem R (s ++ t) = rem R s ++ rem R t := List.flatMap_append ..
theorem ext_pl (g : GoodR al R) (w : List Nat) (i : Nat) : extP w (pl R i) = (w, i) :: rem R (kidsOf R w i) := by
  rw [pl_eq g]
  unfold extP rem kidsOf
  rw [List.map_cons, List.map_flatMap, List.flatMap_map, List.append_nil]
  congr 1
  refine flatMap_same fun p _ => ?_
  unfold extP
  rw [List.map_map]
  refine List.map_congr_left fun q _ => ?_
  show (w ++ p.1 :: q.1, q.2) = ((w ++ [p.1]) ++ q.1, q.2)
  rw [List.append_assoc]
  rfl
theorem rem_one (g : GoodR al R) (w : List Nat) (i : Nat) : rem R [(w, i)] = (w, i) :: rem R (kidsOf R w i) := by
  rw [← ext_pl g]
  unfold rem
  rw [List.flatMap_cons, List.flatMap_nil, List.append_nil]
theorem rem_step (g : GoodR al R) {vis st : List (List Nat × Nat)} {w : List Nat} {i r : Nat} (h : (vis ++ rem R (st ++ [(w, i)])).Perm (pl R r)) : ((vis ++ [(w, i)]) ++ rem R (st ++ kidsOf R w i)).Perm (pl R r) := by
  refine List.Perm.trans ?_ h
  rw [rem_append, rem_append, rem_one g, List.append_assoc]
  refine List.Perm.append_left vis ?_
  rw [List.singleton_append]
  exact (List.perm_middle).symm
theorem rem_root (g : GoodR al R) (r : Nat) : ([] ++ rem R [([], r)]).Perm (pl R r) := by
  rw [List.nil_append]
  have z := ext_pl g [] r
  rw [rem_one g, ← z]
  unfold extP
  exact .of_eq (List.map_id'' (fun _ => rfl) _)
/-! ### how many kept words come ahead -/
def rk (al : List Nat) (w : List Nat) : List Nat := w.map fun c => al.idxOf c
def cnt (al : List Nat) (R : RuleT) (i : Nat) (w : List Nat) : Nat := (pl R i).countP fun q => (R q.2).mark && decide (rk al q.1 < rk al w)
def oneM (R : RuleT) (i : Nat) : Nat := if (R i).mark = true then 1 else 0
/-- those at or below a child -/
def fM (R : RuleT) (i c : Nat) : Nat := match (R i).parts.lookup c with
  | some j => mn R j
  | none => 0
def ahead (al : List Nat) (R : RuleT) (i c : Nat) : Nat := oneM R i + ((al.take (al.idxOf c)).map (fM R i)).sum
theorem cnt_nil (i : Nat) : cnt al R i [] = 0 := by
  unfold cnt
  rw [List.countP_eq_zero]
  intro q _
  have : ¬ rk al q.1 < rk al [] := by
    show ¬ rk al q.1 < []
    exact List.not_lt_nil _
  simp [this]
theorem sum_zero {α : Type} {f : α → Nat} : ∀ {l : List α}, (∀ a ∈ l, f a = 0) → (l.map f).sum = 0
  | [], _ => rfl
  | a :: l, h => by
    rw [List.map_cons, List.sum_cons, h a (by simp), sum_zero fun b hb => h b (List.mem_cons_of_mem _ hb)]
theorem sum_perm {l l' : List Nat} (h : l.Perm l') : l.sum = l'.sum := by
  induction h with
  | nil => rfl
  | cons x _ ih => simp [ih]
  | swap x y l => simp only [List.sum_cons]; omega
  | trans _ _ a b => exact a.trans b
theorem idx_inj {l : List Nat} {a b : Nat} (ha : a ∈ l) (hb : b ∈ l) (h : l.idxOf a = l.idxOf b) : a = b := by
  have h1 := List.idxOf_lt_length_of_mem ha
  have h2 := List.idxOf_lt_length_of_mem hb
  have e1 := List.getElem_idxOf h1
  have e2 := List.getElem_idxOf h2
  rw [← e1, ← e2]
  simp only [h]
theorem countP_take {α : Type} (p q : α → Bool) (l : List α) (h : ∀ a ∈ l, p a = q a) : l.countP p = l.countP q := List.countP_congr fun a ha => by rw [h a ha]
/-- a sum over the parts, by the letters -/
theorem parts_sum (nd : al.Nodup) (g : GoodR al R) (i : Nat) (s : List Nat) (hs : s.Sublist al) (f : Nat → Nat) :
    ((R i).parts.map fun p => if p.1 ∈ s then f p.2 else 0).sum = (s.map fun c => match (R i).parts.lookup c with
      | some j => f j
      | none => 0).sum := by
  have e1 : ∀ l : List (Nat × Nat), (l.map fun p => if p.1 ∈ s then f p.2 else 0).sum = ((l.filter fun p => decide (p.1 ∈ s)).map fun p => f p.2).sum := fun l => by
    induction l with
    | nil => rfl
    | cons p l ih =>
      rw [List.map_cons, List.sum_cons, ih]
      by_cases c : p.1 ∈ s
      · rw [if_pos c, List.filter_cons_of_pos (by simpa using c), List.map_cons, List.sum_cons]
      · rw [if_neg c, List.filter_cons_of_neg (by simpa using c), Nat.zero_add]
  have e2 : ∀ l : List Nat, (l.map fun c => match (R i).parts.lookup c with
      | some j => f j
      | none => 0).sum = ((l.filterMap fun c => ((R i).parts.lookup c).map fun j => (c, j)).map fun p : Nat × Nat => f p.2).sum := fun l => by
    induction l with
    | nil => rfl
    | cons c l ih =>
      rw [List.map_cons, List.sum_cons, ih, List.filterMap_cons]
      cases h : (R i).parts.lookup c with
      | none => simp [h]
      | some j => simp [h]
  rw [e1, e2]
  refine sum_perm (List.Perm.map _ ?_)
  have np : (R i).parts.Nodup := by
    have z := g.nd i
    unfold List.Nodup at z ⊢
    rw [List.pairwise_map] at z
    exact z.imp fun h e => h (by rw [e])
  refine (List.perm_ext_iff_of_nodup (np.filter _) ?_).mpr fun p => ?_
  · have z := hs.nodup nd
    unfold List.Nodup at z ⊢
    refine List.Pairwise.filterMap (R := fun a b => a ≠ b) (S := fun a b => a ≠ b) _ (fun a a' hne b hb b' hb' e => hne ?_) z
    obtain ⟨j, _, rfl⟩ := Option.map_eq_some_iff.mp hb
    obtain ⟨j', _, rfl⟩ := Option.map_eq_some_iff.mp hb'
    injection e
  · rw [List.mem_filter, List.mem_filterMap, decide_eq_true_eq]
    constructor
    · rintro ⟨h1, h2⟩
      obtain ⟨a, b⟩ := p
      exact ⟨a, h2, by rw [(lookup_iff (g.nd i)).mpr h1]; rfl⟩
    · rintro ⟨c, h1, h2⟩
      obtain ⟨j, h3, rfl⟩ := Option.map_eq_some_iff.mp h2
      exact ⟨(lookup_iff (g.nd i)).mp h3, h1⟩
theorem mn_sum (nd : al.Nodup) (g : GoodR al R) (i : Nat) : mn R i = oneM R i + (al.map (fM R i)).sum := by
  have z := parts_sum nd g i al (List.Sublist.refl _) (mn R)
  rw [mn_eq g, Nat.add_comm]
  congr 1
  refine Eq.trans ?_ z
  congr 1
  refine List.map_congr_left fun p hp => ?_
  rw [if_pos (g.al i p hp)]
theorem cnt_cons (nd : al.Nodup) (g : GoodR al R) (i c : Nat) (hc : c ∈ al) (w : List Nat) : cnt al R i (c :: w) = ahead al R i c + (match (R i).parts.lookup c with
    | some j => cnt al R j w
    | none => 0) := by
  unfold cnt ahead
  rw [pl_eq g, List.countP_cons, List.countP_flatMap]
  have h0 : decide (rk al [] < rk al (c :: w)) = true := decide_eq_true (List.nil_lt_cons _ _)
  have e0 : (if ((R i).mark && decide (rk al [] < rk al (c :: w))) = true then 1 else 0) = oneM R i := by
    rw [h0, Bool.and_true]
    rfl
  have e1 : ∀ p ∈ (R i).parts, List.countP (fun q : List Nat × Nat => (R q.2).mark && decide (rk al q.1 < rk al (c :: w))) (List.map (fun q : List Nat × Nat => (p.1 :: q.1, q.2)) (pl R p.2)) =
      (if p.1 ∈ al.take (al.idxOf c) then mn R p.2 else 0) + (if p.1 ∈ [c] then cnt al R p.2 w else 0) := fun p hp => by
    rw [List.countP_map]
    have hpa := g.al i p hp
    have tk : p.1 ∈ al.take (al.idxOf c) ↔ al.idxOf p.1 < al.idxOf c := by
      constructor
      · intro h
        obtain ⟨k, hk, e⟩ := List.mem_iff_getElem.mp h
        rw [List.length_take] at hk
        rw [List.getElem_take] at e
        have l1 : k < al.length := by omega
        have l2 := List.idxOf_lt_length_of_mem hpa
        have : al.idxOf p.1 = k := by
          have q1 := List.getElem_idxOf l2
          have := (List.nodup_iff_pairwise_ne.mp nd)
          rcases Nat.lt_trichotomy (al.idxOf p.1) k with h | h | h
          · have z := List.pairwise_iff_getElem.mp nd _ _ l2 l1 h
            exact absurd (q1.trans e.symm) z
          · exact h
          · have z := List.pairwise_iff_getElem.mp nd _ _ l1 l2 h
            exact absurd (e.trans q1.symm) z
        omega
      · intro h
        have l2 := List.idxOf_lt_length_of_mem hpa
        refine List.mem_iff_getElem.mpr ⟨al.idxOf p.1, by rw [List.length_take]; omega, ?_⟩
        rw [List.getElem_take]
        exact List.getElem_idxOf l2
    have hpred : ∀ q : List Nat × Nat, (rk al (p.1 :: q.1) < rk al (c :: w)) ↔ (al.idxOf p.1 < al.idxOf c ∨ (al.idxOf p.1 = al.idxOf c ∧ rk al q.1 < rk al w)) := fun q => by
      show (al.idxOf p.1 :: rk al q.1 < al.idxOf c :: rk al w) ↔ _
      exact List.cons_lt_cons_iff
    by_cases h1 : al.idxOf p.1 < al.idxOf c
    · have n1 : p.1 ∉ [c] := by
        intro z
        rw [List.mem_singleton.mp z] at h1
        exact absurd h1 (Nat.lt_irrefl _)
      rw [if_pos (tk.mpr h1), if_neg n1, Nat.add_zero]
      refine countP_take _ _ _ fun q _ => ?_
      show ((R q.2).mark && decide (rk al (p.1 :: q.1) < rk al (c :: w))) = (R q.2).mark
      rw [decide_eq_true ((hpred q).mpr (.inl h1)), Bool.and_true]
    · rw [if_neg fun z => h1 (tk.mp z), Nat.zero_add]
      by_cases h2 : p.1 = c
      · rw [if_pos (by simp [h2])]
        refine countP_take _ _ _ fun q _ => ?_
        show ((R q.2).mark && decide (rk al (p.1 :: q.1) < rk al (c :: w))) = ((R q.2).mark && decide (rk al q.1 < rk al w))
        congr 1
        rw [decide_eq_decide, hpred]
        constructor
        · rintro (h | ⟨_, h⟩)
          · exact absurd h h1
          · exact h
        · exact fun h => .inr ⟨by rw [h2], h⟩
      · rw [if_neg (by simp [h2]), List.countP_eq_zero]
        intro q _
        show ¬ ((R q.2).mark && decide (rk al (p.1 :: q.1) < rk al (c :: w))) = true
        have : ¬ (rk al (p.1 :: q.1) < rk al (c :: w)) := fun z => by
          rcases (hpred q).mp z with z | ⟨z, _⟩
          · exact h1 z
          · exact h2 (idx_inj hpa hc z)
        rw [decide_eq_false this, Bool.and_false]
        exact Bool.false_ne_true
  have e2 : ((R i).parts.map (List.countP (fun q : List Nat × Nat => (R q.2).mark && decide (rk al q.1 < rk al (c :: w))) ∘ fun p => List.map (fun q : List Nat × Nat => (p.1 :: q.1, q.2)) (pl R p.2))).sum =
      ((R i).parts.map fun p => if p.1 ∈ al.take (al.idxOf c) then mn R p.2 else 0).sum + ((R i).parts.map fun p => if p.1 ∈ [c] then cnt al R p.2 w else 0).sum := by
    rw [List.map_congr_left (g := fun p => (if p.1 ∈ al.take (al.idxOf c) then mn R p.2 else 0) + (if p.1 ∈ [c] then cnt al R p.2 w else 0)) e1]
    clear e1
    generalize (R i).parts = l
    induction l with
    | nil => rfl
    | cons p l ih =>
      simp only [List.map_cons, List.sum_cons, ih]
      omega
  have e3 := parts_sum nd g i (al.take (al.idxOf c)) (List.take_sublist _ _) (mn R)
  have e4 := parts_sum nd g i [c] (List.singleton_sublist.mpr hc) (fun j => cnt al R j w)
  show ((R i).parts.map (List.countP (fun q : List Nat × Nat => (R q.2).mark && decide (rk al q.1 < rk al (c :: w))) ∘ fun p => List.map (fun q : List Nat × Nat => (p.1 :: q.1, q.2)) (pl R p.2))).sum + (if ((R i).mark && decide (rk al [] < rk al (c :: w))) = true then 1 else 0) = _
  rw [e2, e0, e3, e4]
  simp only [List.map_cons, List.map_nil, List.sum_cons, List.sum_nil, Nat.add_zero]
  show (List.map (fM R i) _).sum + _ + _ = _
  cases (R i).parts.lookup c with
  | none => simp only []; omega
  | some j => simp only [cnt]; omega
end
end SK
namespace SK
section
variable {al : List Nat} {R : RuleT}
/-! ### the way of a word -/
def wayL (R : RuleT) : Nat → List Nat → List Nat
  | i, [] => [i]
  | i, c :: w => i :: (match (R i).parts.lookup c with
    | some j => wayL R j w
    | none => [])
theorem way_cons {i j c : Nat} {w : List Nat} (h : (R i).parts.lookup c = some j) : wayL R i (c :: w) = i :: wayL R j w := by
  show i :: (match (R i).parts.lookup c with
    | some j => wayL R j w
    | none => []) = _
  rw [h]
theorem way_none {i c : Nat} {w : List Nat} (h : (R i).parts.lookup c = none) : wayL R i (c :: w) = [i] := by
  show i :: (match (R i).parts.lookup c with
    | some j => wayL R j w
    | none => []) = _
  rw [h]
theorem way_last : ∀ {w : List Nat} {i j : Nat}, wk R i w = some j → (wayL R i w).getLast? = some j ∧ (wayL R i w).length = w.length + 1
  | [], i, j, h => by
    obtain rfl : i = j := Option.some.inj h
    exact ⟨rfl, rfl⟩
  | c :: w, i, j, h => by
    cases e : (R i).parts.lookup c with
    | none =>
      rw [wk_none e] at h
      cases h
    | some m =>
      rw [wk_cons e] at h
      obtain ⟨h1, h2⟩ := way_last h
      rw [way_cons e]
      refine ⟨?_, by rw [List.length_cons, h2, List.length_cons]⟩
      rw [List.getLast?_cons, h1]
      rfl
theorem way_short : ∀ {w : List Nat} {i : Nat}, wk R i w = none → (wayL R i w).length ≤ w.length
  | [], i, h => nomatch h
  | c :: w, i, h => by
    cases e : (R i).parts.lookup c with
    | none =>
      rw [way_none e]
      simp
    | some m =>
      rw [wk_cons e] at h
      rw [way_cons e]
      have z := way_short h
      simp only [List.length_cons]
      omega
theorem way_snoc {c m : Nat} : ∀ {w : List Nat} {i j : Nat}, wk R i w = some j → (R j).parts.lookup c = some m → wayL R i (w ++ [c]) = wayL R i w ++ [m]
  | [], i, j, h, e => by
    obtain rfl : i = j := Option.some.inj h
    show wayL R i [c] = _
    rw [way_cons e]
    rfl
  | d :: w, i, j, h, e => by
    cases q : (R i).parts.lookup d with
    | none =>
      rw [wk_none q] at h
      cases h
    | some k =>
      rw [wk_cons q] at h
      rw [List.cons_append, way_cons q, way_cons q, way_snoc h e]
      rfl
theorem way_stop {c : Nat} {v : List Nat} : ∀ {w : List Nat} {i j : Nat}, wk R i w = some j → (R j).parts.lookup c = none → wayL R i (w ++ c :: v) = wayL R i w
  | [], i, j, h, e => by
    obtain rfl : i = j := Option.some.inj h
    exact way_none e
  | d :: w, i, j, h, e => by
    cases q : (R i).parts.lookup d with
    | none =>
      rw [wk_none q] at h
      cases h
    | some k =>
      rw [wk_cons q] at h
      rw [List.cons_append, way_cons q, way_cons q, way_stop h e]
theorem way_le : ∀ {w : List Nat} {i : Nat}, (wayL R i w).length ≤ w.length + 1 := fun {w i} => by
  cases e : wk R i w with
  | none => exact Nat.le_succ_of_le (way_short e)
  | some j => exact Nat.le_of_eq (way_last e).2
theorem way_mem (g : GoodR al R) {n : Nat} : ∀ {w : List Nat} {i : Nat}, i < n → ∀ j ∈ wayL R i w, j < n
  | [], i, h, j, hj => by
    obtain rfl : j = i := by simpa [wayL] using hj
    exact h
  | c :: w, i, h, j, hj => by
    cases e : (R i).parts.lookup c with
    | none =>
      rw [way_none e] at hj
      obtain rfl : j = i := by simpa using hj
      exact h
    | some m =>
      rw [way_cons e] at hj
      rcases List.mem_cons.mp hj with rfl | hj
      · exact h
      · have z := g.dn i _ ((lookup_iff (g.nd i)).mp e)
        exact way_mem g (by show m < n; have z : m < i := z; omega) j hj
theorem rank_sum (nd : al.Nodup) (g : GoodR al R) : ∀ {w : List Nat} {i : Nat}, (∀ c ∈ w, c ∈ al) → (((wayL R i w).zip w).map fun p => ahead al R p.1 p.2).sum = cnt al R i w
  | [], i, _ => by
    rw [cnt_nil, List.zip_nil_right]
    rfl
  | c :: w, i, h => by
    rw [cnt_cons nd g i c (h c (by simp))]
    cases e : (R i).parts.lookup c with
    | none =>
      rw [way_none e]
      simp
    | some m =>
      rw [way_cons e, List.zip_cons_cons, List.map_cons, List.sum_cons, rank_sum nd g fun d hd => h d (List.mem_cons_of_mem _ hd)]
/-! ### how many begin with a word -/
def beg (R : RuleT) (i : Nat) (w : List Nat) : Nat := match wk R i w with
  | some j => mn R j
  | none => 0
theorem beg_count (nd : al.Nodup) (g : GoodR al R) : ∀ {w : List Nat} {i : Nat}, (∀ c ∈ w, c ∈ al) → (pl R i).countP (fun q => (R q.2).mark && decide (q.1.take w.length = w)) = beg R i w
  | [], i, _ => by
    show _ = mn R i
    refine countP_take _ _ _ fun q _ => ?_
    simp
  | c :: w, i, h => by
    have hc := h c (by simp)
    have hw : ∀ d ∈ w, d ∈ al := fun d hd => h d (List.mem_cons_of_mem _ hd)
    rw [pl_eq g, List.countP_cons, List.countP_flatMap]
    have e0 : (if ((R i).mark && decide (([] : List Nat).take (c :: w).length = c :: w)) = true then 1 else 0) = 0 := by simp
    have e1 : ∀ p ∈ (R i).parts, (List.countP (fun q : List Nat × Nat => (R q.2).mark && decide (q.1.take (c :: w).length = c :: w)) ∘ fun p : Nat × Nat => List.map (fun q : List Nat × Nat => (p.1 :: q.1, q.2)) (pl R p.2)) p =
        if p.1 ∈ [c] then beg R p.2 w else 0 := fun p hp => by
      show List.countP _ (List.map _ _) = _
      rw [List.countP_map]
      by_cases z : p.1 = c
      · rw [if_pos (by simp [z]), ← beg_count nd g hw]
        refine countP_take _ _ _ fun q _ => ?_
        show ((R q.2).mark && decide ((p.1 :: q.1).take (c :: w).length = c :: w)) = _
        simp [z]
      · rw [if_neg (by simp [z]), List.countP_eq_zero]
        intro q _
        show ¬ ((R q.2).mark && decide ((p.1 :: q.1).take (c :: w).length = c :: w)) = true
        simp [z]
    rw [e0, List.map_congr_left e1, parts_sum nd g i [c] (List.singleton_sublist.mpr hc) (fun j => beg R j w)]
    simp only [List.map_cons, List.map_nil, List.sum_cons, List.sum_nil, Nat.add_zero]
    unfold beg
    cases e : (R i).parts.lookup c with
    | none => rw [wk_none e]
    | some j => rw [wk_cons e]
/-! ### the word of a rank -/
theorem take_idx {al a b : List Nat} {x : Nat} (nd : al.Nodup) (e : al = a ++ x :: b) : al.take (al.idxOf x) = a := by
  subst e
  have hx : x ∉ a := fun h => by
    rw [List.nodup_append] at nd
    exact nd.2.2 x h x (by simp) rfl
  rw [List.idxOf_append, if_neg hx, List.idxOf_cons_self, Nat.zero_add, List.take_left]
theorem pick_aux (f : Nat → Nat) (ok : Nat → Bool) (hf : ∀ s, ok s = false → f s = 0) (left : Nat) : ∀ (l : List Nat) (acc : Nat), acc ≤ left → left < acc + (l.map f).sum →
    ∃ a c b, l = a ++ c :: b ∧ ok c = true ∧ acc + (a.map f).sum ≤ left ∧ left < acc + (a.map f).sum + f c ∧ ∀ a' x b', b = a' ++ x :: b' → left < acc + ((a ++ c :: a').map f).sum
  | [], acc, h1, h2 => by simp at h2; omega
  | s :: l, acc, h1, h2 => by
    rw [List.map_cons, List.sum_cons] at h2
    by_cases c : left < acc + f s
    · refine ⟨[], s, l, rfl, ?_, by simpa using h1, by simpa using c, fun a' x b' _ => ?_⟩
      · cases e : ok s with
        | true => rfl
        | false =>
          rw [hf s e] at c
          omega
      · simp only [List.nil_append, List.map_cons, List.sum_cons]
        omega
    · obtain ⟨a, d, b, e, k1, k2, k3, k4⟩ := pick_aux f ok hf left l (acc + f s) (by omega) (by omega)
      refine ⟨s :: a, d, b, by rw [e]; rfl, k1, by rw [List.map_cons, List.sum_cons]; omega, by rw [List.map_cons, List.sum_cons]; omega, fun a' x b' z => ?_⟩
      have q := k4 a' x b' z
      rw [List.cons_append, List.map_cons, List.sum_cons]
      omega
theorem pick_last (nd : al.Nodup) (g : GoodR al R) {i left : Nat} (h : left < mn R i) (hm : oneM R i ≤ left) :
    ∃ c j, (al.filter fun s => ((R i).parts.lookup s).isSome && decide (ahead al R i s ≤ left)).getLast? = some c ∧ (R i).parts.lookup c = some j ∧ ahead al R i c ≤ left ∧ left - ahead al R i c < mn R j ∧ c ∈ al := by
  rw [mn_sum nd g] at h
  obtain ⟨a, c, b, e, k1, k2, k3, k4⟩ := pick_aux (fM R i) (fun s => ((R i).parts.lookup s).isSome) (fun s hs => by
    unfold fM
    cases q : (R i).parts.lookup s with
    | none => rfl
    | some j =>
      rw [q] at hs
      cases hs) left al (oneM R i) hm h
  obtain ⟨j, hj⟩ := Option.isSome_iff_exists.mp k1
  have ea : ahead al R i c = oneM R i + (a.map (fM R i)).sum := by
    unfold ahead
    rw [take_idx nd e]
  have ef : fM R i c = mn R j := by
    unfold fM
    rw [hj]
  refine ⟨c, j, ?_, hj, by omega, by omega, by rw [e]; simp⟩
  have eb : (b.filter fun s => ((R i).parts.lookup s).isSome && decide (ahead al R i s ≤ left)) = [] := by
    rw [List.filter_eq_nil_iff]
    intro x hx z
    obtain ⟨a', b', q⟩ := List.append_of_mem hx
    have q2 := k4 a' x b' q
    have e2 : al = (a ++ c :: a') ++ x :: b' := by
      rw [e, q]
      simp
    have q3 : ahead al R i x = oneM R i + ((a ++ c :: a').map (fM R i)).sum := by
      unfold ahead
      rw [take_idx nd e2]
    simp only [Bool.and_eq_true, decide_eq_true_eq] at z
    omega
  have ec : (al.filter fun s => ((R i).parts.lookup s).isSome && decide (ahead al R i s ≤ left)) = (a.filter fun s => ((R i).parts.lookup s).isSome && decide (ahead al R i s ≤ left)) ++ [c] := by
    conv => lhs; arg 2; rw [e]
    rw [List.filter_append, List.filter_cons_of_pos (by rw [k1, Bool.true_and]; exact decide_eq_true (by omega)), eb]
  rw [ec]
  simp
theorem cnt_step (nd : al.Nodup) (g : GoodR al R) {i j c : Nat} (hc : c ∈ al) (h : (R i).parts.lookup c = some j) (v : List Nat) : cnt al R i (c :: v) = ahead al R i c + cnt al R j v := by
  rw [cnt_cons nd g i c hc, h]
/-! ### names, bottom up -/
def users (R : RuleT) (ord : List Nat) (j : Nat) : List Nat := ord.flatMap fun i => ((R i).parts.filter fun p => decide (p.2 = j)).map fun _ => i
structure Kahn (R : RuleT) (n : Nat) (out ready cur : List Nat) (lack : Nat → Nat) : Prop where
  nd : (out ++ ready).Nodup
  lt : ∀ i ∈ out ++ ready, i < n
  lk : ∀ i < n, lack i = ((R i).parts.countP fun p => decide (p.2 ∉ out)) + cur.count i
  rd : ∀ i < n, lack i = 0 ↔ i ∈ out ++ ready
  ok : ∀ a i b, out = a ++ i :: b → ∀ p ∈ (R i).parts, p.2 ∈ a
theorem count_users (R : RuleT) (i j : Nat) : ∀ {ord : List Nat}, ord.Nodup → (users R ord j).count i = if i ∈ ord then (R i).parts.countP (fun p => decide (p.2 = j)) else 0
  | [], _ => by simp [users]
  | a :: ord, nd => by
    rw [List.nodup_cons] at nd
    unfold users
    rw [List.flatMap_cons, List.count_append]
    have ih := count_users R i j nd.2
    unfold users at ih
    rw [ih]
    have e : (((R a).parts.filter fun p => decide (p.2 = j)).map fun _ => a).count i = if a = i then (R a).parts.countP (fun p => decide (p.2 = j)) else 0 := by
      have e0 : ∀ l : List (Nat × Nat), (l.map fun _ => a).count i = if a = i then l.length else 0 := fun l => by
        induction l with
        | nil => simp
        | cons p l ih =>
          rw [List.map_cons, List.count_cons, ih]
          by_cases q : a = i <;> simp [q]
      rw [e0, List.countP_eq_length_filter]
    rw [e]
    by_cases q : a = i
    · subst q
      rw [if_pos rfl, if_neg nd.1, if_pos (by simp)]
      rfl
    · rw [if_neg q]
      by_cases q2 : i ∈ ord
      · rw [if_pos q2, if_pos (List.mem_cons_of_mem _ q2), Nat.zero_add]
      · rw [if_neg q2, if_neg (by rw [List.mem_cons]; exact fun z => z.elim (fun z => q z.symm) q2)]
theorem users_mem {R : RuleT} {ord : List Nat} {i j : Nat} (h : i ∈ users R ord j) : i ∈ ord := by
  obtain ⟨a, ha, h⟩ := List.mem_flatMap.mp h
  obtain ⟨_, _, rfl⟩ := List.mem_map.mp h
  exact ha
theorem Kahn.pop {n : Nat} {out ready ord : List Nat} {j : Nat} {lack : Nat → Nat} (k : Kahn R n out (ready ++ [j]) [] lack) (nd : ord.Nodup) (hord : ∀ i, i ∈ ord ↔ i < n) : Kahn R n (out ++ [j]) ready (users R ord j) lack := by
  have e : ((out ++ [j]) ++ ready).Perm (out ++ (ready ++ [j])) := by
    rw [List.append_assoc]
    exact List.Perm.append_left _ (List.perm_append_comm)
  have hj : j ∉ out := fun h => by
    have z := k.nd
    rw [List.nodup_append] at z
    exact z.2.2 j h j (by simp) rfl
  have hjn : j < n := k.lt j (by simp)
  refine ⟨e.nodup_iff.mpr k.nd, fun i hi => k.lt i (e.mem_iff.mp hi), fun i hi => ?_, fun i hi => ?_, fun a i b h p hp => ?_⟩
  · rw [k.lk i hi, count_users R i j nd, if_pos ((hord i).mpr hi), List.count_nil, Nat.add_zero]
    generalize (R i).parts = l
    induction l with
    | nil => rfl
    | cons p l ih =>
      rw [List.countP_cons, List.countP_cons, List.countP_cons, ih]
      by_cases c1 : p.2 = j
      · rw [c1]
        simp [hj]
        omega
      · by_cases c2 : p.2 ∈ out
        · simp [c1, c2]
        · simp [c1, c2]
          omega
  · rw [k.rd i hi]
    exact e.mem_iff.symm
  · rcases List.eq_nil_or_concat b with rfl | ⟨b', z, rfl⟩
    · have e2 : out = a ∧ j = i := by
        have q := List.append_inj' h (by simp)
        exact ⟨q.1, by simpa using q.2⟩
      obtain ⟨rfl, rfl⟩ := e2
      have z : lack j = 0 := (k.rd j hjn).mpr (by simp)
      have z2 := k.lk j hjn
      rw [z, List.count_nil, Nat.add_zero] at z2
      have z3 := List.countP_eq_zero.mp z2.symm p hp
      simpa using z3
    · have h : out ++ [j] = (a ++ i :: b') ++ [z] := by rw [h]; simp
      have q := (List.append_inj' h (by simp)).1
      exact k.ok a i b' q p hp
theorem Kahn.pos {n : Nat} {out ready cur : List Nat} {i : Nat} {lack : Nat → Nat} (k : Kahn R n out ready (i :: cur) lack) (hi : i < n) : 1 ≤ lack i := by
  rw [k.lk i hi, List.count_cons_self]
  omega
theorem Kahn.one {n : Nat} {out ready cur : List Nat} {i : Nat} {lack : Nat → Nat} (k : Kahn R n out ready (i :: cur) lack) (hi : i < n) (l2 : Nat → Nat) (h1 : l2 i = lack i - 1) (h2 : ∀ j, j ≠ i → l2 j = lack j) :
    (l2 i = 0 → Kahn R n out (ready ++ [i]) cur l2) ∧ (l2 i ≠ 0 → Kahn R n out ready cur l2) := by
  have hp := k.pos hi
  have ni : i ∉ out ++ ready := fun z => by
    have := (k.rd i hi).mpr z
    omega
  have lk2 : ∀ j < n, l2 j = ((R j).parts.countP fun p => decide (p.2 ∉ out)) + cur.count j := fun j hj => by
    by_cases e : j = i
    · subst e
      rw [h1, k.lk j hj, List.count_cons_self]
      omega
    · rw [h2 j e, k.lk j hj, List.count_cons_of_ne (Ne.symm e)]
  refine ⟨fun z => ⟨?_, fun j hj => ?_, lk2, fun j hj => ?_, k.ok⟩, fun z => ⟨k.nd, k.lt, lk2, fun j hj => ?_, k.ok⟩⟩
  · rw [← List.append_assoc, List.nodup_append]
    refine ⟨k.nd, by simp, fun a ha b hb e => ?_⟩
    obtain rfl : b = i := by simpa using hb
    exact ni (e ▸ ha)
  · rw [← List.append_assoc] at hj
    rcases List.mem_append.mp hj with hj | hj
    · exact k.lt j hj
    · obtain rfl : j = i := by simpa using hj
      exact hi
  · rw [← List.append_assoc, List.mem_append]
    by_cases e : j = i
    · subst e
      simp [z]
    · rw [h2 j e, k.rd j hj]
      simp [e]
  · by_cases e : j = i
    · subst e
      simp only [z, ni]
    · rw [h2 j e, k.rd j hj]
theorem Kahn.done (g : GoodR al R) {n : Nat} {out : List Nat} {lack : Nat → Nat} (k : Kahn R n out [] [] lack) : ∀ i < n, i ∈ out := by
  intro i
  induction i using Nat.strongRecOn with
  | _ i ih =>
    intro hi
    have z : lack i = 0 := by
      rw [k.lk i hi, List.count_nil, Nat.add_zero, List.countP_eq_zero]
      intro p hp
      have hd := g.dn i p hp
      have := ih p.2 hd (by omega)
      simp [this]
    have z2 := (k.rd i hi).mp z
    simpa using z2
theorem Kahn.start {n : Nat} {ord : List Nat} (nd : ord.Nodup) (hord : ∀ i, i ∈ ord ↔ i < n) (lack : Nat → Nat) (h : ∀ i < n, lack i = (R i).parts.length) : Kahn R n [] (ord.filter fun i => decide (lack i = 0)) [] lack := by
  refine ⟨by rw [List.nil_append]; exact nd.filter _, fun i hi => (hord i).mp (List.mem_filter.mp hi).1, fun i hi => ?_, fun i hi => ?_, fun a i b z => ?_⟩
  · rw [h i hi, List.count_nil, Nat.add_zero, eq_comm, List.countP_eq_length]
    simp
  · rw [List.nil_append, List.mem_filter, decide_eq_true_eq]
    exact ⟨fun z => ⟨(hord i).mpr hi, z⟩, fun z => z.2⟩
  · simp at z
/-! ### the place of a word among sorted ones -/
theorem sorted_idx {α : Type} [BEq α] [LawfulBEq α] (key : α → List Nat) {w : α} : ∀ {l : List α}, (l.Pairwise fun a b => key a ≤ key b) → (∀ a ∈ l, key a = key w → a = w) → w ∈ l → l.idxOf w = l.countP fun x => decide (key x < key w)
  | [], _, _, h => absurd h (by simp)
  | a :: l, pw, inj, h => by
    rw [List.pairwise_cons] at pw
    rw [List.countP_cons]
    by_cases e : a = w
    · subst e
      rw [List.idxOf_cons_self]
      have z : List.countP (fun x => decide (key x < key a)) l = 0 := by
        rw [List.countP_eq_zero]
        intro x hx
        have q := pw.1 x hx
        have q2 : ¬ key x < key a := q
        simp [q2]
      rw [z, if_neg]
      have q3 : ¬ key a < key a := List.lt_irrefl _
      simp [q3]
    · have hw : w ∈ l := by
        rcases List.mem_cons.mp h with z | z
        · exact absurd z.symm e
        · exact z
      rw [List.idxOf_cons, beq_false_of_ne e, cond_false, sorted_idx key pw.2 (fun b hb => inj b (List.mem_cons_of_mem _ hb)) hw]
      have q : key a < key w := by
        refine Classical.byContradiction fun z => e (inj a (by simp) ?_)
        exact List.le_antisymm (pw.1 w hw) (List.not_lt.mp z)
      rw [if_pos (decide_eq_true q)]
end
end SK
/-! ### == and != of tuples and dicts that are told alike, at any depth -/
namespace PySem.SeqAt
open AutoSeq1 (wpAny_loadPart')
open MeetsSeq MeetsSeq2 MeetsSeq3 SeqRoads2
theorem tupNe_alike {prog : Program} {w : World} (l b : Addr) (us ws : Array Value) (n n2 : Nat) (dd dd2 : Option Addr) (sl sl2 : Array (Option Value)) (hz : us.size = ws.size) :
    MeetsIn prog w (Builtin.«tuple.__ne__» ⟨[.ref l, .ref b], []⟩) (fun A R s => s.heap.get? l = some ⟨.type "tuple", dd, .seq us n, sl⟩ ∧ s.heap.get? b = some ⟨.type "tuple", dd2, .seq ws n2, sl2⟩ ∧
      (∀ j (h1 : j < us.size) (h2 : j < ws.size), EqIn prog w A.in1 s us[j] ws[j] true) ∧ R (.ok (.ret (.bool false))) s) := by
  refine .of_wp fun A R s hs => ?_
  obtain ⟨hp, g, d, tk, os⟩ := s
  obtain ⟨hl, hb, he, hR⟩ := hs
  have f2 := AutoSeq1.sub_tuple_tuple
  have hZ : (us.toList.zip ws.toList).length = us.size := by rw [List.length_zip, Array.length_toList, Array.length_toList, ← hz, Nat.min_self]
  wp_walk using wpAny_loadPart' hl, wpAny_loadPart' hb, wpAny_forIn_list _ (fun rest b s' => b.1 = none ∧ s' = ⟨hp, g, d, tk, os⟩ ∧ ∃ i, rest = (us.toList.zip ws.toList).drop i) _
  case turn =>
    rintro ⟨y, x⟩ rest q s2 ⟨q1, rfl, i, e⟩
    have hi : i < (us.toList.zip ws.toList).length := Nat.lt_of_not_le fun z => by
      rw [List.drop_of_length_le z] at e
      cases e
    rw [List.drop_eq_getElem_cons hi] at e
    have k1 : i < us.size := hZ ▸ hi
    have k2 : i < ws.size := hz ▸ k1
    injection e with e1 e2
    have ey : y = us[i] := by simpa using congrArg Prod.fst e1
    have ex : x = ws[i] := by simpa using congrArg Prod.snd e1
    subst ey
    subst ex
    refine wpAny_bind (he i k1 k2 _ _ ?_)
    wp_walk
    exact ⟨rfl, rfl, i + 1, e2⟩
  case fin =>
    rintro ⟨q1, q2⟩ s2 ⟨e, rfl, _⟩
    have e : q1 = none := e
    subst e
    wp_walk
    exact ⟨_, rfl, by simpa [Builtin.Tuple.tupleCompareSizes, bne, hz] using hR⟩
  case h => exact ⟨rfl, rfl, 0, rfl⟩
theorem rcNe_alike {prog : Program} {w : World} {A : Around} {s : Shared} {E Q : Value → Shared → Prop} {l b : Addr} {us ws : Array Value} (hl : s.heap.IsTuple l us) (hb : s.heap.IsTuple b ws) (hz : us.size = ws.size) (hu : A.units < cLine)
    (he : ∀ j (h1 : j < us.size) (h2 : j < ws.size), EqIn prog w A.in1 s us[j] ws[j] true) (h : Q (.bool false) s) : wpAny (model prog w) A (richCompare .NotEq (.ref l) (.ref b)) Q E s := by
  obtain ⟨⟨c1, dd, da, sl⟩, ho, hc, n, hd⟩ := id hl
  obtain ⟨⟨c2, dd2, db, sl2⟩, ho2, hc2, n2, hd2⟩ := id hb
  simp only at hc hd hc2 hd2
  subst hc
  subst hd
  subst hc2
  subst hd2
  refine wpAny_richCompare_same_room (T := "tuple") (op := .NotEq) ⟨_, ho, rfl⟩ ⟨_, ho2, rfl⟩ F.slot_tuple_ne (call_meetsIn F.slot_tuple_ne ⟨_, ho, rfl⟩ F.entry_tuple_ne (F.args_tuple_ne_2 _ _) (tupNe_alike l b us ws n n2 dd dd2 sl sl2 hz) ?_) hu
  refine ⟨ho, ho2, he, ?_⟩
  show Value.bool false ≠ Value.notImplemented ∧ Q (.bool false) s
  exact ⟨(fun x => nomatch x), h⟩
end PySem.SeqAt
namespace SK
open PySem PySem.Spec PyProof.Rows L2 LamX NdefX
open PySem.SeqAt (EqIn)
theorem rcNe_dicts {prog : Program} {w : World} {K : Type} [DecidableEq K] {knd : KeyKind prog w K} {A : Around} {s : Shared} {E Q : Value → Shared → Prop} {a b : Addr} {ka kb : List (K × Value)} (ha : (a == sysModules) = false) (hb : (b == sysModules) = false)
    (da : s.heap.DictOf knd a ka) (db : s.heap.DictOf knd b kb) (hu : A.units < cLine) (hits : PySem.W.KeqHitsIn prog w A.in1 s kb ka true) (hz : ka.length = kb.length) (h : Q (.bool false) s) : wpAny (model prog w) A (compareOp .NotEq (.ref a) (.ref b)) Q E s := by
  refine wpAny_richCompare_same_room (op := .NotEq) da.typeIs db.typeIs PySem.F.slot_dict_ne (wpAny_call_entry PySem.F.slot_dict_ne da.typeIs PySem.F.entry_dict_ne ?_ (PySem.F.args_dict_ne_2 _ _)) hu
  show wpAny _ _ (Builtin.Dict.dictSlotArgs "__ne__" ⟨[.ref a, .ref b], []⟩ >>= _) _ _ s
  unfold Builtin.Dict.dictSlotArgs
  refine wpAny_bind (wpAny_bind (wpAny_notOrdered_dict da.typeIs ?_))
  show wpAny _ _ (pure (Value.ref a, Value.ref b)) _ _ s
  refine wpAny_pure (wpAny_bind (wpAny_isInstance (T := "dict") db.typeIs PySem.F.sub_dict_dict ?_))
  simp only [Bool.not_true, Bool.false_eq_true, if_false]
  refine wpAny_bind (wpAny_pure (wpAny_bind (wpAny_pure (wpAny_bind (PySem.W.keq_samePairsIn ha hb da db (fun _ => hits) ?_)))))
  refine wpAny_pure ⟨_, rfl, (fun x => nomatch x), ?_⟩
  simpa [hz] using h
/-- told alike, of nesting to n -/
def AlikeR (K : PySem.W.Frag) (H : Hp) (E : V → V → Prop) (x y : V) : Prop :=
  (∃ a b xs ys, x = .ref a ∧ y = .ref b ∧ SqT K H a xs ∧ SqT K H b ys ∧ Paired E xs ys) ∨
    ∃ a b ks ls, x = .ref a ∧ y = .ref b ∧ H a = some (.dK ks) ∧ H b = some (.dK ls) ∧ ks.length = ls.length ∧ ∀ p ∈ ks, ∃ u, valV ls p.1 = some u ∧ E p.2 u
def Alike (K : PySem.W.Frag) (H : Hp) : Nat → V → V → Prop
  | 0 => fun x y => x = y ∧ flatB x = true
  | n + 1 => fun x y => (x = y ∧ flatB x = true) ∨ AlikeR K H (Alike K H n) x y
theorem paired_in {P : Program} {w : World} {A : Around} {s : Shared} {F : V → V → Prop} (ih : ∀ x y v u, F x y → RelV x v → RelV y u → EqIn P w A s v u true) {xs ys : List V} (hp : Paired F xs ys) :
    ∀ {us ws : List Value}, Vals xs us → Vals ys ws → ∀ j (h1 : j < us.length) (h2 : j < ws.length), EqIn P w A s us[j] ws[j] true := by
  induction hp with
  | nil =>
    intro us ws r1 _ j h1
    cases r1
    cases h1
  | cons h _ k =>
    intro us ws r1 r2 j h1 h2
    cases r1 with
    | cons a1 b1 =>
      cases r2 with
      | cons a2 b2 =>
        match j with
        | 0 => exact ih _ _ _ _ h a1 a2
        | j + 1 => exact k b1 b2 j (Nat.lt_of_succ_lt_succ h1) (Nat.lt_of_succ_lt_succ h2)
theorem hits_in {P : Program} {w : World} {A : Around} {s : Shared} {F : V → V → Prop} (ih : ∀ x y v u, F x y → RelV x v → RelV y u → EqIn P w A s v u true) {ls : List (Key × V)} {vb : List (Key × Value)} (rb : KV ls vb) {ks : List (Key × V)} {va : List (Key × Value)}
    (ra : KV ks va) : (∀ p ∈ ks, ∃ u, valV ls p.1 = some u ∧ F p.2 u) → PySem.W.KeqHitsIn P w A s vb va true := by
  unfold KV at ra
  induction ra with
  | nil => exact fun _ => .nil
  | @cons p q ps qs h t k =>
    intro hp
    obtain ⟨u, e, f⟩ := hp p (by simp)
    have rr := rb.val p.1
    rw [e] at rr
    obtain ⟨y, hy, ry⟩ := rr.some_of
    obtain ⟨key, v⟩ := q
    obtain ⟨e1, e2⟩ := h
    have e1 : p.1 = key := e1
    rw [e1] at hy
    have z : PySem.W.KeqHitsIn P w A s vb ((key, v) :: qs) (true && true) := .hit hy (ih _ _ _ _ f e2 ry) (k fun p' hm => hp p' (List.mem_cons_of_mem _ hm))
    exact z
section
variable {X : Cx} {pins : List (Addr × Obj)} {σ : St} {H : Hp} {s : Shared}
theorem alike_in (I : Inv X pins σ H s) : ∀ (n : Nat) (A : Around), A.units + n < cLine → ∀ (x y : V) (v u : Value), Alike X.K H n x y → RelV x v → RelV y u → EqIn X.prog X.w A s v u true
  | 0, A, _, x, y, v, u, h, rx, ry => by
    obtain ⟨rfl, f⟩ := h
    exact (eqAt_same rx ry f).inModel _ _
  | n + 1, A, hu, x, y, v, u, h, rx, ry => by
    rcases h with ⟨rfl, f⟩ | h
    · exact (eqAt_same rx ry f).inModel _ _
    · have ih := alike_in I n A.in1 (by show A.units + 1 + n < cLine; omega)
      rcases h with ⟨a, b, xs, ys, rfl, rfl, ha, hb, hp⟩ | ⟨a, b, ks, ls, rfl, rfl, ha, hb, hl, hp⟩
      · obtain rfl : v = Value.ref a := rx
        obtain rfl : u = Value.ref b := ry
        by_cases e : a = b
        · subst e
          exact (SeqAt.EqAt.same _).inModel _ _
        obtain ⟨us, r1, p1, _⟩ := I.tuple ha
        obtain ⟨ws, r2, p2, _⟩ := I.tuple hb
        refine SeqAt.EqIn.of_refs e fun E Q q => SeqAt.rcIn_tuples (e := fun _ => true) p1 p2 (by omega) (fun j h1 h2 => ?_) ?_
        · have k := paired_in ih hp r1 r2 j (by simpa using h1) (by simpa using h2)
          simpa using k
        · have hz : us.toArray.size = ws.toArray.size := by
            rw [List.size_toArray, List.size_toArray, ← r1.length, ← r2.length]
            exact Paired.length hp
          rw [hz, Nat.min_self, beq_self_eq_true, Bool.and_true, show ((List.range ws.toArray.size).all fun _ => true) = true from List.all_eq_true.mpr fun _ _ => rfl]
          exact q
      · obtain rfl : v = Value.ref a := rx
        obtain rfl : u = Value.ref b := ry
        by_cases e : a = b
        · subst e
          exact (SeqAt.EqAt.same _).inModel _ _
        obtain ⟨_, ya, va, ra, da⟩ := (show ObjOk X.prog X.w H s.heap a (.dK ks) from I.hok a _ ha)
        obtain ⟨_, yb, vb, rb, db⟩ := (show ObjOk X.prog X.w H s.heap b (.dK ls) from I.hok b _ hb)
        refine SeqAt.EqIn.of_refs e fun E Q q => PySem.W.keq_eqIn (knd := mixKind X.prog X.w) (r := true) ya yb da db (by omega) (fun _ => hits_in ih rb ra hp) ?_
        have e : va.length = vb.length := by rw [← ra.length, ← rb.length]; exact hl
        rw [e, beq_self_eq_true, Bool.and_true]
        exact q
end
/-- x != y, told alike -/
def rNeA (K : PySem.W.Frag) : R2 := fun x y H Q => ∃ n, n ≤ 60 ∧ AlikeR K H (Alike K H n) x y ∧ Q (.bl false) H
theorem op_neA {X : Cx} (hu : X.A.units + 64 < cLine) : OpR X (compareOp .NotEq) (rNeA X.K) := by
  intro pins s σ H x y v u Q I rx ry h
  obtain ⟨n, hn, h, q⟩ := h
  have ih := alike_in I n X.A.in1 (by show X.A.units + 1 + n < cLine; omega)
  rcases h with ⟨a, b, xs, ys, rfl, rfl, ha, hb, hp⟩ | ⟨a, b, ks, ls, rfl, rfl, ha, hb, hl, hp⟩
  · obtain rfl : v = Value.ref a := rx
    obtain rfl : u = Value.ref b := ry
    obtain ⟨us, r1, p1, _⟩ := I.tuple ha
    obtain ⟨ws, r2, p2, _⟩ := I.tuple hb
    refine SeqAt.rcNe_alike p1 p2 ?_ (by omega) (fun j h1 h2 => ?_) ⟨.bl false, H, I, rfl, q⟩
    · rw [List.size_toArray, List.size_toArray, ← r1.length, ← r2.length]
      exact Paired.length hp
    · have k := paired_in ih hp r1 r2 j (by simpa using h1) (by simpa using h2)
      simpa using k
  · obtain rfl : v = Value.ref a := rx
    obtain rfl : u = Value.ref b := ry
    obtain ⟨_, ya, va, ra, da⟩ := (show ObjOk X.prog X.w H s.heap a (.dK ks) from I.hok a _ ha)
    obtain ⟨_, yb, vb, rb, db⟩ := (show ObjOk X.prog X.w H s.heap b (.dK ls) from I.hok b _ hb)
    exact rcNe_dicts (knd := mixKind X.prog X.w) ya yb da db (by omega) (hits_in ih rb ra hp) (by rw [← ra.length, ← rb.length]; exact hl) ⟨.bl false, H, I, rfl, q⟩
end SK
namespace SK
open PySem PySem.Spec PyProof.Rows L2 LamX NdefX
open K0 (De DeAll XCl spX withX)
/-! ### rules of groves, in the heap -/
theorem pe_dead {X : Cx} {e : Expr} : PE X e (fun _ _ _ => False) := ⟨fun _ _ _ _ _ _ h => h.elim⟩
theorem pss_deadG {X : Cx} {b : List Stmt} : PSs X b (fun _ _ _ => False) := ⟨fun _ _ _ _ _ _ h => h.elim⟩
theorem pg_either {X : Cx} {e : Expr} {t1 t2 : TG} (h1 : PG X e t1) (h2 : PG X e t2) : PG X e (fun v σ H Q => t1 v σ H Q ∨ t2 v σ H Q) := ⟨fun pins s σ H v u Q I r h => h.elim (h1.run pins s σ H v u Q I r) (h2.run pins s σ H v u Q I r)⟩
def caps : Str := "ABCDEFGHIJKLMNOPQRSTUVWXYZ"
def nameOk (x : Str) : Prop := 1 ≤ x.cps.size ∧ x.cps.size ≤ 8 ∧ ∀ c ∈ x.cps.toList, c ∈ caps.cps.toList
def sg (c : Nat) : Str := ⟨#[c]⟩
theorem sg_inj {a b : Nat} (h : sg a = sg b) : a = b := by
  unfold sg at h
  injection h with h
  simpa using h
def encP (nm : Nat → Str) (r : RuleD) : List (Key × V) := r.parts.map fun p => ((Sum.inr (sg p.1) : Key), V.str (nm p.2))
theorem encP_keys (nm : Nat → Str) (r : RuleD) : (encP nm r).map Prod.fst = r.parts.map fun p => (Sum.inr (sg p.1) : Key) := by
  unfold encP
  rw [List.map_map]
  rfl
theorem encP_val (nm : Nat → Str) (c : Nat) : ∀ (l : List (Nat × Nat)), valV (l.map fun p => ((Sum.inr (sg p.1) : Key), V.str (nm p.2))) (.inr (sg c)) = (l.lookup c).map fun j => V.str (nm j)
  | [] => rfl
  | (a, b) :: l => by
    rw [List.map_cons, List.lookup_cons]
    by_cases e : a = c
    · subst e
      rw [valV_pos rfl]
      simp
    · have n : ¬ (Sum.inr (sg a) : Key) = .inr (sg c) := fun z => e (sg_inj (by injection z))
      rw [valV_neg n, encP_val nm c l]
      have e2 : (c == a) = false := by simpa using fun z : c = a => e z.symm
      rw [e2]
theorem encP_get (nm : Nat → Str) (r : RuleD) (c : Nat) : valV (encP nm r) (.inr (sg c)) = (r.parts.lookup c).map fun j => V.str (nm j) := encP_val nm c r.parts
/-- a rule, told as a tuple or a list; its parts are no other dict's -/
def RuleV (H : Hp) (nm : Nat → Str) (D : Addr) (r : RuleD) (x : V) : Prop := ∃ a d, x = .ref a ∧ Rows H a [.bl r.mark, .bl r.flag, .ref d] ∧ H d = some (.dK (encP nm r)) ∧ d ≠ D
/-- a dict of rules by names -/
structure RulesAt (H : Hp) (nm : Nat → Str) (R : RuleT) (n : Nat) (ord : List Nat) (D : Addr) (kvs : List (Key × V)) : Prop where
  ks : kvs.map Prod.fst = ord.map fun i => (Sum.inr (nm i) : Key)
  nd : ord.Nodup
  mem : ∀ i, i ∈ ord ↔ i < n
  inj : ∀ i < n, ∀ j < n, nm i = nm j → i = j
  vs : ∀ i < n, ∃ x, valV kvs (.inr (nm i)) = some x ∧ RuleV H nm D (R i) x
theorem RulesAt.len {H : Hp} {nm : Nat → Str} {R : RuleT} {n : Nat} {ord : List Nat} {D : Addr} {kvs : List (Key × V)} (r : RulesAt H nm R n ord D kvs) : kvs.length = ord.length := by
  have z := congrArg List.length r.ks
  rwa [List.length_map, List.length_map] at z
theorem RulesAt.olen {H : Hp} {nm : Nat → Str} {R : RuleT} {n : Nat} {ord : List Nat} {D : Addr} {kvs : List (Key × V)} (r : RulesAt H nm R n ord D kvs) : ord.length = n := by
  have p : ord.Perm (List.range n) := (List.perm_ext_iff_of_nodup r.nd List.nodup_range).mpr fun i => by rw [r.mem, List.mem_range]
  rw [p.length_eq, List.length_range]
theorem RuleV.but {H H' : Hp} {nm : Nat → Str} {D : Addr} {r : RuleD} {x : V} {kvs : List (Key × V)} (h : RuleV H nm D r x) (hD : H D = some (.dK kvs)) (m : ∀ b o, b ≠ D → H b = some o → H' b = some o) : RuleV H' nm D r x := by
  obtain ⟨a, d, rfl, h1, h2, h3⟩ := h
  refine ⟨a, d, rfl, ?_, m _ _ h3 h2, h3⟩
  rcases h1 with h1 | h1
  · exact .inl (m _ _ (ne_of h1 hD (by intro z; cases z)) h1)
  · exact .inr (m _ _ (ne_of h1 hD (by intro z; cases z)) h1)
theorem RuleV.mono {H H' : Hp} {nm : Nat → Str} {D : Addr} {r : RuleD} {x : V} (h : RuleV H nm D r x) (m : Same H H') : RuleV H' nm D r x := by
  obtain ⟨a, d, rfl, h1, h2, h3⟩ := h
  exact ⟨a, d, rfl, h1.elim (fun h => .inl (m _ _ h)) (fun h => .inr (m _ _ h)), m _ _ h2, h3⟩
theorem RulesAt.but {H H' : Hp} {nm : Nat → Str} {R : RuleT} {n : Nat} {ord : List Nat} {D : Addr} {kvs : List (Key × V)} (r : RulesAt H nm R n ord D kvs) (hD : H D = some (.dK kvs)) (m : ∀ b o, b ≠ D → H b = some o → H' b = some o) : RulesAt H' nm R n ord D kvs :=
  ⟨r.ks, r.nd, r.mem, r.inj, fun i hi => by
    obtain ⟨x, h1, h2⟩ := r.vs i hi
    exact ⟨x, h1, h2.but hD m⟩⟩
theorem RulesAt.mono {H H' : Hp} {nm : Nat → Str} {R : RuleT} {n : Nat} {ord : List Nat} {D : Addr} {kvs : List (Key × V)} (r : RulesAt H nm R n ord D kvs) (m : Same H H') : RulesAt H' nm R n ord D kvs :=
  ⟨r.ks, r.nd, r.mem, r.inj, fun i hi => by
    obtain ⟨x, h1, h2⟩ := r.vs i hi
    exact ⟨x, h1, h2.mono m⟩⟩
theorem RulesAt.at_ {H : Hp} {nm : Nat → Str} {R : RuleT} {n : Nat} {ord : List Nat} {D : Addr} {kvs : List (Key × V)} (r : RulesAt H nm R n ord D kvs) {j : Nat} {k : Key} {v : V} (h : kvs[j]? = some (k, v)) : ∃ i, ord[j]? = some i ∧ i < n ∧ k = .inr (nm i) := by
  have z := congrArg (fun l : List Key => l[j]?) r.ks
  simp only [List.getElem?_map, h, Option.map_some] at z
  cases e : ord[j]? with
  | none =>
    rw [e] at z
    cases z
  | some i =>
    rw [e] at z
    exact ⟨i, rfl, (r.mem i).mp (List.mem_of_getElem? e), Option.some.inj z⟩
theorem upd_but' {H : Hp} {D : Addr} {o : HO} : ∀ b u, b ≠ D → H b = some u → upd H D o b = some u := fun b u n e => by
  rw [upd_ne n]
  exact e
theorem parts_few {ls : Str} {R : RuleT} (hL : OkL ls) (g : GoodR ls.cps.toList R) (i : Nat) : (R i).parts.length ≤ 26 := by
  have z := parts_sum hL.nd g i ls.cps.toList (List.Sublist.refl _) (fun _ => 1)
  have e1 : ((R i).parts.map fun p => if p.1 ∈ ls.cps.toList then 1 else 0).sum = (R i).parts.length := by
    rw [List.map_congr_left (g := fun _ => 1) fun p hp => if_pos (g.al i p hp)]
    induction (R i).parts with
    | nil => rfl
    | cons p l ih => simp [ih]; omega
  have e2 : ∀ (h : Nat → Nat) (l : List Nat), (∀ c, h c ≤ 1) → (l.map h).sum ≤ l.length := fun h l hc => by
    induction l with
    | nil => simp
    | cons c l ih =>
      have := hc c
      simp only [List.map_cons, List.sum_cons, List.length_cons]
      omega
  rw [e1] at z
  rw [z]
  refine Nat.le_trans (e2 _ _ fun c => ?_) (by rw [Array.length_toList]; exact hL.hi)
  cases (R i).parts.lookup c <;> simp
/-- a dict comprehension over the keys of a dict, whose parts make nothing -/
theorem dcF_keys {g : TG} {tk tv : TE} {vs : List Nat} {σ : St} {H1 : Hp} {D : Addr} {Qd : Hp → Prop} {α : Type} {ws : List α} {d : Addr} {o : Obj} {kvs : List (Key × V)} (enc : α → Str) (nD : H1 D = none) (hd : H1 d = some (.frz o (.dK kvs))) (hk : kvs.map Prod.fst = ws.map fun a => (Sum.inr (enc a) : Key))
    (nd : (ws.map enc).Nodup) (f : α → V) (hz : ws.length < sizeLine) (step : ∀ (i : Nat) (x : α) (H : Hp), ws[i]? = some x → Same H1 H → ∀ A : V → V → Hp → Prop, A (.str (enc x)) (f x) H → g (.str (enc x)) (wipe σ vs) H fun σ2 H2 => wipe σ2 vs = wipe σ vs ∧ tk σ2 H2 fun y H4 => tv σ2 H4 fun z H5 => A y z H5)
    (fin : ∀ H, Same H1 H → H D = some (.dK (ws.map fun a => ((Sum.inr (enc a) : Key), f a))) → Qd H) :
    ∃ W : Nat → Nat → Hp → Prop, (∃ m, W 0 m (upd H1 D (.dK []))) ∧ ∀ i m H, W i m H →
      ((Itk d o kvs).stop i H ∧ Qd H) ∨ ((Itk d o kvs).go i H ∧ ∃ Nx : Hp → Prop, (∀ H', Nx H' → ∃ m', m' < m ∧ W (i + 1) m' H') ∧ ∀ x H', (Itk d o kvs).yld i H x H' → g x (wipe σ vs) H' fun σ2 H2 => wipe σ2 vs = wipe σ vs ∧ tYes σ2 H2 fun b H3 =>
        if b = true then tk σ2 H3 fun y H4 => tv σ2 H4 fun z H5 => ∃ kvs k, y = kV k ∧ H5 D = some (.dK kvs) ∧ kvs.length < sizeLine ∧ Nx (upd H5 D (.dK (putK kvs k z))) else Nx H3) := by
  have hl : kvs.length = ws.length := by
    have z := congrArg List.length hk
    rw [List.length_map, List.length_map] at z
    exact z
  refine dc_it (walk_keys (d := d) (o := o) (kvs := kvs)) (fun i H => Same H1 H ∧ H D = some (.dK ((ws.take i).map fun a => ((Sum.inr (enc a) : Key), f a)))) ⟨same_new nD, upd_same⟩ (fun i H _ p => p.1 _ _ hd) ?_ fun H p => fin H p.1 (by rw [hl, List.take_length] at p; exact p.2)
  rintro i x H H' hi ⟨s, hD⟩ ⟨rfl, k, v, hkv, rfl⟩
  obtain ⟨y, hy⟩ : ∃ y, ws[i]? = some y := ⟨_, List.getElem?_eq_getElem (by omega)⟩
  have ek : k = .inr (enc y) := by
    have z := congrArg (fun l : List Key => l[i]?) hk
    simp only [List.getElem?_map, hkv, hy, Option.map_some] at z
    exact Option.some.inj z
  subst ek
  refine step i y H' hy s (fun a b H5 => ∃ kvs k, a = kV k ∧ H5 D = some (.dK kvs) ∧ kvs.length < sizeLine ∧ (fun i H => Same H1 H ∧ H D = some (.dK ((ws.take i).map fun a => ((Sum.inr (enc a) : Key), f a)))) (i + 1) (upd H5 D (.dK (putK kvs k b)))) ⟨_, .inr (enc y), rfl, hD, ?_, same_upd nD s, ?_⟩
  · rw [List.length_map, List.length_take]
    omega
  · have hnone : valV ((ws.take i).map fun a => ((Sum.inr (enc a) : Key), f a)) (.inr (enc y)) = none := by
      cases e : valV ((ws.take i).map fun a => ((Sum.inr (enc a) : Key), f a)) (.inr (enc y)) with
      | none => rfl
      | some u =>
        obtain ⟨kv, hm, e1, _⟩ := valV_key e
        obtain ⟨a, ha, rfl⟩ := List.mem_map.mp hm
        have e1 : (Sum.inr (enc a) : Key) = .inr (enc y) := e1
        injection e1 with e1
        obtain ⟨j, hj⟩ := List.mem_iff_getElem?.mp ha
        have hji : j < i := by
          have z := (List.getElem?_eq_some_iff.mp hj).1
          rw [List.length_take] at z
          omega
        rw [List.getElem?_take_of_lt hji] at hj
        have lj := (List.getElem?_eq_some_iff.mp hj).1
        have li := (List.getElem?_eq_some_iff.mp hy).1
        have pw := List.pairwise_iff_getElem.mp nd j i (by rw [List.length_map]; exact lj) (by rw [List.length_map]; exact li) hji
        rw [List.getElem_map, List.getElem_map, (List.getElem?_eq_some_iff.mp hj).2, (List.getElem?_eq_some_iff.mp hy).2] at pw
        exact absurd e1 pw
    rw [putK_new _ hnone, take_snoc hy, List.map_append]
    exact upd_same
theorem boot_dict0 : bootBuiltins "dict" = some (.type "dict") := by decide +kernel
end SK
namespace SK
open PySem PySem.Spec PyProof.Rows L2 LamX NdefX
open K0 (De DeAll XCl spX withX)
/-! ### names and rules are right -/
theorem ps_deadG {X : Cx} {st : Stmt} : PS X st (fun _ _ _ => False) := ⟨fun _ _ _ _ _ _ h => h.elim⟩
def spNmR : Sp := fun vs H Q _ => ∃ x : Str, vs = [.str x] ∧ nameOk x ∧ ∀ H', Same H H' → Q (.bl true) H'
def spKeyR : Sp := fun vs H Q _ => ∃ (D : Addr) (kvs : List (Key × V)) (x : Str) (u : V), vs = [.ref D, .str x] ∧ Rd H D (.dK kvs) ∧ valV kvs (.inr x) = some u ∧ Q (.bl true) H
def spRuleR : Sp := fun vs H Q _ => ∃ (ls : Str) (D : Addr) (x : V) (nm : Nat → Str) (R : RuleT) (n i : Nat) (kvs : List (Key × V)), vs = [.str ls, .ref D, x] ∧ OkL ls ∧ GoodR ls.cps.toList R ∧ i < n ∧ Rd H D (.dK kvs) ∧ (∀ j < n, ∃ u, valV kvs (.inr (nm j)) = some u) ∧ RuleV H nm D (R i) x ∧ ∀ H', Same H H' → Q (.bl true) H'
def spNumR : Sp := fun vs H Q _ => ∃ n : Nat, vs = [.int n] ∧ 1 ≤ n ∧ n ≤ 1000 ∧ Q .non H
def spRulesR : Sp := fun vs H Q _ => ∃ (ls : Str) (D : Addr) (nm : Nat → Str) (R : RuleT) (n : Nat) (ord : List Nat) (kvs : List (Key × V)), vs = [.str ls, .ref D] ∧ OkL ls ∧ GoodR ls.cps.toList R ∧ 1 ≤ n ∧ n ≤ 1000 ∧ (∀ i < n, nameOk (nm i)) ∧ H D = some (.dK kvs) ∧ RulesAt H nm R n ord D kvs ∧ ∀ H', Same H H' → Q .non H'
theorem or_row {K : PySem.W.Frag} {H : Hp} {a : Addr} {xs : List V} {n : Nat} {t : TGs} {σ : St} {Q : St → Hp → Prop} (h : Rows H a xs) (hl : xs.length = n) (k : t xs σ H Q) : gTup K n t (.ref a) σ H Q ∨ gLst K n t (.ref a) σ H Q := by
  rcases h with h | h
  · exact .inr ⟨a, xs, rfl, .inl (.inl h), hl, k⟩
  · exact .inl ⟨a, xs, rfl, .inl (.inl h), hl, k⟩
theorem upd_id {H : Hp} {d : Addr} {u : HO} (h : H d = some u) : upd H d u = H := by
  funext b
  by_cases e : b = d
  · rw [e, upd_same, h]
  · rw [upd_ne e]
theorem upd_back {H : Hp} {d : Addr} {u v : HO} (h : H d = some u) : upd (upd H d v) d u = H := by
  rw [upd_upd]
  exact upd_id h
theorem encP_at {nm : Nat → Str} {r : RuleD} {j : Nat} {k : Key} {v : V} (h : (encP nm r)[j]? = some (k, v)) : ∃ p, r.parts[j]? = some p ∧ k = .inr (sg p.1) ∧ v = .str (nm p.2) := by
  unfold encP at h
  rw [List.getElem?_map] at h
  cases e : r.parts[j]? with
  | none =>
    rw [e] at h
    cases h
  | some p =>
    rw [e] at h
    have z := Option.some.inj h
    exact ⟨p, rfl, (congrArg Prod.fst z).symm, (congrArg Prod.snd z).symm⟩
theorem filt_all {α : Type} (l : List α) : (l.filter fun _ => true) = l := List.filter_eq_self.mpr fun _ _ => rfl
theorem rd_mono {H H' : Hp} {D : Addr} {u : HO} (h : Rd H D u) (s : Same H H') : Rd H' D u := by
  rcases h with h | ⟨o, h⟩
  · exact .inl (s _ _ h)
  · exact .inr ⟨o, s _ _ h⟩
theorem rd_put {H : Hp} {D d : Addr} {u v : HO} (h : Rd H D u) (n : D ≠ d) : Rd (upd H d v) D u := by
  rcases h with h | ⟨o, h⟩
  · exact .inl (by rw [upd_ne n]; exact h)
  · exact .inr ⟨o, by rw [upd_ne n]; exact h⟩
section
variable {P : Program} {w : World} {K : PySem.W.Frag} {mg : Str → Option Value} {base : Heap} {f fN fK fR : Addr} {fd fdN fdK fdR : FuncData}
theorem ok_nm (F : Fun K "is_name" "is_name" (top 45) f fd) (gI : mg "isinstance" = none) (g_str : mg "str" = none) (gN : mg "len" = none) (gAl : mg "all" = none) {tk1 tk2 : Tok} (gLn : mg "LONGEST_NAME" = some (.int 8 tk1)) (gCp : mg "CAPITALS" = some (.str caps tk2)) : FnOk P w K mg base CX0 1 f fd ["value"] spNmR := by
  have S0 : FnScope ["value", "sign"] ["value"] (defScope (top 45)) := ⟨rfl, rfl, rfl, by decide +kernel, rfl, by decide +kernel, by decide +kernel⟩
  have nd := S0.nd
  refine F.ok S0 (fun vs H Q E h => ?_) (fun cdv A outer s H vs Q E hr h => ?_)
  · obtain ⟨x, rfl, _⟩ := h
    rfl
  · obtain ⟨x, rfl, ⟨h1, h2, h3⟩, kk⟩ := h
    refine ⟨_, (pss_cons (ps_if (PW.pt (pw_or (pt_not (pt_val (pe_callB call_isi (by rfl) gI PyProof.Rows.boot_isinstance (pa_cons (pv 0) (pa_cons (pe_bltn (v := .ty "str") (by rfl) g_str PyProof.Rows.boot_str rfl) pa_nil))))) (pw_or1 (pt_not (pt_chain op_le op_le pe_int (pe_callB call_len_str (by rfl) gN PySem.boot_len (pa_cons (pv 0) pa_nil)) (pe_glob (v := V.int 8) (by rfl) gLn ⟨_, rfl⟩)))))) (pss_one (ps_ret pe_bl)) pss_nil)
        (pss_one (ps_ret (pe_callB (cr_all rfl) (by rfl) gAl PyProof.Rows.boot_all (pa_cons (pe_lc (own := [("sign", 1)]) (g := gName 1) (tt := tYes) rfl nd (pi_str (pv 0)) (blkOk_by (N := ["value", "sign"]) (sc := defScope (top 45)) (by decide +kernel)) (fun _ _ _ _ _ => pg_name (i := 1) nd rfl (Or.inl rfl)) (fun _ _ _ _ _ => pts_nil) (fun _ _ _ _ _ => (pe_cmpR op_in_sign (pv 1) (pe_glob (v := V.str caps) (by rfl) gCp ⟨_, rfl⟩) (by rfl)))) pa_nil))))), ?_⟩
    have hz : x.length ≤ sizeLine := by
      have z : (1000 : Nat) ≤ sizeLine := by decide
      have e : x.length = x.cps.size := rfl
      omega
    have el : x.length = x.cps.size := rfl
    refine ⟨V.str x, rfl, V.str x, .ty "str", .type "str", .type "str", true, rfl, .ty _, .base (.str x), kit_ty (by show kitB "str" "str" = some true; decide +kernel), _, rfl, iteF ?_⟩
    refine ⟨V.str x, rfl, x, rfl, hz, 1, (x.length : Int), rfl, rfl, _, rfl, ?_⟩
    refine ite2 (fun c => ?_) (fun c => absurd (decide_eq_true (by omega)) c)
    refine ⟨(x.length : Int), 8, rfl, rfl, _, rfl, ?_⟩
    have c8 : decide ((x.length : Int) ≤ 8) = true := decide_eq_true (by omega)
    rw [c8]
    refine iteF ?_
    show tCB (rAll K) (tCons (tLc (iStr (tVar 0)) (gName 1) tYes (tOp _ (tVar 1) (tC (.str caps))) [1]) tNil) _ H _
    refine rd_all_text (fun c => decide (c ∈ caps.cps.toList)) (by omega) (fun R h => ⟨_, rfl, h⟩) (fun _ => rfl) (fun c H1 R h => ⟨_, rfl, c, caps, rfl, rfl, h⟩) fun H1 sm => ?_
    have e : (x.cps.toList.all fun c => decide (c ∈ caps.cps.toList)) = true := List.all_eq_true.mpr fun c hc => decide_eq_true (h3 c hc)
    rw [e]
    exact kk H1 sm
theorem ok_key (F : Fun K "is_key" "is_key" (top 46) f fd) (gI : mg "isinstance" = none) (g_str : mg "str" = none) : FnOk P w K mg base CX0 1 f fd ["rules", "value"] spKeyR := by
  have S0 : FnScope ["rules", "value"] ["rules", "value"] (defScope (top 46)) := ⟨rfl, rfl, rfl, by decide +kernel, rfl, by decide +kernel, by decide +kernel⟩
  have nd := S0.nd
  refine F.ok S0 (fun vs H Q E h => ?_) (fun cdv A outer s H vs Q E hr h => ?_)
  · obtain ⟨D, kvs, x, u, rfl, _⟩ := h
    rfl
  · obtain ⟨D, kvs, x, u, rfl, hD, hu0, kk⟩ := h
    have hu := hu_of hr
    refine ⟨_, (pss_one (ps_ret (pe_ifExp (pt_val (pe_callB call_isi (by rfl) gI PyProof.Rows.boot_isinstance (pa_cons (pv 1) (pa_cons (pe_bltn (v := .ty "str") (by rfl) g_str PyProof.Rows.boot_str rfl) pa_nil)))) (pe_cmp (pc_din hu (pv 1) (pv 0))) pe_dead))), ?_⟩
    refine ⟨V.str x, rfl, V.str x, .ty "str", .type "str", .type "str", true, rfl, .ty _, .base (.str x), kit_ty (by show kitB "str" "str" = some true; decide +kernel), _, rfl, iteT ?_⟩
    have dg : DGet H D (kV (.inr x)) (some u) := .inl ⟨kvs, .inr x, hD, rfl, hu0.symm⟩
    exact ⟨V.str x, rfl, V.ref D, rfl, D, some u, rfl, dg, kk⟩
end
end SK
namespace SK
open PySem PySem.Spec PyProof.Rows L2 LamX NdefX
open K0 (De DeAll XCl spX withX)
/-! ### a rule is right -/
section
variable {P : Program} {w : World} {K : PySem.W.Frag} {mg : Str → Option Value} {base : Heap} {f fK : Addr} {fd fdK : FuncData}
theorem ok_rule (F : Fun K "is_rule" "is_rule" (top 47) f fd) (gI : mg "isinstance" = none) (g_str : mg "str" = none) (g_bool : mg "bool" = none) (g_dict : mg "dict" = none) (g_tuple : mg "tuple" = none) (g_list : mg "list" = none) (gN : mg "len" = none) (gAl : mg "all" = none)
    (gK : mg "is_key" = some (.ref fK)) (kK : PySem.W.keepIn K (.ref fK) = true) (GK : FnOk P w K mg base CX0 1 fK fdK ["rules", "value"] spKeyR) (bK : Binds K fdK ["rules", "value"] []) : FnOk P w K mg base CX0 2 f fd ["letters", "rules", "value"] spRuleR := by
  have S0 : FnScope ["letters", "rules", "value", "mark", "flag", "parts", "letter"] ["letters", "rules", "value"] (defScope (top 47)) := ⟨rfl, rfl, rfl, by decide +kernel, rfl, by decide +kernel, by decide +kernel⟩
  have nd := S0.nd
  refine F.ok S0 (fun vs H Q E h => ?_) (fun cdv A outer s H vs Q E hr h => ?_)
  · obtain ⟨ls, D, x, nm, R, n, i, kvs, rfl, _⟩ := h
    rfl
  · obtain ⟨ls, D, x, nm, R, n, i, kvs, rfl, hL, g, hi, hD, hk, ⟨a, d, rfl, hrow, hd, hdD⟩, kk⟩ := h
    have hu := hu_of hr
    refine ⟨_, (pss_cons (ps_if (PW.pt (pw_or (pt_not (pt_val (pe_callB call_isiT (by rfl) gI PyProof.Rows.boot_isinstance (pa_cons (pv 2) (pa_cons (pe_tup (pa_cons (pe_bltn (v := .ty "tuple") (by rfl) g_tuple PyProof.Rows.boot_tuple rfl) (pa_cons (pe_bltn (v := .ty "list") (by rfl) g_list PyProof.Rows.boot_list rfl) pa_nil))) pa_nil))))) (pw_or1 (pt_cmpR op_ne (pe_callB call_len_seq (by rfl) gN PySem.boot_len (pa_cons (pv 2) pa_nil)) pe_int (nomark _))))) (pss_one (ps_ret pe_bl)) pss_nil)
        (pss_cons (ps_asg (pv 2) (pg_either (pg_tup rfl (pgs_cons (pg_name (i := 3) nd rfl (Or.inl rfl)) (pgs_cons (pg_name (i := 4) nd rfl (Or.inl rfl)) (pgs_cons (pg_name (i := 5) nd rfl (Or.inr rfl)) pgs_nil)))) (pg_lst rfl (pgs_cons (pg_name (i := 3) nd rfl (Or.inl rfl)) (pgs_cons (pg_name (i := 4) nd rfl (Or.inl rfl)) (pgs_cons (pg_name (i := 5) nd rfl (Or.inr rfl)) pgs_nil))))))
        (pss_cons (ps_if (PW.pt (pw_or (pt_not (pt_val (pe_callB call_isi (by rfl) gI PyProof.Rows.boot_isinstance (pa_cons (pv 3) (pa_cons (pe_bltn (v := .ty "bool") (by rfl) g_bool PyProof.Rows.boot_bool rfl) pa_nil))))) (pw_or (pt_not (pt_val (pe_callB call_isi (by rfl) gI PyProof.Rows.boot_isinstance (pa_cons (pv 4) (pa_cons (pe_bltn (v := .ty "bool") (by rfl) g_bool PyProof.Rows.boot_bool rfl) pa_nil))))) (pw_or1 (pt_not (pt_val (pe_callB call_isi (by rfl) gI PyProof.Rows.boot_isinstance (pa_cons (pv 5) (pa_cons (pe_bltn (v := .ty "dict") (by rfl) g_dict boot_dict0 rfl) pa_nil))))))))) pss_dead pss_nil)
        (pss_cons (ps_lock (ps_for PassesOwn.never rfl (pi_keys (pv 5)) (pg_name (i := 6) nd rfl (Or.inl rfl)) (pss_one (ps_if (PW.pt (pw_or (pt_not (pt_val (pe_callB call_isi (by rfl) gI PyProof.Rows.boot_isinstance (pa_cons (pv 6) (pa_cons (pe_bltn (v := .ty "str") (by rfl) g_str PyProof.Rows.boot_str rfl) pa_nil))))) (pw_or (pt_cmpR op_ne (pe_callB call_len_str (by rfl) gN PySem.boot_len (pa_cons (pv 6) pa_nil)) pe_int (nomark _)) (pw_or1 (pt_cmpR op_notIn_sign (pv 6) (pv 0) rfl))))) pss_dead pss_nil))))
        (pss_one (ps_ret (pe_callB (cr_all rfl) (by rfl) gAl PyProof.Rows.boot_all (pa_cons (pe_lock (pe_lc (own := [("letter", 6)]) (g := gName 6) (tt := tYes) rfl nd (pi_keys (pv 5)) (blkOk_by (N := ["letters", "rules", "value", "mark", "flag", "parts", "letter"]) (sc := defScope (top 47)) (by decide +kernel)) (fun _ _ _ _ _ => pg_name (i := 6) nd rfl (Or.inl rfl)) (fun _ _ _ _ _ => pts_nil) (fun _ _ _ _ _ => (pe_call GK hr (by rfl) gK kK bK .nil pass0 (pa_cons (pv 1) (pa_cons (pe_dget hu (pv 5) (pv 6) (fun _ _ => rfl)) pa_nil)))))) pa_nil)))))))), ?_⟩
    have hpl := parts_few hL g i
    have b26 : (1000 : Nat) < sizeLine := by decide
    refine ⟨V.ref a, rfl, (by show 2 ≤ sizeLine; decide), fun tp hp => ?_⟩
    have s1 := upd_new (o := .tup [.ty "tuple", .ty "list"]) hp
    have t1 : upd H tp (.tup [.ty "tuple", .ty "list"]) tp = some (.tup [.ty "tuple", .ty "list"]) := upd_same
    generalize upd H tp (.tup [.ty "tuple", .ty "list"]) = H1 at s1 t1
    have hrow1 := hrow.elim (fun h => Or.inl (s1 _ _ h)) (fun h => Or.inr (s1 _ _ h) : _ → H1 a = some (.lst [.bl (R i).mark, .bl (R i).flag, .ref d]) ∨ H1 a = some (.tup [.bl (R i).mark, .bl (R i).flag, .ref d]))
    have hd1 := s1 _ _ hd
    have hD1 := rd_mono hD s1
    have tyx : ∃ T : String, TyX K H1 (.ref a) (.type T) ∧ ∃ b1 b2, kitB T "tuple" = some b1 ∧ kitB T "list" = some b2 ∧ (b1 || b2) = true := by
      rcases hrow1 with h | h
      · exact ⟨"list", .base (.lst h), false, true, by decide +kernel, by decide +kernel, rfl⟩
      · exact ⟨"tuple", .base (.tup h), true, false, by decide +kernel, by decide +kernel, rfl⟩
    obtain ⟨T, tx, b1, b2, k1, k2, k3⟩ := tyx
    refine ⟨V.ref a, tp, [.ty "tuple", .ty "list"], .type T, [.type "tuple", .type "list"], true, rfl, t1, .cons (.ty _) (.cons (.ty _) .nil), tx, (by rw [← k3]; exact kit_two k1 k2), _, rfl, iteF ?_⟩
    refine ⟨V.ref a, rfl, a, [.bl (R i).mark, .bl (R i).flag, .ref d], rfl, hrow1.elim (fun h => .inl (.inl (.inl h))) (fun h => .inr (.inl (.inl h))), rfl, _, rfl, iteF ?_⟩
    refine ⟨V.ref a, rfl, or_row hrow1 rfl ⟨_, _, rfl, _, _, rfl, _, _, rfl, rfl, ?_⟩⟩
    refine ⟨V.bl (R i).mark, rfl, V.bl (R i).mark, .ty "bool", .type "bool", .type "bool", true, rfl, .ty _, .base (.bl _), kit_ty (by show kitB "bool" "bool" = some true; decide +kernel), _, rfl, iteF ?_⟩
    refine ⟨V.bl (R i).flag, rfl, V.bl (R i).flag, .ty "bool", .type "bool", .type "bool", true, rfl, .ty _, .base (.bl _), kit_ty (by show kitB "bool" "bool" = some true; decide +kernel), _, rfl, iteF ?_⟩
    refine ⟨V.ref d, rfl, V.ref d, .ty "dict", .type "dict", .type "dict", true, rfl, .ty _, .base (.dK hd1), kit_ty (by show kitB "dict" "dict" = some true; decide +kernel), _, rfl, iteF ?_⟩
    refine ⟨d, .dK (encP nm (R i)), hd1, trivial, fun od => ⟨V.ref d, rfl, d, od, rfl, .inl ⟨_, upd_same, for_it (walk_keys (d := d) (o := od) (kvs := encP nm (R i))) (fun j σ G => ∃ x6 : Option V, σ = [some (.str ls), some (.ref D), some (.ref a), some (.bl (R i).mark), some (.bl (R i).flag), some (.ref d), x6] ∧ G = upd H1 d (.frz od (.dK (encP nm (R i)))))
      ⟨none, rfl, rfl⟩ (fun j σ G _ q => ?_) ?_ ?_⟩⟩⟩
    · obtain ⟨x6, _, rfl⟩ := q
      exact upd_same
    · rintro j x σ G G2 hj ⟨x6, rfl, rfl⟩ ⟨rfl, k, v, hkv, rfl⟩
      obtain ⟨p, hp, rfl, rfl⟩ := encP_at hkv
      have hpa := g.al i p (List.mem_of_getElem? hp)
      refine ⟨V.str (sg p.1), rfl, V.str (sg p.1), .ty "str", .type "str", .type "str", true, rfl, .ty _, .base (.str _), kit_ty (by show kitB "str" "str" = some true; decide +kernel), _, rfl, iteF ?_⟩
      refine ⟨V.str (sg p.1), rfl, sg p.1, rfl, (by show 1 ≤ sizeLine; decide), rfl, _, rfl, iteF ?_⟩
      refine ⟨V.str (sg p.1), rfl, V.str ls, rfl, p.1, ls, rfl, rfl, _, rfl, ?_⟩
      rw [decide_eq_true hpa]
      exact iteF ⟨_, rfl, rfl⟩
    rintro σ G ⟨x6, rfl, rfl⟩
    refine ⟨upd_same, ?_⟩
    rw [upd_back hd1]
    refine ⟨d, .dK (encP nm (R i)), hd1, trivial, fun od2 => ⟨V.ref d, rfl, d, od2, rfl, .inl ⟨_, upd_same, fun Dn nD => lcF_keys (ws := (R i).parts) (fun p => sg p.1) nD upd_same (encP_keys nm (R i)) (fun _ => .bl true) (fun _ => true) (by omega) (fun j p G hp sG A B kA kB => ?_) fun G sG hDn => ?_⟩⟩⟩
    · have hdG : G d = some (.frz od2 (.dK (encP nm (R i)))) := sG _ _ upd_same
      have hDG : Rd G D (.dK kvs) := rd_mono (rd_put hD1 (Ne.symm hdD)) sG
      have hm := List.mem_of_getElem? hp
      have gv : valV (encP nm (R i)) (.inr (sg p.1)) = some (.str (nm p.2)) := by
        rw [encP_get, (lookup_iff (g.nd i)).mpr (show (p.1, p.2) ∈ _ from hm)]
        rfl
      obtain ⟨u, hu0⟩ := hk p.2 (Nat.lt_trans (g.dn i p hm) hi)
      refine ⟨rfl, V.ref D, rfl, V.ref d, rfl, V.str (sg p.1), rfl, d, .str (nm p.2), rfl, .inl ⟨_, .inr (sg p.1), .inr ⟨od2, hdG⟩, rfl, gv.symm⟩, D, kvs, nm p.2, u, rfl, hDG, hu0, kA rfl⟩
    · refine ⟨sG _ _ upd_same, Dn, (R i).parts.map fun _ => true, rfl, .inl (.inl ?_), ?_⟩
      · rw [upd_ne (fun z => by rw [z, upd_same] at nD; cases nD)]
        rw [hDn, List.map_map, filt_all]
        rfl
      · have e : ((R i).parts.map fun _ => true).all id = true := by
          rw [List.all_map]
          exact List.all_eq_true.mpr fun _ _ => rfl
        rw [e]
        exact kk _ (s1.trans (unlock_same hd1 sG))
end
end SK
namespace SK
open PySem PySem.Spec PyProof.Rows L2 LamX NdefX
open K0 (De DeAll XCl spX withX)
/-! ### all rules are right; rules copied -/
section
variable {P : Program} {w : World} {K : PySem.W.Frag} {mg : Str → Option Value} {base : Heap} {f fNu fM fR : Addr} {fd fdNu fdM fdR : FuncData}
theorem ok_num (F : Fun K "check_number" "check_number" (top 48) f fd) {tk1 : Tok} (gMr : mg "MOST_RULES" = some (.int 1000 tk1)) : FnOk P w K mg base CX0 1 f fd ["many"] spNumR := by
  have S0 : FnScope ["many"] ["many"] (defScope (top 48)) := ⟨rfl, rfl, rfl, by decide +kernel, rfl, by decide +kernel, by decide +kernel⟩
  have nd := S0.nd
  refine F.ok S0 (fun vs H Q E h => ?_) (fun cdv A outer s H vs Q E hr h => ?_)
  · obtain ⟨n, rfl, _⟩ := h
    rfl
  · obtain ⟨n, rfl, h1, h2, kk⟩ := h
    refine ⟨_, (pss_one (ps_if (pt_not (pt_chain op_le op_le pe_int (pv 0) (pe_glob (v := V.int 1000) (by rfl) gMr ⟨_, rfl⟩))) pss_dead pss_nil)), ?_⟩
    refine ⟨V.int n, rfl, 1, (n : Int), rfl, rfl, _, rfl, ?_⟩
    refine ite2 (fun c => ?_) (fun c => absurd (decide_eq_true (by omega)) c)
    refine ⟨(n : Int), 1000, rfl, rfl, _, rfl, ?_⟩
    have c8 : decide ((n : Int) ≤ 1000) = true := decide_eq_true (by omega)
    rw [c8]
    exact iteF kk
theorem ok_rules (F : Fun K "check_rules" "check_rules" (top 49) f fd) (gN : mg "len" = none)
    (gNu : mg "check_number" = some (.ref fNu)) (kNu : PySem.W.keepIn K (.ref fNu) = true) (GNu : FnOk P w K mg base CX0 1 fNu fdNu ["many"] spNumR) (bNu : Binds K fdNu ["many"] [])
    (gM : mg "is_name" = some (.ref fM)) (kM : PySem.W.keepIn K (.ref fM) = true) (GM : FnOk P w K mg base CX0 1 fM fdM ["value"] spNmR) (bM : Binds K fdM ["value"] [])
    (gR : mg "is_rule" = some (.ref fR)) (kR : PySem.W.keepIn K (.ref fR) = true) (GR : FnOk P w K mg base CX0 2 fR fdR ["letters", "rules", "value"] spRuleR) (bR : Binds K fdR ["letters", "rules", "value"] []) : FnOk P w K mg base CX0 3 f fd ["letters", "rules"] spRulesR := by
  have S0 : FnScope ["letters", "rules", "name"] ["letters", "rules"] (defScope (top 49)) := ⟨rfl, rfl, rfl, by decide +kernel, rfl, by decide +kernel, by decide +kernel⟩
  have nd := S0.nd
  refine F.ok S0 (fun vs H Q E h => ?_) (fun cdv A outer s H vs Q E hr h => ?_)
  · obtain ⟨ls, D, nm, R, n, ord, kvs, rfl, _⟩ := h
    rfl
  · obtain ⟨ls, D, nm, R, n, ord, kvs, rfl, hL, g, hn1, hn2, hnm, hD, hRu, kk⟩ := h
    have hu := hu_of hr
    have hr1 : Room 1 _ := hr.mono (by decide)
    have hlen : kvs.length = n := hRu.len.trans hRu.olen
    refine ⟨_, (pss_cons (ps_expr (pe_call GNu hr1 (by rfl) gNu kNu bNu .nil pass0 (pa_cons (pe_callB call_lenD (by rfl) gN PySem.boot_len (pa_cons (pv 1) pa_nil)) pa_nil)))
        (pss_one (ps_lock (ps_for PassesOwn.never rfl (pi_keys (pv 1)) (pg_name (i := 2) nd rfl (Or.inl rfl)) (pss_one (ps_if (PW.pt (pw_or (pt_not (pt_val (pe_call GM hr1 (by rfl) gM kM bM .nil pass0 (pa_cons (pv 2) pa_nil)))) (pw_or1 (pt_not (pt_val (pe_call GR hr (by rfl) gR kR bR .nil pass0 (pa_cons (pv 0) (pa_cons (pv 1) (pa_cons (pe_dget hu (pv 1) (pv 2) (fun _ _ => rfl)) pa_nil))))))))) pss_dead pss_nil)))))), ?_⟩
    refine ⟨V.ref D, rfl, D, kvs, rfl, hD, n, by rw [hlen]; rfl, hn1, hn2, ?_⟩
    refine ⟨D, .dK kvs, hD, trivial, fun od => ⟨V.ref D, rfl, D, od, rfl, .inl ⟨kvs, upd_same, for_it (walk_keys (d := D) (o := od) (kvs := kvs)) (fun j σ G => ∃ x2 : Option V, σ = [some (.str ls), some (.ref D), x2] ∧ Same (upd H D (.frz od (.dK kvs))) G)
      ⟨none, rfl, Same.refl _⟩ (fun j σ G _ q => ?_) ?_ ?_⟩⟩⟩
    · obtain ⟨x2, _, sG⟩ := q
      exact sG _ _ upd_same
    · rintro j x σ G G2 hj ⟨x2, rfl, sG⟩ ⟨rfl, k, vv, hkv, rfl⟩
      obtain ⟨i, hi, hin, rfl⟩ := hRu.at_ hkv
      obtain ⟨x, hx, hrv⟩ := hRu.vs i hin
      have hdG : G2 D = some (.frz od (.dK kvs)) := sG _ _ upd_same
      refine ⟨V.str (nm i), rfl, nm i, rfl, hnm i hin, fun G3 s3 => ⟨_, rfl, iteF ?_⟩⟩
      have hdG3 := s3 _ _ hdG
      have hrv3 : RuleV G3 nm D (R i) x := (hrv.but hD (fun b o n e => by rw [upd_ne n]; exact e)).mono (sG.trans s3)
      refine ⟨V.str ls, rfl, V.ref D, rfl, V.ref D, rfl, V.str (nm i), rfl, D, x, rfl, .inl ⟨kvs, .inr (nm i), .inr ⟨od, hdG3⟩, rfl, hx.symm⟩, ls, D, x, nm, R, n, i, kvs, rfl, hL, g, hin, .inr ⟨od, hdG3⟩, fun m hm => ?_, hrv3, fun G4 s4 => ⟨_, rfl, iteF ⟨_, rfl, sG.trans (s3.trans s4)⟩⟩⟩
      obtain ⟨u, hu', _⟩ := hRu.vs m hm
      exact ⟨u, hu'⟩
    rintro σ G ⟨x2, rfl, sG⟩
    exact ⟨sG _ _ upd_same, kk _ (unlock_same hD sG)⟩
end
end SK
namespace SK
open PySem PySem.Spec PyProof.Rows L2 LamX NdefX
open K0 (De DeAll XCl spX withX)
/-! ### a copy of rules -/
theorem keys_snoc {nm : Nat → Str} {l : List Nat} {kvs : List (Key × V)} {i : Nat} {x : V} (h : kvs.map Prod.fst = l.map fun i => (Sum.inr (nm i) : Key)) (hn : ∀ j ∈ l, nm j ≠ nm i) :
    putK kvs (.inr (nm i)) x = kvs ++ [(.inr (nm i), x)] ∧ (putK kvs (.inr (nm i)) x).map Prod.fst = (l ++ [i]).map fun i => (Sum.inr (nm i) : Key) := by
  have none_ : valV kvs (.inr (nm i)) = none := by
    cases e : valV kvs (.inr (nm i)) with
    | none => rfl
    | some u =>
      obtain ⟨kv, hm, e1, _⟩ := valV_key e
      have m : kv.1 ∈ kvs.map Prod.fst := List.mem_map.mpr ⟨kv, hm, rfl⟩
      rw [h] at m
      obtain ⟨j, hj, e2⟩ := List.mem_map.mp m
      rw [e1] at e2
      injection e2 with e2
      exact absurd e2 (hn j hj)
  rw [putK_new _ none_]
  refine ⟨rfl, ?_⟩
  rw [List.map_append, List.map_append, h]
  rfl
/-- rules of one's own: the dict, the tuples and the dicts of parts stand at A -/
structure OwnR (H : Hp) (nm : Nat → Str) (R : RuleT) (n : Nat) (ord : List Nat) (O : Addr) (kvs : List (Key × V)) (A : List Addr) : Prop where
  dc : H O = some (.dK kvs)
  oa : O ∈ A
  ks : kvs.map Prod.fst = ord.map fun i => (Sum.inr (nm i) : Key)
  nd : ord.Nodup
  mem : ∀ i, i ∈ ord ↔ i < n
  inj : ∀ i < n, ∀ j < n, nm i = nm j → i = j
  vs : ∀ i < n, ∃ t d, valV kvs (.inr (nm i)) = some (.ref t) ∧ H t = some (.tup [.bl (R i).mark, .bl (R i).flag, .ref d]) ∧ H d = some (.dK (encP nm (R i))) ∧ t ∈ A ∧ d ∈ A ∧ d ≠ O
  lv : ∀ b ∈ A, ∃ o, H b = some o ∧ ∀ ps, o ≠ .tbl ps
theorem OwnR.rules {H : Hp} {nm : Nat → Str} {R : RuleT} {n : Nat} {ord : List Nat} {O : Addr} {kvs : List (Key × V)} {A : List Addr} (r : OwnR H nm R n ord O kvs A) : RulesAt H nm R n ord O kvs :=
  ⟨r.ks, r.nd, r.mem, r.inj, fun i hi => by
    obtain ⟨t, d, h1, h2, h3, _, _, h6⟩ := r.vs i hi
    exact ⟨_, h1, t, d, rfl, .inr h2, h3, h6⟩⟩
/-- what stands at A stays, tables apart -/
def Kp (A : List Addr) (H H' : Hp) : Prop := ∀ b ∈ A, ∀ o, H b = some o → (∀ ps, o ≠ .tbl ps) → H' b = some o
theorem Kp.of {A : List Addr} {H H' : Hp} (s : Same H H') : Kp A H H' := fun b _ o e _ => s b o e
theorem Kp.ext {A : List Addr} {H H' : Hp} (s : ExtN H H') : Kp A H H' := fun b _ o e t => s b o e t
theorem Kp.but {A : List Addr} {H H' : Hp} {p : Addr} (s : SameBut p H H') (n : p ∉ A) : Kp A H H' := fun b hb o e _ => s b o (fun z => n (z ▸ hb)) e
theorem Kp.trans {A : List Addr} {H H1 H2 : Hp} (a : Kp A H H1) (b : Kp A H1 H2) : Kp A H H2 := fun c hc o e t => b c hc o (a c hc o e t) t
theorem OwnR.keep {H H' : Hp} {nm : Nat → Str} {R : RuleT} {n : Nat} {ord : List Nat} {O : Addr} {kvs : List (Key × V)} {A : List Addr} (r : OwnR H nm R n ord O kvs A) (m : Kp A H H') : OwnR H' nm R n ord O kvs A :=
  ⟨m _ r.oa _ r.dc (fun _ z => nomatch z), r.oa, r.ks, r.nd, r.mem, r.inj, fun i hi => by
    obtain ⟨t, d, h1, h2, h3, h4, h5, h6⟩ := r.vs i hi
    exact ⟨t, d, h1, m _ h4 _ h2 (fun _ z => nomatch z), m _ h5 _ h3 (fun _ z => nomatch z), h4, h5, h6⟩, fun b hb => by
    obtain ⟨o, h1, h2⟩ := r.lv b hb
    exact ⟨o, m _ hb _ h1 h2, h2⟩⟩
def spCopy : Sp := fun vs H Q _ => ∃ (D : Addr) (al : List Nat) (nm : Nat → Str) (R : RuleT) (n : Nat) (ord : List Nat) (kvs : List (Key × V)), vs = [.ref D] ∧ GoodR al R ∧ (∀ i < n, (R i).parts.length ≤ 100) ∧ n ≤ 1000 ∧ H D = some (.dK kvs) ∧ RulesAt H nm R n ord D kvs ∧
  ∀ (H' : Hp) (O : Addr) (kv2 : List (Key × V)) (A : List Addr), Same H H' → (∀ b ∈ A, H b = none) → OwnR H' nm R n ord O kv2 A → Q (.ref O) H'
section
variable {P : Program} {w : World} {K : PySem.W.Frag} {mg : Str → Option Value} {base : Heap} {f : Addr} {fd : FuncData}
theorem ok_copy (F : Fun K "copied" "copied" (top 50) f fd) : FnOk P w K mg base CX0 1 f fd ["rules"] spCopy := by
  have S0 : FnScope ["rules", "out", "name", "mark", "flag", "parts", "letter"] ["rules"] (defScope (top 50)) := ⟨rfl, rfl, rfl, by decide +kernel, rfl, by decide +kernel, by decide +kernel⟩
  have nd := S0.nd
  refine F.ok S0 (fun vs H Q E h => ?_) (fun cdv A outer s H vs Q E hr h => ?_)
  · obtain ⟨D, al, nm, R, n, ord, kvs, rfl, _⟩ := h
    rfl
  · obtain ⟨D, al, nm, R, n, ord, kvs, rfl, g, hpl, hn, hD, hRu, kk⟩ := h
    have hu := hu_of hr
    have b1 : (5000 : Nat) < sizeLine := by decide
    have hlen : kvs.length = ord.length := hRu.len
    have holen := hRu.olen
    refine ⟨_, (pss_cons (ps_set (i := 1) nd rfl (Or.inl rfl) pe_dnewK)
        (pss_cons (ps_lock (ps_for PassesOwn.never rfl (pi_keys (pv 0)) (pg_name (i := 2) nd rfl (Or.inl rfl)) (pss_cons (ps_asg (pe_dget hu (pv 0) (pv 2) (fun _ _ => rfl)) (pg_either (pg_tup rfl (pgs_cons (pg_name (i := 3) nd rfl (Or.inl rfl)) (pgs_cons (pg_name (i := 4) nd rfl (Or.inl rfl)) (pgs_cons (pg_name (i := 5) nd rfl (Or.inr rfl)) pgs_nil)))) (pg_lst rfl (pgs_cons (pg_name (i := 3) nd rfl (Or.inl rfl)) (pgs_cons (pg_name (i := 4) nd rfl (Or.inl rfl)) (pgs_cons (pg_name (i := 5) nd rfl (Or.inr rfl)) pgs_nil))))))
        (pss_one (ps_dput hu (pv 1) (pv 2) (pe_tup (pa_cons (pv 3) (pa_cons (pv 4) (pa_cons (pe_lock (pe_dc (own := [("letter", 6)]) (g := gName 6) (tt := tYes) rfl nd (pi_keys (pv 5)) (blkOk_by (N := ["rules", "out", "name", "mark", "flag", "parts", "letter"]) (sc := defScope (top 50)) (by decide +kernel)) (fun _ _ _ _ _ => (pg_name (i := 6) nd rfl (Or.inl rfl))) (fun _ _ _ _ _ => pts_nil) (fun _ _ _ _ _ => (pv 6)) (fun _ _ _ _ _ => (pe_dget hu (pv 5) (pv 6) (fun _ _ => rfl))))) pa_nil)))) rfl)))))
        (pss_one (ps_ret (pv 1))))), ?_⟩
    intro O nO
    have nOD : D ≠ O := ne_of_none hD nO
    have hD1 : upd H O (.dK []) D = some (.dK kvs) := by
      rw [upd_ne nOD]
      exact hD
    refine ⟨D, .dK kvs, hD1, trivial, fun od => ⟨V.ref D, rfl, D, od, rfl, .inl ⟨kvs, upd_same, for_it (walk_keys (d := D) (o := od) (kvs := kvs)) (fun j σ G => ∃ (x2 x3 x4 x5 x6 : Option V) (kv2 : List (Key × V)) (A : List Addr), σ = [some (.ref D), some (.ref O), x2, x3, x4, x5, x6] ∧
        (∀ b o, b ≠ O → upd H D (.frz od (.dK kvs)) b = some o → G b = some o) ∧ G O = some (.dK kv2) ∧ kv2.map Prod.fst = (ord.take j).map (fun i => (Sum.inr (nm i) : Key)) ∧ O ∈ A ∧ (∀ b ∈ A, H b = none) ∧
        (∀ i ∈ ord.take j, ∃ t d, valV kv2 (.inr (nm i)) = some (.ref t) ∧ G t = some (.tup [.bl (R i).mark, .bl (R i).flag, .ref d]) ∧ G d = some (.dK (encP nm (R i))) ∧ t ∈ A ∧ d ∈ A ∧ d ≠ O) ∧ ∀ b ∈ A, ∃ o, G b = some o ∧ ∀ ps, o ≠ .tbl ps)
      ⟨none, none, none, none, none, [], [O], rfl, fun b o n e => ?_, ?_, rfl, by simp, fun b hb => by rw [List.mem_singleton.mp hb]; exact nO, fun i hi => by simp at hi, fun b hb => ⟨.dK [], by rw [List.mem_singleton.mp hb, upd_ne (Ne.symm nOD)]; exact upd_same, fun _ z => nomatch z⟩⟩ (fun j σ G _ q => ?_) ?_ ?_⟩⟩⟩
    · by_cases e2 : b = D
      · rw [e2] at e ⊢
        rw [upd_same] at e ⊢
        exact e
      · rw [upd_ne e2] at e ⊢
        rw [upd_ne n]
        exact e
    · rw [upd_ne (Ne.symm nOD)]
      exact upd_same
    · obtain ⟨_, _, _, _, _, _, _, _, k1, _⟩ := q
      exact k1 _ _ nOD upd_same
    · rintro j x σ G G2 hj ⟨x2, x3, x4, x5, x6, kv2, A, rfl, k1, k2, k3, k4, k5, k6, k7⟩ ⟨rfl, k, vv, hkv, rfl⟩
      obtain ⟨i, hi, hin, rfl⟩ := hRu.at_ hkv
      obtain ⟨x, hx, hrv⟩ := hRu.vs i hin
      have hdG : G2 D = some (.frz od (.dK kvs)) := k1 _ _ nOD upd_same
      have hrvG : RuleV G2 nm D (R i) x := by
        obtain ⟨a, d, rfl, h1, h2, h3⟩ := RuleV.but (H' := upd H D (.frz od (.dK kvs))) hrv hD (fun b o n e => by rw [upd_ne n]; exact e)
        have nn : ∀ {b : Addr} {o : HO}, H b = some o → b ≠ O := fun e z => by
          rw [z, nO] at e
          cases e
        have aD : H a ≠ none := by
          obtain ⟨a', d', e, h1', _⟩ := hrv
          injection e with e
          subst e
          rcases h1' with h | h <;> rw [h] <;> simp
        have dD : H d ≠ none := by
          obtain ⟨a', d', e, h1', h2', _⟩ := hrv
          rw [upd_ne h3] at h2
          rw [h2]
          simp
        have nn2 : ∀ {b : Addr}, H b ≠ none → b ≠ O := fun e z => e (by rw [z]; exact nO)
        exact ⟨a, d, rfl, h1.elim (fun h => .inl (k1 _ _ (nn2 aD) h)) (fun h => .inr (k1 _ _ (nn2 aD) h)), k1 _ _ (nn2 dD) h2, h3⟩
      obtain ⟨a, d, rfl, hrow, hd, hdD⟩ := hrvG
      have hpl' := hpl i hin
      refine ⟨V.ref D, rfl, V.str (nm i), rfl, D, .ref a, rfl, .inl ⟨kvs, .inr (nm i), .inr ⟨od, hdG⟩, rfl, hx.symm⟩, or_row hrow rfl ⟨_, _, rfl, _, _, rfl, _, _, rfl, rfl, ?_⟩⟩
      refine ⟨V.bl (R i).mark, rfl, V.bl (R i).flag, rfl, d, .dK (encP nm (R i)), hd, trivial, fun od2 => ⟨V.ref d, rfl, d, od2, rfl, .inl ⟨_, upd_same, fun Dn nD => dcF_keys (ws := (R i).parts) (fun p => sg p.1) nD upd_same (encP_keys nm (R i)) ?_ (fun p => .str (nm p.2)) (by omega) (fun m p G3 hp sG B kB => ?_) fun G3 sG hDn => ?_⟩⟩⟩
      · have z := g.nd i
        have e : (R i).parts.map (fun p => sg p.1) = ((R i).parts.map Prod.fst).map sg := by
          rw [List.map_map]
          rfl
        rw [e]
        exact List.Pairwise.map _ (fun a b h z => h (sg_inj z)) z
      · have hm := List.mem_of_getElem? hp
        have gv : valV (encP nm (R i)) (.inr (sg p.1)) = some (.str (nm p.2)) := by
          rw [encP_get, (lookup_iff (g.nd i)).mpr (show (p.1, p.2) ∈ _ from hm)]
          rfl
        exact ⟨rfl, V.str (sg p.1), rfl, V.ref d, rfl, V.str (sg p.1), rfl, d, .str (nm p.2), rfl, .inl ⟨_, .inr (sg p.1), .inr ⟨od2, sG _ _ upd_same⟩, rfl, gv.symm⟩, kB⟩
      · have nDd : Dn ≠ d := fun z => by
          rw [z, upd_same] at nD
          cases nD
        have nD2 : G2 Dn = none := by
          rw [upd_ne nDd] at nD
          exact nD
        have s3 := unlock_same hd sG
        have hDn3 : upd G3 d (.dK (encP nm (R i))) Dn = some (.dK (encP nm (R i))) := by
          rw [upd_ne nDd]
          exact hDn
        refine ⟨sG _ _ upd_same, (by show 3 ≤ sizeLine; decide), fun t nt => ?_⟩
        have s4 := s3.trans (upd_new (o := .tup [.bl (R i).mark, .bl (R i).flag, .ref Dn]) nt)
        have ht4 : upd (upd G3 d (.dK (encP nm (R i)))) t (.tup [.bl (R i).mark, .bl (R i).flag, .ref Dn]) t = some (.tup [.bl (R i).mark, .bl (R i).flag, .ref Dn]) := upd_same
        have hDn4 := upd_new (o := .tup [.bl (R i).mark, .bl (R i).flag, .ref Dn]) nt _ _ hDn3
        have nt2 : G2 t = none := s3.free nt
        generalize upd (upd G3 d (.dK (encP nm (R i)))) t (.tup [.bl (R i).mark, .bl (R i).flag, .ref Dn]) = G4 at s4 ht4 hDn4
        have hO4 := s4 _ _ k2
        have hnew : ∀ m ∈ ord.take j, nm m ≠ nm i := fun m hm e => by
          have hmn : m < n := (hRu.mem m).mp (List.mem_of_mem_take hm)
          have e2 := hRu.inj m hmn i hin e
          subst e2
          obtain ⟨q, hq⟩ := List.mem_iff_getElem?.mp hm
          have hqj : q < j := by
            have z := (List.getElem?_eq_some_iff.mp hq).1
            rw [List.length_take] at z
            omega
          rw [List.getElem?_take_of_lt hqj] at hq
          exact absurd ((List.getElem?_inj (List.getElem?_eq_some_iff.mp hq).1 hRu.nd).mp (hq.trans hi.symm)) (by omega)
        obtain ⟨p1, p2⟩ := keys_snoc (x := .ref t) k3 hnew
        have kl : kv2.length ≤ n := by
          have z := congrArg List.length k3
          rw [List.length_map, List.length_map, List.length_take] at z
          omega
        have nDO : Dn ≠ O := fun z => by rw [z, k2] at nD2; cases nD2
        have ntO : t ≠ O := fun z => by rw [z, k2] at nt2; cases nt2
        refine ⟨V.ref O, rfl, V.str (nm i), rfl, O, _, rfl, DPut.k (k := .inr (nm i)) hO4 (by omega), _, _, _, _, _, _, t :: Dn :: A, rfl, fun b o n e => ?_, upd_same, ?_, by simp [k4], fun b hb => ?_, fun m hm => ?_, fun b hb => ?_⟩
        · rw [upd_ne n]
          exact s4 _ _ (k1 _ _ n e)
        · rw [take_snoc hi]
          exact p2
        · have fr : ∀ b, G2 b = none → H b = none := fun b e => by
            cases q : H b with
            | none => rfl
            | some o =>
              have n1 : b ≠ O := fun z => by rw [z, nO] at q; cases q
              by_cases c : b = D
              · rw [c, hdG] at e
                cases e
              · have z := k1 b o n1 (by rw [upd_ne c]; exact q)
                rw [e] at z
                cases z
          rcases List.mem_cons.mp hb with rfl | hb
          · exact fr _ nt2
          · rcases List.mem_cons.mp hb with rfl | hb
            · exact fr _ nD2
            · exact k5 b hb
        · rw [take_snoc hi] at hm
          rcases List.mem_append.mp hm with hm | hm
          · obtain ⟨t', d', q1, q2, q3, q4, q5, q6⟩ := k6 m hm
            refine ⟨t', d', ?_, ?_, ?_, by simp [q4], by simp [q5], q6⟩
            · rw [valV_put, if_neg (fun z => hnew m hm (by injection z))]
              exact q1
            · rw [upd_ne (ne_of q2 k2 (by intro z; cases z))]
              exact s4 _ _ q2
            · rw [upd_ne q6]
              exact s4 _ _ q3
          · obtain rfl : m = i := by simpa using hm
            refine ⟨t, Dn, ?_, ?_, ?_, by simp, by simp, nDO⟩
            · rw [valV_put, if_pos rfl]
            · rw [upd_ne ntO]
              exact ht4
            · rw [upd_ne nDO]
              exact hDn4
        · by_cases c : b = O
          · rw [c]
            exact ⟨_, upd_same, fun _ z => nomatch z⟩
          · rw [upd_ne c]
            rcases List.mem_cons.mp hb with rfl | hb
            · exact ⟨_, ht4, fun _ z => nomatch z⟩
            · rcases List.mem_cons.mp hb with rfl | hb
              · exact ⟨_, hDn4, fun _ z => nomatch z⟩
              · obtain ⟨o, e1, e2⟩ := k7 b hb
                exact ⟨o, s4 _ _ e1, e2⟩
    rintro σ G ⟨x2, x3, x4, x5, x6, kv2, A, rfl, k1, k2, k3, k4, k5, k6, k7⟩
    rw [hlen, List.take_length] at k3 k6
    refine ⟨k1 _ _ nOD upd_same, V.ref O, rfl, kk _ O kv2 A (fun b o e => ?_) k5 ⟨?_, k4, k3, hRu.nd, hRu.mem, hRu.inj, fun i hi => ?_, fun b hb => ?_⟩⟩
    · have n1 : b ≠ O := fun z => by rw [z, nO] at e; cases e
      by_cases c : b = D
      · rw [c, upd_same]
        rw [c, hD] at e
        exact e
      · rw [upd_ne c]
        exact k1 _ _ n1 (by rw [upd_ne c]; exact e)
    · rw [upd_ne (Ne.symm nOD)]
      exact k2
    · obtain ⟨t, d, q1, q2, q3, q4, q5, q6⟩ := k6 i ((hRu.mem i).mpr hi)
      have nA : ∀ b ∈ A, b ≠ D := fun b hb z => by
        have := k5 b hb
        rw [z, hD] at this
        cases this
      exact ⟨t, d, q1, by rw [upd_ne (nA t q4)]; exact q2, by rw [upd_ne (nA d q5)]; exact q3, q4, q5, q6⟩
    · have nb : b ≠ D := fun z => by
        have := k5 b hb
        rw [z, hD] at this
        cases this
      rw [upd_ne nb]
      exact k7 b hb
end
end SK
namespace SK
open PySem PySem.Spec PyProof.Rows L2 LamX NdefX
open K0 (De DeAll XCl spX withX)
/-! ### the parts of a rule -/
theorem rIx_rows {K : PySem.W.Frag} {H : Hp} {a : Addr} {xs : List V} {j : Nat} {x : V} {Q : VK} (h : Rows H a xs) (hx : xs[j]? = some x) (q : Q x H) : rIx K (.ref a) (.int (j : Nat)) H Q := by
  rcases h with h | h
  · exact .inl ⟨a, xs, _, x, rfl, rfl, .inl (.inl h), atI_nat hx, q⟩
  · exact .inr (.inl ⟨a, xs, _, x, rfl, rfl, .inl (.inl h), atI_nat hx, q⟩)
def spParts : Sp := fun vs H Q _ => ∃ (D : Addr) (al : List Nat) (nm : Nat → Str) (R : RuleT) (i : Nat) (kvs : List (Key × V)) (x : V), vs = [.ref D, .str (nm i)] ∧ GoodR al R ∧ (R i).parts.length ≤ 100 ∧ Rd H D (.dK kvs) ∧ valV kvs (.inr (nm i)) = some x ∧ RuleV H nm D (R i) x ∧
  ∀ (H' : Hp) (p : Addr), Same H H' → H p = none → H' p = some (.lst ((R i).parts.map fun q => V.str (nm q.2))) → Q (.ref p) H'
section
variable {P : Program} {w : World} {K : PySem.W.Frag} {mg : Str → Option Value} {base : Heap} {f : Addr} {fd : FuncData}
theorem ok_parts (F : Fun K "parts_of" "parts_of" (top 51) f fd) : FnOk P w K mg base CX0 1 f fd ["rules", "name"] spParts := by
  have S0 : FnScope ["rules", "name", "parts", "letter"] ["rules", "name"] (defScope (top 51)) := ⟨rfl, rfl, rfl, by decide +kernel, rfl, by decide +kernel, by decide +kernel⟩
  have nd := S0.nd
  refine F.ok S0 (fun vs H Q E h => ?_) (fun cdv A outer s H vs Q E hr h => ?_)
  · obtain ⟨D, al, nm, R, i, kvs, x, rfl, _⟩ := h
    rfl
  · obtain ⟨D, al, nm, R, i, kvs, x, rfl, g, hpl, hD, hx, ⟨a, d, rfl, hrow, hd, hdD⟩, kk⟩ := h
    have hu := hu_of hr
    have b1 : (5000 : Nat) < sizeLine := by decide
    refine ⟨_, (pss_cons (ps_set (i := 2) nd rfl (Or.inr rfl) (pe_ix ix_seq (pe_dget hu (pv 0) (pv 1) (fun _ _ => rfl)) pe_int (fun _ _ => rfl)))
        (pss_one (ps_ret (pe_lock (pe_lc (own := [("letter", 3)]) (g := gName 3) (tt := tYes) rfl nd (pi_keys (pv 2)) (blkOk_by (N := ["rules", "name", "parts", "letter"]) (sc := defScope (top 51)) (by decide +kernel)) (fun _ _ _ _ _ => pg_name (i := 3) nd rfl (Or.inl rfl)) (fun _ _ _ _ _ => pts_nil) (fun _ _ _ _ _ => (pe_dget hu (pv 2) (pv 3) (fun _ _ => rfl)))))))), ?_⟩
    refine ⟨V.ref D, rfl, V.str (nm i), rfl, D, .ref a, rfl, .inl ⟨kvs, .inr (nm i), hD, rfl, hx.symm⟩, rIx_rows (j := 2) hrow rfl ?_⟩
    refine ⟨d, .dK (encP nm (R i)), hd, trivial, fun od2 => ⟨V.ref d, rfl, d, od2, rfl, .inl ⟨_, upd_same, fun Dn nD => lcF_keys (ws := (R i).parts) (fun p => sg p.1) nD upd_same (encP_keys nm (R i)) (fun q => .str (nm q.2)) (fun _ => true) (by omega) (fun j p G hp sG A B kA kB => ?_) fun G sG hDn => ?_⟩⟩⟩
    · have hm := List.mem_of_getElem? hp
      have gv : valV (encP nm (R i)) (.inr (sg p.1)) = some (.str (nm p.2)) := by
        rw [encP_get, (lookup_iff (g.nd i)).mpr (show (p.1, p.2) ∈ _ from hm)]
        rfl
      exact ⟨rfl, V.ref d, rfl, V.str (sg p.1), rfl, d, .str (nm p.2), rfl, .inl ⟨_, .inr (sg p.1), .inr ⟨od2, sG _ _ upd_same⟩, rfl, gv.symm⟩, kA rfl⟩
    · have nDd : Dn ≠ d := fun z => by
        rw [z, upd_same] at nD
        cases nD
      rw [filt_all] at hDn
      rw [upd_ne nDd] at nD
      exact ⟨sG _ _ upd_same, kk _ Dn (unlock_same hd sG) nD (by rw [upd_ne nDd]; exact hDn)⟩
end
end SK
namespace SK
open PySem PySem.Spec PyProof.Rows L2 LamX NdefX
open K0 (De DeAll XCl spX withX)
/-! ### names, bottom up -/
theorem users_snoc (R : RuleT) (o : List Nat) (i j : Nat) : users R (o ++ [i]) j = users R o j ++ ((R i).parts.filter fun p => decide (p.2 = j)).map fun _ => i := by
  unfold users
  rw [List.flatMap_append, List.flatMap_cons, List.flatMap_nil, List.append_nil]
theorem users_len (R : RuleT) (j : Nat) : ∀ o : List Nat, (∀ i ∈ o, (R i).parts.length ≤ 100) → (users R o j).length ≤ 100 * o.length
  | [], _ => by simp [users]
  | a :: o, h => by
    have ih := users_len R j o fun i hi => h i (List.mem_cons_of_mem _ hi)
    have e : users R (a :: o) j = (((R a).parts.filter fun p => decide (p.2 = j)).map fun _ => a) ++ users R o j := by
      unfold users
      rw [List.flatMap_cons]
    rw [e, List.length_append, List.length_map, List.length_cons]
    have z := h a (by simp)
    have z2 := List.length_filter_le (fun p : Nat × Nat => decide (p.2 = j)) (R a).parts
    omega
/-- those of the first parts -/
def uF (j i : Nat) (l : List (Nat × Nat)) : List Nat := (l.filter fun p => decide (p.2 = j)).map fun _ => i
theorem uF_snoc (j i : Nat) (l : List (Nat × Nat)) (p : Nat × Nat) : uF j i (l ++ [p]) = uF j i l ++ (if p.2 = j then [i] else []) := by
  unfold uF
  rw [List.filter_append, List.map_append]
  by_cases e : p.2 = j
  · rw [if_pos e, List.filter_cons_of_pos (by simpa using e)]
    rfl
  · rw [if_neg e, List.filter_cons_of_neg (by simpa using e)]
    rfl
theorem uF_len (j i : Nat) (l : List (Nat × Nat)) : (uF j i l).length ≤ l.length := by
  unfold uF
  rw [List.length_map]
  exact List.length_filter_le _ _
theorem few_lt {l : List Nat} {n : Nat} (nd : l.Nodup) (h : ∀ i ∈ l, i < n) : l.length ≤ n := by
  have p : l.Perm ((List.range n).filter fun i => decide (i ∈ l)) := (List.perm_ext_iff_of_nodup nd (List.nodup_range.filter _)).mpr fun i => by
    rw [List.mem_filter, List.mem_range, decide_eq_true_eq]
    exact ⟨fun z => ⟨h i z, z⟩, fun z => z.2⟩
  rw [p.length_eq]
  exact Nat.le_trans (List.length_filter_le _ _) (by rw [List.length_range]; exact Nat.le_refl _)
def nmV (nm : Nat → Str) (l : List Nat) : List V := l.map fun i => V.str (nm i)
theorem nmV_snoc (nm : Nat → Str) (l : List Nat) (i : Nat) : nmV nm (l ++ [i]) = nmV nm l ++ [V.str (nm i)] := List.map_append ..
def spBot : Sp := fun vs H Q _ => ∃ (D : Addr) (al : List Nat) (nm : Nat → Str) (R : RuleT) (n : Nat) (ord : List Nat) (kvs : List (Key × V)), vs = [.ref D] ∧ GoodR al R ∧ (∀ i < n, (R i).parts.length ≤ 100) ∧ n ≤ 1000 ∧ H D = some (.dK kvs) ∧ RulesAt H nm R n ord D kvs ∧
  ∀ (H' : Hp) (p : Addr) (out : List Nat), Same H H' → H' p = some (.lst (nmV nm out)) → out.Nodup → (∀ i, i ∈ out ↔ i < n) → (∀ a i b, out = a ++ i :: b → ∀ q ∈ (R i).parts, q.2 ∈ a) → Q (.ref p) H'
section
variable {P : Program} {w : World} {K : PySem.W.Frag} {mg : Str → Option Value} {base : Heap} {f fP : Addr} {fd fdP : FuncData}
theorem ok_bot (F : Fun K "bottom_up" "bottom_up" (top 52) f fd) (gN : mg "len" = none)
    (gP : mg "parts_of" = some (.ref fP)) (kP : PySem.W.keepIn K (.ref fP) = true) (GP : FnOk P w K mg base CX0 1 fP fdP ["rules", "name"] spParts) (bP : Binds K fdP ["rules", "name"] []) : FnOk P w K mg base CX0 2 f fd ["rules"] spBot := by
  have S0 : FnScope ["rules", "name", "users", "lacking", "parts", "part", "ready", "out", "user"] ["rules"] (defScope (top 52)) := ⟨rfl, rfl, rfl, by decide +kernel, rfl, by decide +kernel, by decide +kernel⟩
  have nd := S0.nd
  refine F.ok S0 (fun vs H Q E h => ?_) (fun cdv A outer s H vs Q E hr h => ?_)
  · obtain ⟨D, al, nm, R, n, ord, kvs, rfl, _⟩ := h
    rfl
  · obtain ⟨D, al, nm, R, n, ord, kvs, rfl, g, hpl, hn, hD, hRu, kk⟩ := h
    have hu := hu_of hr
    have hr1 : Room 1 _ := hr.mono (by decide)
    have b1 : (200000 : Nat) < sizeLine := by decide
    have hlen : kvs.length = ord.length := hRu.len
    have holen := hRu.olen
    have hmem : ∀ {j i : Nat}, ord[j]? = some i → i < n := fun h => (hRu.mem _).mp (List.mem_of_getElem? h)
    have hnew : ∀ {j i : Nat}, ord[j]? = some i → ∀ m ∈ ord.take j, nm m ≠ nm i := fun {j i} hi m hm e => by
      have hmn : m < n := (hRu.mem m).mp (List.mem_of_mem_take hm)
      have e2 := hRu.inj m hmn i (hmem hi) e
      subst e2
      obtain ⟨q, hq⟩ := List.mem_iff_getElem?.mp hm
      have hqj : q < j := by
        have z := (List.getElem?_eq_some_iff.mp hq).1
        rw [List.length_take] at z
        omega
      rw [List.getElem?_take_of_lt hqj] at hq
      exact absurd ((List.getElem?_inj (List.getElem?_eq_some_iff.mp hq).1 hRu.nd).mp (hq.trans hi.symm)) (by omega)
    refine ⟨_, (pss_cons (ps_lock (ps_setDc (i := 2) (own := [("name", 1)]) (g := gName 1) (tt := tYes) rfl nd rfl rfl (swD_true rfl rfl rfl (by decide +kernel)) (pi_keys (pv 0)) (blkOk_by (N := ["rules", "name", "users", "lacking", "parts", "part", "ready", "out", "user"]) (sc := defScope (top 52)) (by decide +kernel)) (fun _ _ _ _ _ => (pg_name (i := 1) nd rfl (Or.inl rfl))) (fun _ _ _ _ _ => pts_nil) (fun _ _ _ _ _ => (pv 1)) (fun _ _ _ _ _ => (pe_lst pa_nil))))
        (pss_cons (ps_set (i := 3) nd rfl (Or.inr rfl) pe_dnewK)
        (pss_cons (ps_lock (ps_for PassesOwn.never rfl (pi_keys (pv 0)) (pg_name (i := 1) nd rfl (Or.inl rfl)) (pss_cons (ps_set (i := 4) nd rfl (Or.inl rfl) (pe_call GP hr (by rfl) gP kP bP .nil pass0 (pa_cons (pv 0) (pa_cons (pv 1) pa_nil))))
        (pss_cons (ps_dput hu (pv 3) (pv 1) (pe_callB call_len_seq (by rfl) gN PySem.boot_len (pa_cons (pv 4) pa_nil)) rfl)
        (pss_one (ps_for PassesOwn.never rfl (pi_list (pv 4)) (pg_name (i := 5) nd rfl (Or.inl rfl)) (pss_one (ps_expr (pe_bm PySem.F.plainAttrs_list PySem.F.slot_list_append PySem.F.type_list_append mt_append (pe_dget hu (pv 2) (pv 5) (fun _ _ => rfl)) (pa_cons (pv 1) pa_nil))))))))))
        (pss_cons (ps_lock (ps_setLc (i := 6) (own := [("name", 1)]) (g := gName 1) rfl nd rfl rfl (sw_true rfl rfl rfl (by decide +kernel)) (pi_keys (pv 0)) (blkOk_by (N := ["rules", "name", "users", "lacking", "parts", "part", "ready", "out", "user"]) (sc := defScope (top 52)) (by decide +kernel)) (fun _ _ _ _ _ => pg_name (i := 1) nd rfl (Or.inl rfl)) (fun _ _ _ _ _ => (pts_one (pt_cmpR op_eq (pe_dget hu (pv 3) (pv 1) (fun _ _ => rfl)) pe_int (nomark _)))) (fun _ _ _ _ _ => (pv 1))))
        (pss_cons (ps_set (i := 7) nd rfl (Or.inl rfl) (pe_lst pa_nil))
        (pss_cons (ps_while PassesOwn.never (pt_truth (pv 6) (fun _ => rfl)) (pss_cons (ps_set (i := 1) nd rfl (Or.inl rfl) (pe_bm0 PySem.F.plainAttrs_list PySem.F.slot_list_pop PySem.F.type_list_pop mt_pop (pv 6)))
        (pss_cons (ps_expr (pe_bm PySem.F.plainAttrs_list PySem.F.slot_list_append PySem.F.type_list_append mt_append (pv 7) (pa_cons (pv 1) pa_nil)))
        (pss_one (ps_for PassesOwn.never rfl (pi_list (pe_dget hu (pv 2) (pv 1) (fun _ _ => rfl))) (pg_name (i := 8) nd rfl (Or.inl rfl)) (pss_cons (ps_daug hu (pv 3) (pv 8) pe_int in_sub (fun _ _ _ => rfl))
        (pss_one (ps_if (pt_cmpR op_eq (pe_dget hu (pv 3) (pv 8) (fun _ _ => rfl)) pe_int (nomark _)) (pss_one (ps_expr (pe_bm PySem.F.plainAttrs_list PySem.F.slot_list_append PySem.F.type_list_append mt_append (pv 6) (pa_cons (pv 8) pa_nil)))) pss_nil))))))))
        (pss_one (ps_ret (pv 7))))))))), ?_⟩
    -- users
    refine ⟨D, .dK kvs, hD, trivial, fun od => ⟨V.ref D, rfl, D, od, rfl, .inl ⟨kvs, upd_same, fun U nU => dc_it (walk_keys (d := D) (o := od) (kvs := kvs)) (fun j G => Same (upd H D (.frz od (.dK kvs))) G ∧ ∃ (kvU : List (Key × V)) (La : Nat → Addr), G U = some (.dK kvU) ∧ kvU.map Prod.fst = (ord.take j).map (fun i => (Sum.inr (nm i) : Key)) ∧
        ∀ i ∈ ord.take j, valV kvU (.inr (nm i)) = some (.ref (La i)) ∧ G (La i) = some (.lst []) ∧ H (La i) = none ∧ La i ≠ U ∧ La i ≠ D ∧ ∀ m ∈ ord.take j, La m = La i → m = i)
      ⟨upd_new nU, [], fun _ => D, upd_same, rfl, fun i hi => by simp at hi⟩ (fun j G _ q => q.1 _ _ upd_same) ?_ ?_⟩⟩⟩
    · rintro j x G G2 hj ⟨sG, kvU, La, k1, k2, k3⟩ ⟨rfl, k, vv, hkv, rfl⟩
      obtain ⟨i, hi, hin, rfl⟩ := hRu.at_ hkv
      refine ⟨rfl, V.str (nm i), rfl, (by show 0 ≤ sizeLine; decide), fun q nq => ?_⟩
      have s2 := upd_new (o := .lst []) nq
      have hq2 : upd G2 q (.lst []) q = some (.lst []) := upd_same
      have nqU : q ≠ U := fun z => by rw [z, k1] at nq; cases nq
      have nqD : q ≠ D := fun z => by
        have e := sG _ _ upd_same
        rw [← z, nq] at e
        cases e
      have nqH : H q = none := by
        have e := sG.free nq
        rw [upd_ne nqD] at e
        exact e
      have k1' := s2 _ _ k1
      obtain ⟨p1, p2⟩ := keys_snoc (x := .ref q) k2 (hnew hi)
      have kl : kvU.length ≤ n := by
        have z := congrArg List.length k2
        rw [List.length_map, List.length_map, List.length_take] at z
        omega
      have hold : ∀ m ∈ ord.take j, La m ≠ q := fun m hm z => by
        obtain ⟨_, e, _⟩ := k3 m hm
        rw [z, nq] at e
        cases e
      have hni : i ∉ ord.take j := fun z => hnew hi i z rfl
      generalize upd G2 q (.lst []) = G3 at s2 hq2 k1'
      refine ⟨kvU, .inr (nm i), rfl, k1', by omega, fun b o e => ?_, putK kvU (.inr (nm i)) (.ref q), fun m => if m = i then q else La m, upd_same, by rw [take_snoc hi]; exact p2, fun m hm => ?_⟩
      · rw [upd_ne (ne_of_none e nU)]
        exact s2 _ _ (sG _ _ e)
      · rw [take_snoc hi] at hm
        rcases List.mem_append.mp hm with hm | hm
        · have ne : m ≠ i := fun z => hni (z ▸ hm)
          obtain ⟨q1, q2, q3, q4, q5, q6⟩ := k3 m hm
          simp only [if_neg ne]
          refine ⟨?_, ?_, q3, q4, q5, fun m' hm' z => ?_⟩
          · rw [valV_put, if_neg (fun z => hnew hi m hm (by injection z))]
            exact q1
          · rw [upd_ne q4]
            exact s2 _ _ q2
          · rw [take_snoc hi] at hm'
            by_cases c : m' = i
            · rw [if_pos c] at z
              exact absurd z.symm (hold m hm)
            · rw [if_neg c] at z
              rcases List.mem_append.mp hm' with hm' | hm'
              · exact q6 m' hm' z
              · exact absurd (by simpa using hm') c
        · obtain rfl : m = i := by simpa using hm
          simp only [if_true]
          refine ⟨?_, ?_, nqH, nqU, nqD, fun m' hm' z => ?_⟩
          · rw [valV_put, if_pos rfl]
          · rw [upd_ne nqU]
            exact hq2
          · by_cases c : m' = m
            · exact c
            · rw [if_neg c] at z
              rw [take_snoc hi] at hm'
              rcases List.mem_append.mp hm' with hm' | hm'
              · exact absurd z (hold m' hm')
              · exact absurd (by simpa using hm') c
    rintro G ⟨sG, kvU, La, k1, k2, k3⟩
    rw [hlen, List.take_length] at k2 k3
    have nUD : U ≠ D := fun z => by rw [z, upd_same] at nU; cases nU
    have nUH : H U = none := by
      rw [upd_ne nUD] at nU
      exact nU
    refine ⟨sG _ _ upd_same, ?_⟩
    have s1 : Same H (upd G D (.dK kvs)) := unlock_same hD sG
    have kU : ∀ i < n, valV kvU (.inr (nm i)) = some (.ref (La i)) ∧ upd G D (.dK kvs) (La i) = some (.lst []) ∧ H (La i) = none ∧ La i ≠ U ∧ ∀ m < n, La m = La i → m = i := fun i hi => by
      obtain ⟨q1, q2, q3, q4, q5, q6⟩ := k3 i ((hRu.mem i).mpr hi)
      exact ⟨q1, by rw [upd_ne q5]; exact q2, q3, q4, fun m hm => q6 m ((hRu.mem m).mpr hm)⟩
    have hU1 : upd G D (.dK kvs) U = some (.dK kvU) := by
      rw [upd_ne nUD]
      exact k1
    clear k3 k1 sG
    generalize upd G D (.dK kvs) = H1 at s1 kU hU1
    -- what is lacking
    intro L nL
    have nLH : H L = none := by
      cases e : H L with
      | none => rfl
      | some o =>
        rw [s1 _ _ e] at nL
        cases nL
    have nLU : L ≠ U := fun z => by rw [z, hU1] at nL; cases nL
    have nLD : L ≠ D := fun z => by rw [z, hD] at nLH; cases nLH
    have nLa : ∀ i < n, La i ≠ L := fun i hi z => by
      obtain ⟨_, q2, _⟩ := kU i hi
      rw [z, nL] at q2
      cases q2
    have nDa : ∀ i < n, La i ≠ D := fun i hi z => by
      obtain ⟨_, _, q3, _⟩ := kU i hi
      rw [z, hD] at q3
      cases q3
    have hD2 : upd H1 L (.dK []) D = some (.dK kvs) := by
      rw [upd_ne (Ne.symm nLD)]
      exact s1 _ _ hD
    have len_of : ∀ {kv : List (Key × V)} {l : List Nat}, kv.map Prod.fst = l.map (fun i => (Sum.inr (nm i) : Key)) → kv.length = l.length := fun h => by
      have z := congrArg List.length h
      rwa [List.length_map, List.length_map] at z
    refine ⟨D, .dK kvs, hD2, trivial, fun od => ⟨V.ref D, rfl, D, od, rfl, .inl ⟨kvs, upd_same, for_it (walk_keys (d := D) (o := od) (kvs := kvs)) (fun j σ G => ∃ (x1 x4 x5 x6 x7 x8 : Option V) (kvL : List (Key × V)), σ = [some (.ref D), x1, some (.ref U), some (.ref L), x4, x5, x6, x7, x8] ∧
        (∀ b o, b ≠ L → (∀ i < n, b ≠ La i) → upd H1 D (.frz od (.dK kvs)) b = some o → G b = some o) ∧ G L = some (.dK kvL) ∧ kvL.map Prod.fst = (ord.take j).map (fun i => (Sum.inr (nm i) : Key)) ∧
        (∀ i ∈ ord.take j, valV kvL (.inr (nm i)) = some (.int ((R i).parts.length : Nat))) ∧ ∀ i < n, G (La i) = some (.lst (nmV nm (users R (ord.take j) i))))
      ⟨none, none, none, none, none, none, [], rfl, fun b o n1 n2 e => ?_, ?_, rfl, fun i hi => by simp at hi, fun i hi => ?_⟩ (fun j σ G _ q => ?_) ?_ ?_⟩⟩⟩
    · by_cases e2 : b = D
      · rw [e2] at e ⊢
        rw [upd_same] at e ⊢
        exact e
      · rw [upd_ne e2] at e ⊢
        rw [upd_ne n1]
        exact e
    · rw [upd_ne nLD]
      exact upd_same
    · rw [upd_ne (nDa i hi), upd_ne (nLa i hi)]
      exact (kU i hi).2.1
    · obtain ⟨_, _, _, _, _, _, _, _, q1, _⟩ := q
      exact q1 _ _ (Ne.symm nLD) (fun i hi => Ne.symm (nDa i hi)) upd_same
    · rintro j x σ G G2 hj ⟨x1, x4, x5, x6, x7, x8, kvL, rfl, k1, k2, k3, k4, k5⟩ ⟨rfl, k, vv, hkv, rfl⟩
      obtain ⟨i, hi, hin, rfl⟩ := hRu.at_ hkv
      obtain ⟨x, hx, hrv⟩ := hRu.vs i hin
      have hdG : G2 D = some (.frz od (.dK kvs)) := k1 _ _ (Ne.symm nLD) (fun i hi => Ne.symm (nDa i hi)) upd_same
      have hUG : G2 U = some (.dK kvU) := k1 _ _ (Ne.symm nLU) (fun i hi => Ne.symm (kU i hi).2.2.2.1) (by rw [upd_ne nUD]; exact hU1)
      have hrvG : RuleV G2 nm D (R i) x := hrv.but hD fun b o nb e => k1 b o (fun z => by rw [z, nLH] at e; cases e) (fun m hm z => by rw [z, (kU m hm).2.2.1] at e; cases e) (by rw [upd_ne nb]; exact s1 _ _ e)
      refine ⟨V.ref D, rfl, V.str (nm i), rfl, D, al, nm, R, i, kvs, x, rfl, g, hpl i hin, .inr ⟨od, hdG⟩, hx, hrvG, fun G3 p s3 np hp => ?_⟩
      have hL3 := s3 _ _ k2
      have npL : p ≠ L := fun z => by rw [z, k2] at np; cases np
      have npa : ∀ m < n, La m ≠ p := fun m hm z => by
        have e := k5 m hm
        rw [z, np] at e
        cases e
      obtain ⟨p1, p2⟩ := keys_snoc (x := .int ((R i).parts.length : Nat)) k3 (hnew hi)
      have kl : kvL.length ≤ n := by
        have z := len_of k3
        rw [List.length_take] at z
        omega
      refine ⟨V.ref p, rfl, p, _, rfl, .inl (.inl (.inl hp)), V.ref L, rfl, V.str (nm i), rfl, L, _, rfl, DPut.k (k := .inr (nm i)) hL3 (by omega), ?_⟩
      rw [List.length_map]
      have hp4 : upd G3 L (.dK (putK kvL (.inr (nm i)) (.int ((R i).parts.length : Nat)))) p = some (.lst ((R i).parts.map fun q => V.str (nm q.2))) := by
        rw [upd_ne npL]
        exact hp
      have hpl' := hpl i hin
      refine ⟨V.ref p, rfl, p, rfl, ⟨_, .inl (.inl hp4)⟩, for_it (walk_list (K := K) (xs := (R i).parts.map fun q => V.str (nm q.2))) (fun m σ G => ∃ x5 : Option V, σ = [some (.ref D), some (.str (nm i)), some (.ref U), some (.ref L), some (.ref p), x5, x6, x7, x8] ∧
          (∀ b o, b ≠ L → (∀ i < n, b ≠ La i) → upd H1 D (.frz od (.dK kvs)) b = some o → G b = some o) ∧ G p = some (.lst ((R i).parts.map fun q => V.str (nm q.2))) ∧ G L = some (.dK (putK kvL (.inr (nm i)) (.int ((R i).parts.length : Nat)))) ∧
          ∀ m' < n, G (La m') = some (.lst (nmV nm (users R (ord.take j) m' ++ uF m' i ((R i).parts.take m)))))
        ⟨x5, rfl, fun b o n1 n2 e => ?_, hp4, upd_same, fun m hm => ?_⟩ (fun m σ G _ q => ?_) ?_ ?_⟩
      · rw [upd_ne n1]
        exact s3 _ _ (k1 b o n1 n2 e)
      · rw [upd_ne (nLa m hm), s3 _ _ (k5 m hm)]
        simp [uF]
      · obtain ⟨_, _, _, q, _⟩ := q
        exact .inl (.inl q)
      · rintro m y σ G G' hm ⟨y5, rfl, i1, i2, i3, i4⟩ ⟨rfl, hy⟩
        obtain ⟨q, hq, rfl⟩ := map_at hy
        have hqm := List.mem_of_getElem? hq
        have hqn : q.2 < n := Nat.lt_trans (g.dn i q hqm) hin
        have hU' : G' U = some (.dK kvU) := i1 _ _ (Ne.symm nLU) (fun i hi => Ne.symm (kU i hi).2.2.2.1) (by rw [upd_ne nUD]; exact hU1)
        obtain ⟨u1, u2, u3, u4, u5⟩ := kU q.2 hqn
        have hz : (nmV nm (users R (ord.take j) q.2 ++ uF q.2 i ((R i).parts.take m))).length < sizeLine := by
          unfold nmV
          rw [List.length_map, List.length_append]
          have z1 := users_len R q.2 (ord.take j) (fun i hi => hpl i ((hRu.mem i).mp (List.mem_of_mem_take hi)))
          have z2 := uF_len q.2 i ((R i).parts.take m)
          have z3 : ((R i).parts.take m).length ≤ 100 := by rw [List.length_take]; omega
          have z4 : (ord.take j).length ≤ 1000 := by rw [List.length_take]; omega
          omega
        refine ⟨V.ref U, rfl, V.str (nm q.2), rfl, U, .ref (La q.2), rfl, .inl ⟨kvU, .inr (nm q.2), .inl hU', rfl, u1.symm⟩, .inl ⟨rfl, _, .inl (.inl (i4 q.2 hqn))⟩, V.str (nm i), rfl, La q.2, _, _, rfl, rfl, i4 q.2 hqn, hz, _, rfl, fun b o n1 n2 e => ?_, ?_, ?_, fun m' hm' => ?_⟩
        · rw [upd_ne (n2 q.2 hqn)]
          exact i1 b o n1 n2 e
        · rw [upd_ne (Ne.symm (npa q.2 hqn))]
          exact i2
        · rw [upd_ne (Ne.symm (nLa q.2 hqn))]
          exact i3
        · rw [take_snoc hq, uF_snoc]
          by_cases c : q.2 = m'
          · subst c
            rw [if_pos rfl, ← List.append_assoc, nmV_snoc]
            exact upd_same
          · rw [if_neg c, List.append_nil, upd_ne (fun z => c ((u5 m' hm' z).symm))]
            exact i4 m' hm'
      · rintro σ G4 ⟨y5, rfl, i1, i2, i3, i4⟩
        rw [List.length_map, List.take_length] at i4
        refine ⟨_, _, _, _, _, _, _, rfl, i1, i3, by rw [take_snoc hi]; exact p2, fun m hm => ?_, fun m hm => ?_⟩
        · rw [take_snoc hi] at hm
          rcases List.mem_append.mp hm with hm | hm
          · rw [valV_put, if_neg (fun z => hnew hi m hm (by injection z))]
            exact k4 m hm
          · obtain rfl : m = i := by simpa using hm
            rw [valV_put, if_pos rfl]
        · rw [take_snoc hi, users_snoc]
          exact i4 m hm
    rintro σ G ⟨x1, x4, x5, x6, x7, x8, kvL, rfl, k1, k2, k3, k4, k5⟩
    rw [hlen, List.take_length] at k3 k4 k5
    refine ⟨k1 _ _ (Ne.symm nLD) (fun i hi => Ne.symm (nDa i hi)) upd_same, ?_⟩
    have frm : ∀ b o, b ≠ L → (∀ i < n, b ≠ La i) → H1 b = some o → upd G D (.dK kvs) b = some o := fun b o n1 n2 e => by
      by_cases c : b = D
      · rw [c, upd_same]
        rw [c, s1 _ _ hD] at e
        exact e
      · rw [upd_ne c]
        exact k1 b o n1 n2 (by rw [upd_ne c]; exact e)
    have hD5 : upd G D (.dK kvs) D = some (.dK kvs) := upd_same
    have hL5 : upd G D (.dK kvs) L = some (.dK kvL) := by
      rw [upd_ne nLD]
      exact k2
    have hU5 : upd G D (.dK kvs) U = some (.dK kvU) := frm _ _ (Ne.symm nLU) (fun i hi => Ne.symm (kU i hi).2.2.2.1) hU1
    have ha5 : ∀ i < n, upd G D (.dK kvs) (La i) = some (.lst (nmV nm (users R ord i))) := fun i hi => by
      rw [upd_ne (nDa i hi)]
      exact k5 i hi
    have s5 : Same H (upd G D (.dK kvs)) := fun b o e => frm b o (fun z => by rw [z, nLH] at e; cases e) (fun m hm z => by rw [z, (kU m hm).2.2.1] at e; cases e) (s1 _ _ e)
    clear k1 k2 k5 frm
    generalize upd G D (.dK kvs) = H5 at hD5 hL5 hU5 ha5 s5
    have kL : ∀ i < n, valV kvL (.inr (nm i)) = some (.int ((R i).parts.length : Nat)) := fun i hi => k4 i ((hRu.mem i).mpr hi)
    -- those that are ready
    refine ⟨D, .dK kvs, hD5, trivial, fun od2 => ⟨V.ref D, rfl, D, od2, rfl, .inl ⟨kvs, upd_same, fun Rd0 nR => lcF_keys (ws := ord) nm nR upd_same hRu.ks (fun i => .str (nm i)) (fun i => decide ((R i).parts.length = 0)) (by omega) (fun j i G hi sG A B kA kB => ?_) fun G sG hRd => ?_⟩⟩⟩
    · have hLG : G L = some (.dK kvL) := sG _ _ (by rw [upd_ne nLD]; exact hL5)
      have dg := DGet.k (k := (.inr (nm i) : Key)) hLG
      rw [kL i (hmem hi)] at dg
      refine ⟨rfl, V.ref L, rfl, V.str (nm i), rfl, L, _, rfl, dg, rfl, _, rfl, ?_⟩
      by_cases c : (R i).parts.length = 0
      · have c2 : decide (V.int ((R i).parts.length : Nat) = V.int 0) = true := decide_eq_true (by rw [c]; rfl)
        rw [c2]
        exact ⟨V.str (nm i), rfl, kA (decide_eq_true c)⟩
      · have c2 : decide (V.int ((R i).parts.length : Nat) = V.int 0) = false := decide_eq_false fun z => c (by injection z with z; omega)
        rw [c2]
        exact kB (decide_eq_false c)
    have nRD : Rd0 ≠ D := fun z => by rw [z, upd_same] at nR; cases nR
    have nR5 : H5 Rd0 = none := by
      rw [upd_ne nRD] at nR
      exact nR
    refine ⟨sG _ _ upd_same, ?_⟩
    have s56 : Same H5 (upd G D (.dK kvs)) := unlock_same hD5 sG
    have hR6 : upd G D (.dK kvs) Rd0 = some (.lst (nmV nm (ord.filter fun i => decide ((R i).parts.length = 0)))) := by
      rw [upd_ne nRD]
      exact hRd
    clear hRd sG
    generalize upd G D (.dK kvs) = H6 at s56 hR6
    refine ⟨Nat.zero_le _, fun Ot nOt => ?_⟩
    have nO5 : H5 Ot = none := by
      cases e : H5 Ot with
      | none => rfl
      | some o =>
        rw [s56 _ _ e] at nOt
        cases nOt
    have nRO : Rd0 ≠ Ot := fun z => by rw [← z, hR6] at nOt; cases nOt
    have nn : ∀ {b : Addr} {o : HO}, H5 b = some o → b ≠ Rd0 ∧ b ≠ Ot := fun e => ⟨fun z => (by rw [z, nR5] at e; cases e), fun z => (by rw [z, nO5] at e; cases e)⟩
    have kst := Kahn.start (R := R) hRu.nd hRu.mem (fun i => (R i).parts.length) (fun i _ => rfl)
    have keyL : kvL.map Prod.fst = ord.map fun i => (Sum.inr (nm i) : Key) := k3
    refine ⟨fun m σ G => ∃ (y1 y4 y5 y8 : Option V) (out ready : List Nat) (lack : Nat → Nat) (kv : List (Key × V)), σ = [some (.ref D), y1, some (.ref U), some (.ref L), y4, y5, some (.ref Rd0), some (.ref Ot), y8] ∧ m = n - out.length ∧ Kahn R n out ready [] lack ∧
        (∀ b o, b ≠ L → b ≠ Rd0 → b ≠ Ot → H5 b = some o → G b = some o) ∧ G L = some (.dK kv) ∧ Keys kv (ord.map nm) ∧ (∀ i < n, valV kv (.inr (nm i)) = some (.int (lack i : Nat))) ∧ G Rd0 = some (.lst (nmV nm ready)) ∧ G Ot = some (.lst (nmV nm out)),
      ⟨n, x1, x4, x5, x8, [], _, _, kvL, rfl, rfl, kst, fun b o n1 n2 n3 e => ?_, ?_, ?_, kL, ?_, upd_same⟩, ?_⟩
    · rw [upd_ne n3]
      exact s56 _ _ e
    · rw [upd_ne (nn hL5).2]
      exact s56 _ _ hL5
    · unfold Keys
      rw [keyL, List.map_map]
      rfl
    · rw [upd_ne nRO]
      exact hR6
    rintro m σ G ⟨y1, y4, y5, y8, out, ready, lack, kv, rfl, hm, ka, i1, i2, i3, i4, i5, i6⟩
    refine ⟨V.ref Rd0, rfl, !(nmV nm ready).isEmpty, .inl ⟨_, .inl (.inl i5), rfl⟩, ?_⟩
    rcases List.eq_nil_or_concat ready with rfl | ⟨r', jj, rfl⟩
    · refine ⟨V.ref Ot, rfl, kk G Ot out (fun b o e => ?_) i6 (by simpa using ka.nd) (fun i => ⟨fun h => ka.lt i (by simp [h]), ka.done g i⟩) ka.ok⟩
      have e5 := s5 _ _ e
      obtain ⟨z1, z2⟩ := nn e5
      exact i1 b o (fun z => by rw [z, nLH] at e; cases e) z1 z2 e5
    rw [List.concat_eq_append] at ka i5 ⊢
    have hne : (!(nmV nm (r' ++ [jj])).isEmpty) = true := by
      rw [nmV_snoc]
      simp
    rw [hne]
    refine ⟨_, fun σ' H' q => q, ?_⟩
    have hjn : jj < n := ka.lt jj (by simp)
    have few := few_lt ka.nd ka.lt
    rw [List.length_append, List.length_append] at few
    have few : out.length + (r'.length + 1) ≤ n := few
    have eL : (nmV nm (r' ++ [jj]))[(nmV nm (r' ++ [jj])).length - 1]? = some (.str (nm jj)) := by
      rw [nmV_snoc]
      simp
    have eD : (nmV nm (r' ++ [jj])).dropLast = nmV nm r' := by
      rw [nmV_snoc]
      simp
    refine ⟨V.ref Rd0, rfl, .inl ⟨rfl, _, .inl (.inl i5)⟩, Rd0, _, _, rfl, rfl, i5, eL, ?_⟩
    rw [eD]
    have i6' : upd G Rd0 (.lst (nmV nm r')) Ot = some (.lst (nmV nm out)) := by
      rw [upd_ne (Ne.symm nRO)]
      exact i6
    refine ⟨V.ref Ot, rfl, .inl ⟨rfl, _, .inl (.inl i6')⟩, V.str (nm jj), rfl, Ot, _, _, rfl, rfl, i6', (by unfold nmV; rw [List.length_map]; omega), ?_⟩
    rw [← nmV_snoc]
    have kp := ka.pop hRu.nd hRu.mem
    obtain ⟨u1, _, _, u4, _⟩ := kU jj hjn
    have frm : ∀ b o, b ≠ L → b ≠ Rd0 → b ≠ Ot → H5 b = some o → upd (upd G Rd0 (.lst (nmV nm r'))) Ot (.lst (nmV nm (out ++ [jj]))) b = some o := fun b o n1 n2 n3 e => by
      rw [upd_ne n3, upd_ne n2]
      exact i1 b o n1 n2 n3 e
    have hL7 : upd (upd G Rd0 (.lst (nmV nm r'))) Ot (.lst (nmV nm (out ++ [jj]))) L = some (.dK kv) := by
      rw [upd_ne (nn hL5).2, upd_ne (nn hL5).1]
      exact i2
    have hR7 : upd (upd G Rd0 (.lst (nmV nm r'))) Ot (.lst (nmV nm (out ++ [jj]))) Rd0 = some (.lst (nmV nm r')) := by
      rw [upd_ne nRO]
      exact upd_same
    have hO7 : upd (upd G Rd0 (.lst (nmV nm r'))) Ot (.lst (nmV nm (out ++ [jj]))) Ot = some (.lst (nmV nm (out ++ [jj]))) := upd_same
    clear i1 i2 i5 i6 i6'
    generalize upd (upd G Rd0 (.lst (nmV nm r'))) Ot (.lst (nmV nm (out ++ [jj]))) = G7 at frm hL7 hR7 hO7
    have hU7 := frm _ _ (Ne.symm nLU) (nn hU5).1 (nn hU5).2 hU5
    have ha7 := frm _ _ (nLa jj hjn) (nn (ha5 jj hjn)).1 (nn (ha5 jj hjn)).2 (ha5 jj hjn)
    refine ⟨V.ref U, rfl, V.str (nm jj), rfl, U, .ref (La jj), rfl, .inl ⟨kvU, .inr (nm jj), .inl hU7, rfl, u1.symm⟩, La jj, rfl, ⟨_, .inl (.inl ha7)⟩, for_it (walk_list (K := K) (xs := nmV nm (users R ord jj))) (fun q σ G => ∃ (y8 : Option V) (ready : List Nat) (lack : Nat → Nat) (kv : List (Key × V)), σ = [some (.ref D), some (.str (nm jj)), some (.ref U), some (.ref L), y4, y5, some (.ref Rd0), some (.ref Ot), y8] ∧
        Kahn R n (out ++ [jj]) ready ((users R ord jj).drop q) lack ∧ (∀ b o, b ≠ L → b ≠ Rd0 → b ≠ Ot → H5 b = some o → G b = some o) ∧ G L = some (.dK kv) ∧ Keys kv (ord.map nm) ∧ (∀ i < n, valV kv (.inr (nm i)) = some (.int (lack i : Nat))) ∧ G Rd0 = some (.lst (nmV nm ready)) ∧ G Ot = some (.lst (nmV nm (out ++ [jj]))))
      ⟨y8, r', lack, kv, rfl, by rw [List.drop_zero]; exact kp, frm, hL7, i3, i4, hR7, hO7⟩ (fun q σ G _ p => ?_) ?_ ?_⟩
    · obtain ⟨_, _, _, _, _, _, p, _⟩ := p
      exact .inl (.inl (p _ _ (nLa jj hjn) (nn (ha5 jj hjn)).1 (nn (ha5 jj hjn)).2 (ha5 jj hjn)))
    · rintro q y σ G G' hq ⟨z8, ready, lack, kv, rfl, ka, i1, i2, i3, i4, i5, i6⟩ ⟨rfl, hy⟩
      obtain ⟨i, hi, rfl⟩ := map_at hy
      have hin : i < n := (hRu.mem i).mp (users_mem (List.mem_of_getElem? hi))
      have edr : (users R ord jj).drop q = i :: (users R ord jj).drop (q + 1) := by
        rw [List.drop_eq_getElem_cons (List.getElem?_eq_some_iff.mp hi).1, (List.getElem?_eq_some_iff.mp hi).2]
      rw [edr] at ka
      have hpos := ka.pos hin
      obtain ⟨o1, o2⟩ := ka.one hin (fun m => if m = i then lack i - 1 else lack m) (by simp) (fun m hm => by simp [hm])
      have dg := DGet.k (k := (.inr (nm i) : Key)) i2
      rw [i4 i hin] at dg
      have kl : kv.length = n := by
        have z := i3.len
        rw [List.length_map, holen] at z
        exact z
      have hiM : nm i ∈ ord.map nm := List.mem_map.mpr ⟨i, (hRu.mem i).mpr hin, rfl⟩
      refine ⟨V.ref L, rfl, V.str (nm i), rfl, L, _, rfl, dg, _, _, rfl, rfl, _, DPut.k (k := .inr (nm i)) i2 (by omega), ?_⟩
      have ez : ((lack i : Nat) : Int) - 1 = ((lack i - 1 : Nat) : Int) := by omega
      rw [ez]
      have j1 : ∀ b o, b ≠ L → b ≠ Rd0 → b ≠ Ot → H5 b = some o → upd G' L (.dK (putK kv (.inr (nm i)) (.int ((lack i - 1 : Nat) : Int)))) b = some o := fun b o n1 n2 n3 e => by
        rw [upd_ne n1]
        exact i1 b o n1 n2 n3 e
      have j2 : upd G' L (.dK (putK kv (.inr (nm i)) (.int ((lack i - 1 : Nat) : Int)))) L = some (.dK (putK kv (.inr (nm i)) (.int ((lack i - 1 : Nat) : Int)))) := upd_same
      have j5 : upd G' L (.dK (putK kv (.inr (nm i)) (.int ((lack i - 1 : Nat) : Int)))) Rd0 = some (.lst (nmV nm ready)) := by
        rw [upd_ne (Ne.symm (nn hL5).1)]
        exact i5
      have j6 : upd G' L (.dK (putK kv (.inr (nm i)) (.int ((lack i - 1 : Nat) : Int)))) Ot = some (.lst (nmV nm (out ++ [jj]))) := by
        rw [upd_ne (Ne.symm (nn hL5).2)]
        exact i6
      have j3 : Keys (putK kv (.inr (nm i)) (.int ((lack i - 1 : Nat) : Int))) (ord.map nm) := i3.put hiM
      have j4 : ∀ m < n, valV (putK kv (.inr (nm i)) (.int ((lack i - 1 : Nat) : Int))) (.inr (nm m)) = some (.int (((fun m => if m = i then lack i - 1 else lack m) m : Nat) : Int)) := fun m hm => by
        rw [valV_put]
        by_cases c : m = i
        · rw [c, if_pos rfl]
          simp
        · have n1 : ¬ (Sum.inr (nm m) : Key) = .inr (nm i) := fun z => c (hRu.inj m hm i hin (by injection z))
          rw [if_neg n1, i4 m hm]
          simp [c]
      have j0 := j4 i hin
      simp only [if_true] at j0
      generalize upd G' L (.dK (putK kv (.inr (nm i)) (.int ((lack i - 1 : Nat) : Int)))) = G9 at j1 j2 j5 j6
      have dg2 := DGet.k (k := (.inr (nm i) : Key)) j2
      rw [j0] at dg2
      refine ⟨V.ref L, rfl, V.str (nm i), rfl, L, _, rfl, dg2, rfl, _, rfl, ?_⟩
      by_cases c : lack i - 1 = 0
      · have c2 : decide (V.int ((lack i - 1 : Nat) : Int) = V.int 0) = true := decide_eq_true (by rw [c]; rfl)
        rw [c2]
        have kz := o1 (by simp [c])
        have few2 := few_lt kz.nd kz.lt
        simp only [List.length_append, List.length_cons, List.length_nil] at few2
        refine iteT ⟨V.ref Rd0, rfl, .inl ⟨rfl, _, .inl (.inl j5)⟩, V.str (nm i), rfl, Rd0, _, _, rfl, rfl, j5, (by unfold nmV; rw [List.length_map]; omega), ?_⟩
        rw [← nmV_snoc]
        refine ⟨_, ready ++ [i], _, _, rfl, kz, fun b o n1 n2 n3 e => ?_, ?_, j3, j4, upd_same, ?_⟩
        · rw [upd_ne n2]
          exact j1 b o n1 n2 n3 e
        · rw [upd_ne (nn hL5).1]
          exact j2
        · rw [upd_ne (Ne.symm nRO)]
          exact j6
      · have c2 : decide (V.int ((lack i - 1 : Nat) : Int) = V.int 0) = false := decide_eq_false fun z => c (by injection z with z; omega)
        rw [c2]
        exact iteF ⟨_, ready, _, _, rfl, o2 (by simp [c]), j1, j2, j3, j4, j5, j6⟩
    · rintro σ G8 ⟨z8, ready, lack, kv, rfl, ka, i1, i2, i3, i4, i5, i6⟩
      have el : (nmV nm (users R ord jj)).length = (users R ord jj).length := List.length_map _
      rw [el, List.drop_length] at ka
      refine ⟨n - (out ++ [jj]).length, ?_, _, _, _, _, out ++ [jj], ready, lack, kv, rfl, rfl, ka, i1, i2, i3, i4, i5, i6⟩
      rw [List.length_append, hm]
      show n - (out.length + 1) < n - out.length
      omega
end
end SK
namespace SK
open PySem PySem.Spec PyProof.Rows L2 LamX NdefX
/-- x.f as one of several targets -/
def gFld (K : PySem.W.Frag) (ta : TE) (f : Str) : TG := fun v σ H Q => ta σ H fun x H2 => ∃ a C dx fs, x = .ref a ∧ H2 a = some (.ins C dx fs) ∧ Cls K C ∧ NoAttr K C f ∧ fs.length < 1000 ∧ Q σ (upd H2 a (.ins C dx (putF f v fs)))
theorem pg_fldT {X : Cx} {o : Expr} {f : Str} {pos : Pos} {ta : TE} (ho : PE X o ta) : PG X (.Attribute o f pos) (gFld X.K ta f) := by
  refine ⟨fun pins s σ H v u Q I r h => ?_⟩
  rw [assign_Attribute]
  refine wpAny_bind (wpAny_holding (thn (ho.run pins s σ H _ I h) fun ov s1 ⟨x, H1, I1, r1, a, C, dx, fs, ex, ea, c, n, l, q⟩ => ?_))
  subst ex
  obtain rfl : ov = Value.ref a := r1
  refine wpAny_bind (wpAny_standAt (wpAny_bind (wpAny_holding (setattr_ok I1 ea c n l r fun s3 I3 => ?_))))
  exact wpAny_release ⟨σ, _, I3, q⟩
open K0 (De DeAll XCl spX withX)
/-! ### a grove is made -/
abbrev gm (i : Nat) : Stmt := inClass (top 58) i
def sev7 : List Str := ["_rules", "_sizes", "_manys", "letters", "root", "size", "many"]
structure GroveK (K : PySem.W.Frag) (C : Addr) : Prop where
  cl : Cls K C
  na : ∀ g ∈ sev7, NoAttr K C g
/-- what is told of the rules -/
structure Told (ls : Str) (nm : Nat → Str) (R : RuleT) (n root : Nat) : Prop where
  L : OkL ls
  lb : okLb ls = true
  asc : ls.cps.all (· < 128) = true ∧ ls.cps.size ≤ 1000
  g : GoodR ls.cps.toList R
  n0 : 1 ≤ n
  n1 : n ≤ 200
  nm : ∀ i < n, nameOk (nm i)
  rt : root < n
structure GrP (K : PySem.W.Frag) (CG : Addr) (H : Hp) (ls : Str) (nm : Nat → Str) (R : RuleT) (n root : Nat) (ord : List Nat) (a dx D Sz My : Addr) (fs : List (Str × V)) (kvs ksz kmy : List (Key × V)) (A : List Addr) : Prop where
  ins : H a = some (.ins CG dx fs)
  aA : a ∈ A
  f1 : fs.lookup ("_rules" : Str) = some (.ref D)
  f2 : fs.lookup ("_sizes" : Str) = some (.ref Sz)
  f3 : fs.lookup ("_manys" : Str) = some (.ref My)
  f4 : fs.lookup ("letters" : Str) = some (.str ls)
  f5 : fs.lookup ("root" : Str) = some (.str (nm root))
  f6 : fs.lookup ("size" : Str) = some (.int (sz R root : Nat))
  f7 : fs.lookup ("many" : Str) = some (.int (mn R root : Nat))
  no : ∀ g : Str, g ∉ sev7 → fs.lookup g = none
  own : OwnR H nm R n ord D kvs A
  s1 : H Sz = some (.dK ksz)
  sA : Sz ∈ A
  s2 : ∀ i < n, valV ksz (.inr (nm i)) = some (.int (sz R i : Nat))
  m1 : H My = some (.dK kmy)
  mA : My ∈ A
  m2 : ∀ i < n, valV kmy (.inr (nm i)) = some (.int (mn R i : Nat))
def GroveF (K : PySem.W.Frag) (CG : Addr) (H : Hp) (x : V) (ls : Str) (nm : Nat → Str) (R : RuleT) (n root : Nat) (A : List Addr) : Prop := ∃ ord a dx D Sz My fs kvs ksz kmy, x = .ref a ∧ GrP K CG H ls nm R n root ord a dx D Sz My fs kvs ksz kmy A
theorem GrP.keep {K : PySem.W.Frag} {CG : Addr} {H H' : Hp} {ls : Str} {nm : Nat → Str} {R : RuleT} {n root : Nat} {ord : List Nat} {a dx D Sz My : Addr} {fs : List (Str × V)} {kvs ksz kmy : List (Key × V)} {A : List Addr} (g : GrP K CG H ls nm R n root ord a dx D Sz My fs kvs ksz kmy A) (m : Kp A H H') : GrP K CG H' ls nm R n root ord a dx D Sz My fs kvs ksz kmy A := { g with
    ins := m _ g.aA _ g.ins (fun _ z => nomatch z)
    own := g.own.keep m
    s1 := m _ g.sA _ g.s1 (fun _ z => nomatch z)
    m1 := m _ g.mA _ g.m1 (fun _ z => nomatch z) }
theorem GroveF.keep {K : PySem.W.Frag} {CG : Addr} {H H' : Hp} {x : V} {ls : Str} {nm : Nat → Str} {R : RuleT} {n root : Nat} {A : List Addr} (h : GroveF K CG H x ls nm R n root A) (m : Kp A H H') : GroveF K CG H' x ls nm R n root A := by
  obtain ⟨ord, a, dx, D, Sz, My, fs, kvs, ksz, kmy, rfl, g⟩ := h
  exact ⟨ord, a, dx, D, Sz, My, fs, kvs, ksz, kmy, rfl, g.keep m⟩
def hvF (nm : Nat → Str) (kh : List (Key × V)) (j : Nat) : Int := match valV kh (.inr (nm j)) with
  | some (.int h) => h
  | _ => 0
theorem hvF_eq {nm : Nat → Str} {kh : List (Key × V)} {j : Nat} {h : Int} (e : valV kh (.inr (nm j)) = some (.int h)) : hvF nm kh j = h := by
  unfold hvF
  rw [e]
theorem cast_sum {α : Type} (f : α → Nat) : ∀ l : List α, (l.map fun a => ((f a : Nat) : Int)).sum = ((l.map f).sum : Nat)
  | [] => rfl
  | a :: l => by
    rw [List.map_cons, List.sum_cons, List.map_cons, List.sum_cons, cast_sum f l]
    omega
def spInitG (K : PySem.W.Frag) (CG : Addr) : Sp := fun vs H Q _ => ∃ (x dx D : Addr) (ls : Str) (nm : Nat → Str) (R : RuleT) (n root : Nat) (ord : List Nat) (kvs : List (Key × V)), vs = [.ref x, .str ls, .ref D, .str (nm root)] ∧ H x = some (.ins CG dx []) ∧ Told ls nm R n root ∧ H D = some (.dK kvs) ∧ RulesAt H nm R n ord D kvs ∧
  ∀ (H' : Hp) (A : List Addr), (∀ b o, b ≠ x → H b = some o → H' b = some o) → (∀ b ∈ A, b = x ∨ H b = none) → GroveF K CG H' (.ref x) ls nm R n root A → Q .non H'
section
variable {P : Program} {w : World} {K : PySem.W.Frag} {mg : Str → Option Value} {base : Heap} {f fCl fCr fCo fBo fPa CG CL : Addr} {fd fdCl fdCr fdCo fdBo fdPa : FuncData}
theorem ok_initG (F : Fun K "__init__" "Grove.__init__" (gm 0) f fd) (R0 : GroveK K CG) (gI : mg "isinstance" = none) (g_str : mg "str" = none) (gN : mg "len" = none) (gSu : mg "sum" = none) (gMx : mg "max" = none) {tk1 : Tok} (gLw : mg "LONGEST_WORD" = some (.int 200 tk1))
    (gCl : mg "check_letters" = some (.ref fCl)) (kCl : PySem.W.keepIn K (.ref fCl) = true) (GCl : FnOk P w K mg base (L2.CX P w) 3 fCl fdCl ["letters"] (spCheckL K CL)) (bCl : Binds K fdCl ["letters"] [])
    (gCr : mg "check_rules" = some (.ref fCr)) (kCr : PySem.W.keepIn K (.ref fCr) = true) (GCr : FnOk P w K mg base CX0 3 fCr fdCr ["letters", "rules"] spRulesR) (bCr : Binds K fdCr ["letters", "rules"] [])
    (gCo : mg "copied" = some (.ref fCo)) (kCo : PySem.W.keepIn K (.ref fCo) = true) (GCo : FnOk P w K mg base CX0 1 fCo fdCo ["rules"] spCopy) (bCo : Binds K fdCo ["rules"] [])
    (gBo : mg "bottom_up" = some (.ref fBo)) (kBo : PySem.W.keepIn K (.ref fBo) = true) (GBo : FnOk P w K mg base CX0 2 fBo fdBo ["rules"] spBot) (bBo : Binds K fdBo ["rules"] [])
    (gPa : mg "parts_of" = some (.ref fPa)) (kPa : PySem.W.keepIn K (.ref fPa) = true) (GPa : FnOk P w K mg base CX0 1 fPa fdPa ["rules", "name"] spParts) (bPa : Binds K fdPa ["rules", "name"] []) : FnOk P w K mg base CX0 4 f fd ["self", "letters", "rules", "root"] (spInitG K CG) := by
  have S0 : FnScope ["self", "letters", "rules", "root", "names", "name", "above", "heights", "parts", "part"] ["self", "letters", "rules", "root"] (defScope (gm 0)) := ⟨rfl, rfl, rfl, by decide +kernel, rfl, by decide +kernel, by decide +kernel⟩
  have nd := S0.nd
  refine F.ok S0 (fun vs H Q E h => ?_) (fun cdv A0 outer s H vs Q E hr h => ?_)
  · obtain ⟨x, dx, D, ls, nm, R, n, root, ord, kvs, rfl, _⟩ := h
    rfl
  · obtain ⟨x, dx, D, ls, nm, R, n, root, ord, kvs, rfl, hx, T, hD, hRu, kk⟩ := h
    have hu := hu_of hr
    have hr1 : Room 1 _ := hr.mono (by decide)
    have hr2 : Room 2 _ := hr.mono (by decide)
    have b1 : (200000 : Nat) < sizeLine := by decide
    have n0 := T.n0
    have n1 := T.n1
    have hpl : ∀ i < n, (R i).parts.length ≤ 100 := fun i _ => Nat.le_trans (parts_few T.L T.g i) (by decide)
    have na : ∀ g : Str, g ∈ sev7 → NoAttr K CG g := R0.na
    have ps0 : Passes (L2.CX P w) (cxOf CX0 P w K mg base ["self", "letters", "rules", "root", "names", "name", "above", "heights", "parts", "part"] "Grove.__init__" (defScope (gm 0)) f cdv A0 outer s H E).nox (fun _ _ _ => False) := passes_call LamX.takes0 (fun _ _ _ _ h => h)
    refine ⟨_, (pss_cons (ps_expr (pe_call GCl hr (by rfl) gCl kCl bCl .nil ps0 (pa_cons (pv 1) pa_nil)))
        (pss_cons (ps_expr (pe_call GCr hr (by rfl) gCr kCr bCr .nil pass0 (pa_cons (pv 1) (pa_cons (pv 2) pa_nil))))
        (pss_cons (ps_fld (pv 0) (pe_call GCo hr1 (by rfl) gCo kCo bCo .nil pass0 (pa_cons (pv 2) pa_nil)) rfl)
        (pss_cons (ps_set (i := 4) nd rfl (Or.inl rfl) (pe_call GBo hr2 (by rfl) gBo kBo bBo .nil pass0 (pa_cons (pe_fld (pv 0) rfl) pa_nil)))
        (pss_cons (ps_if (pt_cmpR op_lt (pe_callB call_len_seq (by rfl) gN PySem.boot_len (pa_cons (pv 4) pa_nil)) (pe_callB call_lenD (by rfl) gN PySem.boot_len (pa_cons (pe_fld (pv 0) rfl) pa_nil)) (nomark _)) pss_dead pss_nil)
        (pss_cons (ps_if (PW.pt (pw_or (pt_not (pt_val (pe_callB call_isi (by rfl) gI PyProof.Rows.boot_isinstance (pa_cons (pv 3) (pa_cons (pe_bltn (v := .ty "str") (by rfl) g_str PyProof.Rows.boot_str rfl) pa_nil))))) (pw_or1 (pt_cmp (pc_dnotin hu (pv 3) (pe_fld (pv 0) rfl)))))) pss_dead pss_nil)
        (pss_cons (ps_asg (pe_tup (pa_cons pe_dnewK (pa_cons pe_dnewK (pa_cons pe_dnewK pa_nil)))) (pg_tup rfl (pgs_cons (pg_name (i := 7) nd rfl (Or.inr rfl)) (pgs_cons (pg_fldT (pv 0)) (pgs_cons (pg_fldT (pv 0)) pgs_nil)))))
        (pss_cons (ps_for PassesOwn.never rfl (pi_list (pv 4)) (pg_name (i := 5) nd rfl (Or.inl rfl)) (pss_cons (ps_set (i := 8) nd rfl (Or.inl rfl) (pe_call GPa hr1 (by rfl) gPa kPa bPa .nil pass0 (pa_cons (pe_fld (pv 0) rfl) (pa_cons (pv 5) pa_nil))))
        (pss_cons (ps_dput hu (pv 7) (pv 5) (pe_callB (cr_max rfl) (by rfl) gMx PyProof.Rows.boot_max (pa_cons (pe_op op_cat (pe_lst (pa_cons pe_int pa_nil)) (pe_lc (own := [("part", 9)]) (g := gName 9) (tt := tYes) rfl nd (pi_list (pv 8)) (blkOk_by (N := ["self", "letters", "rules", "root", "names", "name", "above", "heights", "parts", "part"]) (sc := defScope (gm 0)) (by decide +kernel)) (fun _ _ _ _ _ => pg_name (i := 9) nd rfl (Or.inl rfl)) (fun _ _ _ _ _ => pts_nil) (fun _ _ _ _ _ => (pe_op op_add (pe_dget hu (pv 7) (pv 9) (fun _ _ => rfl)) pe_int)))) pa_nil)) rfl)
        (pss_cons (ps_dput hu (pe_fld (pv 0) rfl) (pv 5) (pe_op op_add (pe_callB (cr_sum rfl) (by rfl) gSu PyProof.Rows.boot_sum (pa_cons (pe_lc (own := [("part", 9)]) (g := gName 9) (tt := tYes) (te := tDGet (tFld K (tVar 0) "_sizes") (tVar 9)) rfl nd (pi_list (pv 8)) (blkOk_by (N := ["self", "letters", "rules", "root", "names", "name", "above", "heights", "parts", "part"]) (sc := defScope (gm 0)) (by decide +kernel)) (fun _ _ _ _ _ => pg_name (i := 9) nd rfl (Or.inl rfl)) (fun _ _ _ _ _ => pts_nil) (fun _ _ _ _ _ => (pe_dget hu (pe_fld (pv 0) rfl) (pv 9) (fun _ _ => rfl)))) pa_nil)) pe_int) rfl)
        (pss_one (ps_dput hu (pe_fld (pv 0) rfl) (pv 5) (pe_op op_add (pe_callB (cr_sum rfl) (by rfl) gSu PyProof.Rows.boot_sum (pa_cons (pe_lc (own := [("part", 9)]) (g := gName 9) (tt := tYes) (te := tDGet (tFld K (tVar 0) "_manys") (tVar 9)) rfl nd (pi_list (pv 8)) (blkOk_by (N := ["self", "letters", "rules", "root", "names", "name", "above", "heights", "parts", "part"]) (sc := defScope (gm 0)) (by decide +kernel)) (fun _ _ _ _ _ => pg_name (i := 9) nd rfl (Or.inl rfl)) (fun _ _ _ _ _ => pts_nil) (fun _ _ _ _ _ => (pe_dget hu (pe_fld (pv 0) rfl) (pv 9) (fun _ _ => rfl)))) pa_nil)) (pe_ifExp (pt_val (pe_ix ix_seq (pe_dget hu (pe_fld (pv 0) rfl) (pv 5) (fun _ _ => rfl)) pe_int (fun _ _ => rfl))) pe_int pe_int)) rfl))))))
        (pss_cons (ps_if (pt_cmpR op_gt (pe_dget hu (pv 7) (pv 3) (fun _ _ => rfl)) (pe_glob (v := V.int 200) (by rfl) gLw ⟨_, rfl⟩) (nomark _)) pss_dead pss_nil)
        (pss_cons (ps_fld (pv 0) (pv 1) rfl)
        (pss_cons (ps_fld (pv 0) (pv 3) rfl)
        (pss_cons (ps_fld (pv 0) (pe_dget hu (pe_fld (pv 0) rfl) (pv 3) (fun _ _ => rfl)) rfl)
        (pss_one (ps_fld (pv 0) (pe_dget hu (pe_fld (pv 0) rfl) (pv 3) (fun _ _ => rfl)) rfl)))))))))))))), ?_⟩
    refine ⟨V.str ls, rfl, V.str ls, .str ls, rfl, .str _, (fun z e => by injection e with e; subst e; exact T.asc), fun _ H1 s1 => ?_, fun no => absurd (show okLd (.str ls) = true from T.lb) (by rw [no]; exact Bool.false_ne_true)⟩
    have hD1 := s1 _ _ hD
    refine ⟨V.str ls, rfl, V.ref D, rfl, ls, D, nm, R, n, ord, kvs, rfl, T.L, T.g, n0, by omega, T.nm, hD1, hRu.mono s1, fun H2 s2 => ?_⟩
    have s12 := s1.trans s2
    have hD2 := s12 _ _ hD
    refine ⟨V.ref D, rfl, D, _, nm, R, n, ord, kvs, rfl, T.g, hpl, by omega, hD2, hRu.mono s12, fun H3 O kv2 A s3 fr own => ?_⟩
    have s13 := s12.trans s3
    have hx2 := s12 _ _ hx
    have hx3 := s3 _ _ hx2
    have xA : x ∉ A := fun z => by rw [fr x z] at hx2; cases hx2
    have frH : ∀ b ∈ A, H b = none := fun b hb => by
      cases e : H b with
      | none => rfl
      | some o =>
        have z := s12 _ _ e
        rw [fr b hb] at z
        cases z
    refine ⟨V.ref x, rfl, x, CG, dx, [], rfl, hx3, R0.cl, na _ (by simp [sev7]), (by show 0 < 1000; decide), ?_⟩
    have own4 : OwnR (upd H3 x (.ins CG dx (putF "_rules" (.ref O) []))) nm R n ord O kv2 A := own.keep fun b hb o e _ => by
      rw [upd_ne (show b ≠ x from fun z => xA (z ▸ hb))]
      exact e
    have fr4 : ∀ b o, b ≠ x → H b = some o → upd H3 x (.ins CG dx (putF "_rules" (.ref O) [])) b = some o := fun b o nb e => by
      rw [upd_ne nb]
      exact s13 _ _ e
    have hx4 : upd H3 x (.ins CG dx (putF "_rules" (.ref O) [])) x = some (.ins CG dx (putF "_rules" (.ref O) [])) := upd_same
    generalize upd H3 x (.ins CG dx (putF "_rules" (.ref O) [])) = H4 at own4 fr4 hx4
    have lk1 : (putF "_rules" (V.ref O) []).lookup ("_rules" : Str) = some (.ref O) := rfl
    refine ⟨V.ref x, rfl, x, CG, dx, _, _, rfl, hx4, R0.cl, na _ (by simp [sev7]), lk1, O, _, nm, R, n, ord, kv2, rfl, T.g, hpl, by omega, own4.dc, own4.rules, fun H5 Nm out s5 hNm ndO hmO hokO => ?_⟩
    have hx5 := s5 _ _ hx4
    have own5 := own4.keep (Kp.of s5)
    have hol : out.length = n := by
      have p : out.Perm (List.range n) := (List.perm_ext_iff_of_nodup ndO List.nodup_range).mpr fun i => by rw [hmO, List.mem_range]
      rw [p.length_eq, List.length_range]
    have hkl : kv2.length = n := own5.rules.len.trans own5.rules.olen
    refine ⟨V.ref Nm, rfl, Nm, _, rfl, .inl (.inl (.inl hNm)), V.ref x, rfl, x, CG, dx, _, _, rfl, hx5, R0.cl, na _ (by simp [sev7]), lk1, O, kv2, rfl, own5.dc, _, _, rfl, rfl, _, rfl, ?_⟩
    have c5 : decide (((nmV nm out).length : Int) < (kv2.length : Nat)) = false := decide_eq_false (by unfold nmV; rw [List.length_map]; omega)
    rw [c5]
    refine iteF ?_
    obtain ⟨tr, dr, q1, q2, q3, q4, q5, q6⟩ := own5.vs root T.rt
    have dgr := DGet.k (k := (.inr (nm root) : Key)) own5.dc
    rw [q1] at dgr
    refine ⟨V.str (nm root), rfl, V.str (nm root), .ty "str", .type "str", .type "str", true, rfl, .ty _, .base (.str _), kit_ty (by show kitB "str" "str" = some true; decide +kernel), _, rfl, iteF ?_⟩
    refine ⟨V.str (nm root), rfl, V.ref x, rfl, x, CG, dx, _, _, rfl, hx5, R0.cl, na _ (by simp [sev7]), lk1, O, some (.ref tr), rfl, dgr, _, rfl, iteF ?_⟩
    intro p1 e1 p2 e2 p3 e3
    refine ⟨(by show 3 ≤ sizeLine; decide), fun t nt => ?_⟩
    have n12 : p1 ≠ p2 := fun z => by rw [← z, upd_same] at e2; cases e2
    have n2H : H5 p2 = none := by rw [upd_ne (Ne.symm n12)] at e2; exact e2
    have n23 : p2 ≠ p3 := fun z => by rw [← z, upd_same] at e3; cases e3
    have n3a : upd H5 p1 (.dK []) p3 = none := by rw [upd_ne (Ne.symm n23)] at e3; exact e3
    have n13 : p1 ≠ p3 := fun z => by rw [← z, upd_same] at n3a; cases n3a
    have n3H : H5 p3 = none := by rw [upd_ne (Ne.symm n13)] at n3a; exact n3a
    have nx : ∀ {p : Addr}, H5 p = none → p ≠ x := fun e z => by rw [z, hx5] at e; cases e
    have s6 : Same H5 (upd (upd (upd (upd H5 p1 (.dK [])) p2 (.dK [])) p3 (.dK [])) t (.tup [.ref p1, .ref p2, .ref p3])) := (upd_new e1).trans ((upd_new e2).trans ((upd_new e3).trans (upd_new nt)))
    have g1 : upd (upd (upd (upd H5 p1 (.dK [])) p2 (.dK [])) p3 (.dK [])) t (.tup [.ref p1, .ref p2, .ref p3]) p1 = some (.dK []) := upd_new nt _ _ (by rw [upd_ne n13, upd_ne n12]; exact upd_same)
    have g2 : upd (upd (upd (upd H5 p1 (.dK [])) p2 (.dK [])) p3 (.dK [])) t (.tup [.ref p1, .ref p2, .ref p3]) p2 = some (.dK []) := upd_new nt _ _ (by rw [upd_ne n23]; exact upd_same)
    have g3 : upd (upd (upd (upd H5 p1 (.dK [])) p2 (.dK [])) p3 (.dK [])) t (.tup [.ref p1, .ref p2, .ref p3]) p3 = some (.dK []) := upd_new nt _ _ upd_same
    have ht : upd (upd (upd (upd H5 p1 (.dK [])) p2 (.dK [])) p3 (.dK [])) t (.tup [.ref p1, .ref p2, .ref p3]) t = some (.tup [.ref p1, .ref p2, .ref p3]) := upd_same
    generalize upd (upd (upd (upd H5 p1 (.dK [])) p2 (.dK [])) p3 (.dK [])) t (.tup [.ref p1, .ref p2, .ref p3]) = H6 at s6 g1 g2 g3 ht
    have hx6 := s6 _ _ hx5
    refine ⟨t, _, rfl, .inl (.inl ht), rfl, _, _, rfl, _, _, rfl, V.ref x, rfl, x, CG, dx, _, rfl, hx6, R0.cl, na _ (by simp [sev7]), (by show 1 < 1000; decide), _, _, rfl, V.ref x, rfl, x, CG, dx, _, rfl, upd_same, R0.cl, na _ (by simp [sev7]), (by show 2 < 1000; decide), rfl, ?_⟩
    rw [upd_upd]
    have s8 : ∀ b o, b ≠ x → H5 b = some o → upd H6 x (.ins CG dx (putF "_manys" (.ref p3) (putF "_sizes" (.ref p2) (putF "_rules" (.ref O) [])))) b = some o := fun b o nb e => by
      rw [upd_ne nb]
      exact s6 _ _ e
    have hx8 : upd H6 x (.ins CG dx (putF "_manys" (.ref p3) (putF "_sizes" (.ref p2) (putF "_rules" (.ref O) [])))) x = some (.ins CG dx (putF "_manys" (.ref p3) (putF "_sizes" (.ref p2) (putF "_rules" (.ref O) [])))) := upd_same
    have g1' : upd H6 x (.ins CG dx (putF "_manys" (.ref p3) (putF "_sizes" (.ref p2) (putF "_rules" (.ref O) [])))) p1 = some (.dK []) := by rw [upd_ne (nx e1)]; exact g1
    have g2' : upd H6 x (.ins CG dx (putF "_manys" (.ref p3) (putF "_sizes" (.ref p2) (putF "_rules" (.ref O) [])))) p2 = some (.dK []) := by rw [upd_ne (nx n2H)]; exact g2
    have g3' : upd H6 x (.ins CG dx (putF "_manys" (.ref p3) (putF "_sizes" (.ref p2) (putF "_rules" (.ref O) [])))) p3 = some (.dK []) := by rw [upd_ne (nx n3H)]; exact g3
    clear g1 g2 g3
    generalize upd H6 x (.ins CG dx (putF "_manys" (.ref p3) (putF "_sizes" (.ref p2) (putF "_rules" (.ref O) [])))) = H8 at s8 hx8 g1' g2' g3'
    have lR : (putF "_manys" (V.ref p3) (putF "_sizes" (.ref p2) (putF "_rules" (.ref O) []))).lookup ("_rules" : Str) = some (.ref O) := rfl
    have lS : (putF "_manys" (V.ref p3) (putF "_sizes" (.ref p2) (putF "_rules" (.ref O) []))).lookup ("_sizes" : Str) = some (.ref p2) := rfl
    have lM : (putF "_manys" (V.ref p3) (putF "_sizes" (.ref p2) (putF "_rules" (.ref O) []))).lookup ("_manys" : Str) = some (.ref p3) := rfl
    have hl3 : (putF "_manys" (V.ref p3) (putF "_sizes" (.ref p2) (putF "_rules" (.ref O) []))).length ≤ 3 := by show 3 ≤ 3; decide
    generalize hfs : putF "_manys" (V.ref p3) (putF "_sizes" (.ref p2) (putF "_rules" (.ref O) [])) = fs3 at hx8 lR lS lM hl3
    have own8 : OwnR H8 nm R n ord O kv2 A := own5.keep fun b hb o e _ => s8 b o (fun z => xA (z ▸ hb)) e
    have nA : ∀ {p : Addr}, H5 p = none → p ∉ A := fun e z => by
      obtain ⟨o, q, _⟩ := own5.lv _ z
      rw [e] at q
      cases q
    have hNm8 := s8 _ _ (ne_of hNm hx5 (by intro z; cases z)) hNm
    have nNm : ∀ {p : Addr}, H5 p = none → Nm ≠ p := fun e z => by rw [← z, hNm] at e; cases e
    have hmem : ∀ {j i : Nat}, out[j]? = some i → i < n := fun h => (hmO _).mp (List.mem_of_getElem? h)
    have hnew : ∀ {j i : Nat}, out[j]? = some i → ∀ m ∈ out.take j, nm m ≠ nm i := fun {j i} hi m hm e => by
      have hmn : m < n := (hmO m).mp (List.mem_of_mem_take hm)
      have e2 := hRu.inj m hmn i (hmem hi) e
      subst e2
      obtain ⟨q, hq⟩ := List.mem_iff_getElem?.mp hm
      have hqj : q < j := by
        have z := (List.getElem?_eq_some_iff.mp hq).1
        rw [List.length_take] at z
        omega
      rw [List.getElem?_take_of_lt hqj] at hq
      exact absurd ((List.getElem?_inj (List.getElem?_eq_some_iff.mp hq).1 ndO).mp (hq.trans hi.symm)) (by omega)
    have len_of : ∀ {kv : List (Key × V)} {l : List Nat}, kv.map Prod.fst = l.map (fun i => (Sum.inr (nm i) : Key)) → kv.length = l.length := fun h => by
      have z := congrArg List.length h
      rwa [List.length_map, List.length_map] at z
    refine ⟨V.ref Nm, rfl, Nm, rfl, ⟨_, .inl (.inl hNm8)⟩, for_it (walk_list (K := K) (xs := nmV nm out)) (fun j σ G => ∃ (x5 x6 x8 x9 : Option V) (kh ks km : List (Key × V)), σ = [some (.ref x), some (.str ls), some (.ref D), some (.str (nm root)), some (.ref Nm), x5, x6, some (.ref p1), x8, x9] ∧
        (∀ b o, b ≠ p1 → b ≠ p2 → b ≠ p3 → H8 b = some o → G b = some o) ∧ (G p1 = some (.dK kh) ∧ G p2 = some (.dK ks) ∧ G p3 = some (.dK km)) ∧
        (kh.map Prod.fst = (out.take j).map (fun i => (Sum.inr (nm i) : Key)) ∧ ks.map Prod.fst = (out.take j).map (fun i => (Sum.inr (nm i) : Key)) ∧ km.map Prod.fst = (out.take j).map (fun i => (Sum.inr (nm i) : Key))) ∧
        ∀ i ∈ out.take j, (∃ h : Nat, valV kh (.inr (nm i)) = some (.int h) ∧ h ≤ i) ∧ valV ks (.inr (nm i)) = some (.int (sz R i : Nat)) ∧ valV km (.inr (nm i)) = some (.int (mn R i : Nat)))
      ⟨none, none, none, none, [], [], [], rfl, fun b o _ _ _ e => e, ⟨g1', g2', g3'⟩, ⟨rfl, rfl, rfl⟩, fun i hi => by simp at hi⟩ (fun j σ G _ q => ?_) ?_ ?_⟩
    · obtain ⟨_, _, _, _, _, _, _, _, q, _⟩ := q
      exact .inl (.inl (q _ _ (nNm e1) (nNm n2H) (nNm n3H) hNm8))
    · rintro j y σ G G2 hj ⟨x5, x6, x8, x9, kh, ks, km, rfl, k1, ⟨k2, k3, k4⟩, ⟨k5, k6, k7⟩, k8⟩ ⟨rfl, hy⟩
      obtain ⟨i, hi, rfl⟩ := map_at hy
      have hin := hmem hi
      have hxG := k1 _ _ (Ne.symm (nx e1)) (Ne.symm (nx n2H)) (Ne.symm (nx n3H)) hx8
      have ownG : OwnR G2 nm R n ord O kv2 A := own8.keep fun b hb o e _ => k1 b o (fun z => nA e1 (z ▸ hb)) (fun z => nA n2H (z ▸ hb)) (fun z => nA n3H (z ▸ hb)) e
      obtain ⟨ti, di, w1, w2, w3, w4, w5, w6⟩ := ownG.vs i hin
      have hpre : ∀ p ∈ (R i).parts, p.2 ∈ out.take j := by
        refine hokO (out.take j) i (out.drop (j + 1)) ?_
        have z := List.drop_eq_getElem_cons (List.getElem?_eq_some_iff.mp hi).1
        rw [(List.getElem?_eq_some_iff.mp hi).2] at z
        rw [← z, List.take_append_drop]
      have hpl' := hpl i hin
      refine ⟨V.ref x, rfl, x, CG, dx, _, _, rfl, hxG, R0.cl, na _ (by simp [sev7]), lR, V.str (nm i), rfl, O, _, nm, R, i, kv2, .ref ti, rfl, T.g, hpl', .inl ownG.dc, w1, ⟨ti, di, rfl, .inr w2, w3, w6⟩, fun G3 p s3 np hp => ?_⟩
      have k2' := s3 _ _ k2
      have k3' := s3 _ _ k3
      have k4' := s3 _ _ k4
      have kl := len_of k5
      have kl2 := len_of k6
      have kl3 := len_of k7
      have tl : (out.take j).length ≤ n := by rw [List.length_take]; omega
      -- heights
      refine ⟨(by show 1 ≤ sizeLine; decide), fun q1 nq1 => ⟨V.ref p, rfl, p, rfl, ⟨_, .inl (.inl (upd_new nq1 _ _ hp))⟩, fun Dn nD => lcF_list (K := K) (ws := (R i).parts) (fun q => V.str (nm q.2)) nD (fun q => V.int (hvF nm kh q.2 + 1)) (fun _ => true) (.inl (.inl (upd_new nq1 _ _ hp))) (by omega) (fun m q G4 hq sG4 A B kA kB => ?_) fun G4 sG4 hDn => ?_⟩⟩
      · obtain ⟨⟨h, v1, v2⟩, _⟩ := k8 q.2 (hpre q (List.mem_of_getElem? hq))
        have dg := DGet.k (k := (.inr (nm q.2) : Key)) (sG4 _ _ (upd_new nq1 _ _ k2'))
        rw [v1] at dg
        refine ⟨rfl, V.ref p1, rfl, V.str (nm q.2), rfl, p1, _, rfl, dg, _, _, rfl, rfl, ?_⟩
        have z := kA rfl
        rw [hvF_eq v1] at z
        exact z
      rw [filt_all] at hDn
      have hq1 : G4 q1 = some (.lst [.int 0]) := sG4 _ _ upd_same
      refine ⟨q1, Dn, _, _, rfl, rfl, hq1, hDn, (by rw [List.length_map]; show 1 + _ ≤ sizeLine; omega), fun q2 nq2 => ?_⟩
      have em : [V.int 0] ++ (R i).parts.map (fun q => V.int (hvF nm kh q.2 + 1)) = (0 :: (R i).parts.map fun q => hvF nm kh q.2 + 1).map V.int := by
        rw [List.map_cons, List.map_map]
        rfl
      refine ⟨q2, 0 :: (R i).parts.map (fun q => hvF nm kh q.2 + 1), rfl, .inl (.inl (by rw [em]; exact upd_same)), (by simp), fun mm hmm hle => ?_⟩
      have hmN : ∃ h : Nat, mm = (h : Int) ∧ h ≤ i := by
        rcases List.mem_cons.mp hmm with z | z
        · exact ⟨0, z, Nat.zero_le _⟩
        · obtain ⟨q, hq, z⟩ := List.mem_map.mp z
          obtain ⟨⟨h, v1, v2⟩, _⟩ := k8 q.2 (hpre q hq)
          rw [hvF_eq v1] at z
          have hd := T.g.dn i q hq
          exact ⟨h + 1, by omega, by omega⟩
      have s5' : Same G3 (upd G4 q2 (.lst ([.int 0] ++ (R i).parts.map fun q => V.int (hvF nm kh q.2 + 1)))) := fun b o e => upd_new nq2 _ _ (sG4 _ _ (upd_new nq1 _ _ e))
      generalize upd G4 q2 (.lst ([.int 0] ++ (R i).parts.map fun q => V.int (hvF nm kh q.2 + 1))) = G5 at s5'
      obtain ⟨r1, r2⟩ := keys_snoc (x := .int mm) k5 (hnew hi)
      refine ⟨V.ref p1, rfl, V.str (nm i), rfl, p1, _, rfl, DPut.k (k := .inr (nm i)) (s5' _ _ k2') (by omega), ?_⟩
      have pN : ∀ {q : Addr} {o : HO}, G2 q = some o → p ≠ q := fun e z => by rw [z, e] at np; cases np
      have f6 : ∀ b o, b ≠ p1 → G3 b = some o → upd G5 p1 (.dK (putK kh (.inr (nm i)) (.int mm))) b = some o := fun b o nb e => by
        rw [upd_ne nb]
        exact s5' _ _ e
      have a1 : upd G5 p1 (.dK (putK kh (.inr (nm i)) (.int mm))) p1 = some (.dK (putK kh (.inr (nm i)) (.int mm))) := upd_same
      generalize upd G5 p1 (.dK (putK kh (.inr (nm i)) (.int mm))) = G6 at f6 a1
      have hp6 := f6 _ _ (pN k2) hp
      have hx6' := f6 _ _ (Ne.symm (nx e1)) (s3 _ _ hxG)
      have a2 := f6 _ _ (Ne.symm n12) k3'
      have a3 := f6 _ _ (Ne.symm n13) k4'
      -- sizes
      refine ⟨V.ref p, rfl, p, rfl, ⟨_, .inl (.inl hp6)⟩, fun Dn nD => lcF_list (K := K) (ws := (R i).parts) (fun q => V.str (nm q.2)) nD (fun q => V.int (sz R q.2 : Nat)) (fun _ => true) (.inl (.inl hp6)) (by omega) (fun m q G4 hq sG4 A B kA kB => ?_) fun G7 s7 hDn => ?_⟩
      · obtain ⟨_, v1, _⟩ := k8 q.2 (hpre q (List.mem_of_getElem? hq))
        have dg := DGet.k (k := (.inr (nm q.2) : Key)) (sG4 _ _ a2)
        rw [v1] at dg
        exact ⟨rfl, V.ref x, rfl, x, CG, dx, _, _, rfl, sG4 _ _ hx6', R0.cl, na _ (by simp [sev7]), lS, V.str (nm q.2), rfl, p2, _, rfl, dg, kA rfl⟩
      rw [filt_all] at hDn
      refine ⟨Dn, (R i).parts.map fun q => ((sz R q.2 : Nat) : Int), rfl, .inl (.inl (by rw [hDn, List.map_map]; rfl)), _, _, rfl, rfl, ?_⟩
      have es : ((R i).parts.map fun q => ((sz R q.2 : Nat) : Int)).sum + 1 = ((sz R i : Nat) : Int) := by
        rw [cast_sum, sz_eq T.g i]
        omega
      dsimp only
      rw [es]
      obtain ⟨r3, r4⟩ := keys_snoc (x := .int (sz R i : Nat)) k6 (hnew hi)
      have hx7 := s7 _ _ hx6'
      refine ⟨V.ref x, rfl, x, CG, dx, _, _, rfl, hx7, R0.cl, na _ (by simp [sev7]), lS, V.str (nm i), rfl, p2, _, rfl, DPut.k (k := .inr (nm i)) (s7 _ _ a2) (by omega), ?_⟩
      have f8 : ∀ b o, b ≠ p2 → G6 b = some o → upd G7 p2 (.dK (putK ks (.inr (nm i)) (.int (sz R i : Nat)))) b = some o := fun b o nb e => by
        rw [upd_ne nb]
        exact s7 _ _ e
      have c2 : upd G7 p2 (.dK (putK ks (.inr (nm i)) (.int (sz R i : Nat)))) p2 = some (.dK (putK ks (.inr (nm i)) (.int (sz R i : Nat)))) := upd_same
      generalize upd G7 p2 (.dK (putK ks (.inr (nm i)) (.int (sz R i : Nat)))) = G8 at f8 c2
      have hp8 := f8 _ _ (pN k3) hp6
      have hx8' := f8 _ _ (Ne.symm (nx n2H)) hx6'
      have c1 := f8 _ _ n12 a1
      have c3 := f8 _ _ (Ne.symm n23) a3
      -- kept words
      refine ⟨V.ref p, rfl, p, rfl, ⟨_, .inl (.inl hp8)⟩, fun Dn nD => lcF_list (K := K) (ws := (R i).parts) (fun q => V.str (nm q.2)) nD (fun q => V.int (mn R q.2 : Nat)) (fun _ => true) (.inl (.inl hp8)) (by omega) (fun m q G4 hq sG4 A B kA kB => ?_) fun G9 s9 hDn => ?_⟩
      · obtain ⟨_, _, v1⟩ := k8 q.2 (hpre q (List.mem_of_getElem? hq))
        have dg := DGet.k (k := (.inr (nm q.2) : Key)) (sG4 _ _ c3)
        rw [v1] at dg
        exact ⟨rfl, V.ref x, rfl, x, CG, dx, _, _, rfl, sG4 _ _ hx8', R0.cl, na _ (by simp [sev7]), lM, V.str (nm q.2), rfl, p3, _, rfl, dg, kA rfl⟩
      rw [filt_all] at hDn
      have fr9 : ∀ b o, b ≠ p1 → b ≠ p2 → G2 b = some o → G9 b = some o := fun b o u1 u2 e => s9 _ _ (f8 _ _ u2 (f6 _ _ u1 (s3 _ _ e)))
      have ne3 : ∀ {b : Addr}, b ∈ A → b ≠ p1 ∧ b ≠ p2 ∧ b ≠ p3 := fun hb => ⟨fun z => nA e1 (z ▸ hb), fun z => nA n2H (z ▸ hb), fun z => nA n3H (z ▸ hb)⟩
      have hO9 := fr9 _ _ (ne3 ownG.oa).1 (ne3 ownG.oa).2.1 ownG.dc
      have ht9 := fr9 _ _ (ne3 w4).1 (ne3 w4).2.1 w2
      have hx9 := s9 _ _ hx8'
      have dgt := DGet.k (k := (.inr (nm i) : Key)) hO9
      rw [w1] at dgt
      refine ⟨Dn, (R i).parts.map fun q => ((mn R q.2 : Nat) : Int), rfl, .inl (.inl (by rw [hDn, List.map_map]; rfl)), ?_⟩
      refine ⟨V.ref x, rfl, x, CG, dx, _, _, rfl, hx9, R0.cl, na _ (by simp [sev7]), lR, V.str (nm i), rfl, O, _, rfl, dgt, rIx_rows (j := 0) (.inr ht9) rfl ⟨(R i).mark, rfl, ?_⟩⟩
      have es1 : (R i).mark = true → ((R i).parts.map fun q => ((mn R q.2 : Nat) : Int)).sum + 1 = ((mn R i : Nat) : Int) := fun hm => by
        rw [cast_sum, mn_eq T.g i, if_pos hm]
        omega
      have es0 : (R i).mark = false → ((R i).parts.map fun q => ((mn R q.2 : Nat) : Int)).sum + 0 = ((mn R i : Nat) : Int) := fun hm => by
        rw [cast_sum, mn_eq T.g i, if_neg (by rw [hm]; exact Bool.false_ne_true)]
        omega
      obtain ⟨r5, r6⟩ := keys_snoc (x := .int (mn R i : Nat)) k7 (hnew hi)
      have fin : ∀ (G10 : Hp), G10 = upd G9 p3 (.dK (putK km (.inr (nm i)) (.int (mn R i : Nat)))) → (∀ b o, b ≠ p1 → b ≠ p2 → b ≠ p3 → H8 b = some o → G10 b = some o) ∧ (G10 p1 = some (.dK (putK kh (.inr (nm i)) (.int mm))) ∧ G10 p2 = some (.dK (putK ks (.inr (nm i)) (.int (sz R i : Nat)))) ∧ G10 p3 = some (.dK (putK km (.inr (nm i)) (.int (mn R i : Nat))))) := fun G10 eG => by
        subst eG
        refine ⟨fun b o u1 u2 u3 e => ?_, ?_, ?_, upd_same⟩
        · rw [upd_ne u3]
          exact fr9 b o u1 u2 (k1 b o u1 u2 u3 e)
        · rw [upd_ne n13]
          exact s9 _ _ c1
        · rw [upd_ne n23]
          exact s9 _ _ c2
      have vals : ∀ m ∈ out.take (j + 1), (∃ h : Nat, valV (putK kh (.inr (nm i)) (.int mm)) (.inr (nm m)) = some (.int h) ∧ h ≤ m) ∧ valV (putK ks (.inr (nm i)) (.int (sz R i : Nat))) (.inr (nm m)) = some (.int (sz R m : Nat)) ∧ valV (putK km (.inr (nm i)) (.int (mn R i : Nat))) (.inr (nm m)) = some (.int (mn R m : Nat)) := fun m hm => by
        rw [take_snoc hi] at hm
        rw [valV_put, valV_put, valV_put]
        rcases List.mem_append.mp hm with hm | hm
        · have nk : ¬ (Sum.inr (nm m) : Key) = .inr (nm i) := fun z => hnew hi m hm (by injection z)
          rw [if_neg nk, if_neg nk, if_neg nk]
          exact k8 m hm
        · obtain rfl : m = i := by simpa using hm
          rw [if_pos rfl, if_pos rfl, if_pos rfl]
          obtain ⟨h, z1, z2⟩ := hmN
          exact ⟨⟨h, by rw [z1], z2⟩, rfl, rfl⟩
      rw [← take_snoc hi] at r2 r4 r6
      cases hmk : (R i).mark
      · refine iteF ⟨_, _, rfl, rfl, ?_⟩
        dsimp only
        rw [es0 hmk]
        obtain ⟨y1, y2⟩ := fin _ rfl
        exact ⟨V.ref x, rfl, x, CG, dx, _, _, rfl, hx9, R0.cl, na _ (by simp [sev7]), lM, V.str (nm i), rfl, p3, _, rfl, DPut.k (k := .inr (nm i)) (s9 _ _ c3) (by omega), _, _, _, _, _, _, _, rfl, y1, y2, ⟨r2, r4, r6⟩, vals⟩
      · refine iteT ⟨_, _, rfl, rfl, ?_⟩
        dsimp only
        rw [es1 hmk]
        obtain ⟨y1, y2⟩ := fin _ rfl
        exact ⟨V.ref x, rfl, x, CG, dx, _, _, rfl, hx9, R0.cl, na _ (by simp [sev7]), lM, V.str (nm i), rfl, p3, _, rfl, DPut.k (k := .inr (nm i)) (s9 _ _ c3) (by omega), _, _, _, _, _, _, _, rfl, y1, y2, ⟨r2, r4, r6⟩, vals⟩
    rintro σ G ⟨x5, x6, x8, x9, kh, ks, km, rfl, k1, ⟨k2, k3, k4⟩, ⟨k5, k6, k7⟩, k8⟩
    have eol : (nmV nm out).length = out.length := List.length_map _
    rw [eol, List.take_length] at k8
    have hrO : root ∈ out := (hmO root).mpr T.rt
    obtain ⟨⟨hh, v1, v2⟩, v3, v4⟩ := k8 root hrO
    have hrt := T.rt
    have dg1 := DGet.k (k := (.inr (nm root) : Key)) k2
    rw [v1] at dg1
    refine ⟨V.ref p1, rfl, V.str (nm root), rfl, p1, _, rfl, dg1, _, _, rfl, rfl, _, rfl, ?_⟩
    have c9 : decide ((200 : Int) < (hh : Nat)) = false := decide_eq_false (by omega)
    rw [c9]
    refine iteF ?_
    have hxG := k1 _ _ (Ne.symm (nx e1)) (Ne.symm (nx n2H)) (Ne.symm (nx n3H)) hx8
    refine ⟨V.str ls, rfl, V.ref x, rfl, x, CG, dx, _, rfl, hxG, R0.cl, na _ (by simp [sev7]), by omega, ?_⟩
    refine ⟨V.str (nm root), rfl, V.ref x, rfl, x, CG, dx, _, rfl, upd_same, R0.cl, na _ (by simp [sev7]), Nat.lt_of_le_of_lt (length_putF _ _ _) (by omega), ?_⟩
    rw [upd_upd]
    have len5 : (putF "root" (V.str (nm root)) (putF "letters" (.str ls) fs3)).length ≤ 5 := by
      have z1 := length_putF "root" (V.str (nm root)) (putF "letters" (.str ls) fs3)
      have z2 := length_putF "letters" (V.str ls) fs3
      omega
    have k3' : upd G x (.ins CG dx (putF "root" (.str (nm root)) (putF "letters" (.str ls) fs3))) p2 = some (.dK ks) := by rw [upd_ne (nx n2H)]; exact k3
    have dg2 := DGet.k (k := (.inr (nm root) : Key)) k3'
    rw [v3] at dg2
    refine ⟨V.ref x, rfl, x, CG, dx, _, _, rfl, upd_same, R0.cl, na _ (by simp [sev7]), (by rw [lookup_putF, if_neg (by decide), lookup_putF, if_neg (by decide)]; exact lS), V.str (nm root), rfl, p2, _, rfl, dg2, V.ref x, rfl, x, CG, dx, _, rfl, upd_same, R0.cl, na _ (by simp [sev7]), by omega, ?_⟩
    rw [upd_upd]
    have len6 : (putF "size" (V.int (sz R root : Nat)) (putF "root" (V.str (nm root)) (putF "letters" (.str ls) fs3))).length ≤ 6 := by
      have z1 := length_putF "size" (V.int (sz R root : Nat)) (putF "root" (V.str (nm root)) (putF "letters" (.str ls) fs3))
      omega
    have k4' : upd G x (.ins CG dx (putF "size" (.int (sz R root : Nat)) (putF "root" (.str (nm root)) (putF "letters" (.str ls) fs3)))) p3 = some (.dK km) := by rw [upd_ne (nx n3H)]; exact k4
    have dg3 := DGet.k (k := (.inr (nm root) : Key)) k4'
    rw [v4] at dg3
    refine ⟨V.ref x, rfl, x, CG, dx, _, _, rfl, upd_same, R0.cl, na _ (by simp [sev7]), (by rw [lookup_putF, if_neg (by decide), lookup_putF, if_neg (by decide), lookup_putF, if_neg (by decide)]; exact lM), V.str (nm root), rfl, p3, _, rfl, dg3, V.ref x, rfl, x, CG, dx, _, rfl, upd_same, R0.cl, na _ (by simp [sev7]), by omega, ?_⟩
    rw [upd_upd]
    have hfr : ∀ {b : Addr} {o : HO}, H5 b = some o → b ≠ p1 ∧ b ≠ p2 ∧ b ≠ p3 := fun e => ⟨fun z => (by rw [z, e1] at e; cases e), fun z => (by rw [z, n2H] at e; cases e), fun z => (by rw [z, n3H] at e; cases e)⟩
    have toH : ∀ {p : Addr}, H5 p = none → H p = none := fun {p} e => by
      cases q : H p with
      | none => rfl
      | some o =>
        have z := s5 _ _ (fr4 p o (nx e) q)
        rw [e] at z
        cases z
    refine kk _ (x :: p2 :: p3 :: A) (fun b o nb e => ?_) (fun b hb => ?_) ⟨ord, x, dx, O, p2, p3, putF "many" (.int (mn R root : Nat)) (putF "size" (.int (sz R root : Nat)) (putF "root" (.str (nm root)) (putF "letters" (.str ls) fs3))), kv2, ks, km, rfl, ?_⟩
    · rw [upd_ne nb]
      have e5 := s5 _ _ (fr4 b o nb e)
      obtain ⟨z1, z2, z3⟩ := hfr e5
      exact k1 b o z1 z2 z3 (s8 b o nb e5)
    · rcases List.mem_cons.mp hb with rfl | hb
      · exact .inl rfl
      · rcases List.mem_cons.mp hb with rfl | hb
        · exact .inr (toH n2H)
        · rcases List.mem_cons.mp hb with rfl | hb
          · exact .inr (toH n3H)
          · exact .inr (frH b hb)
    · have ownG : OwnR (upd G x (.ins CG dx (putF "many" (.int (mn R root : Nat)) (putF "size" (.int (sz R root : Nat)) (putF "root" (.str (nm root)) (putF "letters" (.str ls) fs3)))))) nm R n ord O kv2 A := own8.keep fun b hb o e _ => by
        rw [upd_ne (show b ≠ x from fun z => xA (z ▸ hb))]
        exact k1 b o (fun z => nA e1 (z ▸ hb)) (fun z => nA n2H (z ▸ hb)) (fun z => nA n3H (z ▸ hb)) e
      refine { ins := upd_same, aA := by simp, f1 := ?_, f2 := ?_, f3 := ?_, f4 := ?_, f5 := ?_, f6 := ?_, f7 := ?_, no := fun g hg => ?_, own := ⟨ownG.dc, by simp [ownG.oa], ownG.ks, ownG.nd, ownG.mem, ownG.inj, fun i hi => ?_, fun b hb => ?_⟩, s1 := ?_, sA := by simp, s2 := fun i hi => (k8 i ((hmO i).mpr hi)).2.1, m1 := ?_, mA := by simp, m2 := fun i hi => (k8 i ((hmO i).mpr hi)).2.2 }
      · rw [lookup_putF, if_neg (by decide), lookup_putF, if_neg (by decide), lookup_putF, if_neg (by decide), lookup_putF, if_neg (by decide)]
        exact lR
      · rw [lookup_putF, if_neg (by decide), lookup_putF, if_neg (by decide), lookup_putF, if_neg (by decide), lookup_putF, if_neg (by decide)]
        exact lS
      · rw [lookup_putF, if_neg (by decide), lookup_putF, if_neg (by decide), lookup_putF, if_neg (by decide), lookup_putF, if_neg (by decide)]
        exact lM
      · rw [lookup_putF, if_neg (by decide), lookup_putF, if_neg (by decide), lookup_putF, if_neg (by decide), lookup_putF, if_pos rfl]
      · rw [lookup_putF, if_neg (by decide), lookup_putF, if_neg (by decide), lookup_putF, if_pos rfl]
      · rw [lookup_putF, if_neg (by decide), lookup_putF, if_pos rfl]
      · rw [lookup_putF, if_pos rfl]
      · unfold sev7 at hg
        simp only [List.mem_cons, List.not_mem_nil, or_false, not_or] at hg
        rw [lookup_putF, if_neg hg.2.2.2.2.2.2, lookup_putF, if_neg hg.2.2.2.2.2.1, lookup_putF, if_neg hg.2.2.2.2.1, lookup_putF, if_neg hg.2.2.2.1, ← hfs, lookup_putF, if_neg hg.2.2.1, lookup_putF, if_neg hg.2.1, lookup_putF, if_neg hg.1]
        rfl
      · obtain ⟨t', d', z1, z2, z3, z4, z5, z6⟩ := ownG.vs i hi
        exact ⟨t', d', z1, z2, z3, by simp [z4], by simp [z5], z6⟩
      · rcases List.mem_cons.mp hb with rfl | hb
        · exact ⟨_, upd_same, fun _ z => nomatch z⟩
        · rcases List.mem_cons.mp hb with rfl | hb
          · exact ⟨.dK ks, by rw [upd_ne (nx n2H)]; exact k3, fun _ z => nomatch z⟩
          · rcases List.mem_cons.mp hb with rfl | hb
            · exact ⟨.dK km, by rw [upd_ne (nx n3H)]; exact k4, fun _ z => nomatch z⟩
            · exact ownG.lv b hb
      · rw [upd_ne (nx n2H)]
        exact k3
      · rw [upd_ne (nx n3H)]
        exact k4
end
end SK
namespace SK
open PySem PySem.Spec PyProof.Rows L2 LamX NdefX
/-! ### zip of a list and a text -/
def ItzS (K : PySem.W.Frag) (a : Addr) (z : Str) : It :=
  ⟨fun i H => ∃ (xs : List V) (x : V) (c : Nat), SqL K H a xs ∧ xs[i]? = some x ∧ z.cps[i]? = some c,
    fun i H v H' => ∃ T x c, v = .ref T ∧ H T = none ∧ H' = upd H T (.tup [x, .str ⟨#[c]⟩]) ∧ (∀ xs, SqL K H a xs → xs[i]? = some x) ∧ z.cps[i]? = some c,
    fun i H => ∃ xs : List V, SqL K H a xs ∧ (i ≤ xs.length ∧ i ≤ z.cps.size ∧ (i = xs.length ∨ i = z.cps.size))⟩
theorem zipSepS {z TI TO i1 i2 a b : Addr} (D : ZipApart z TI TO i1 i2 a b) : ZipSep2 z TI TO i1 i2 [i1, a] [i2] where
  TIz := D.TIz
  TOz := D.TOz
  TITO := D.TITO
  TIi1 := D.TIi1
  mem1 := by simp
  zf1 := by simp [Ne.symm D.i1z, Ne.symm D.l1z]
  Tf1 := by simp [D.TOi1, Ne.symm D.l1TO]
  TIi2 := D.TIi2
  mem2 := by simp
  zf2 := by simp [Ne.symm D.i2z]
  Tf2 := by simp [D.TOi2]
  sep1_2 := by simp [D.i12]
  sep2_1 := by simp [Ne.symm D.i12, Ne.symm D.l1i2]
theorem turn_zipS {P : Program} {w : World} {K : PySem.W.Frag} {elts : List Expr} {kk : Nat} {tpos : Pos} {a b z TI TO i1 i2 : Addr} (x0 : Str) (t0 : Tok) (D : ZipApart z TI TO i1 i2 a b) :
    Turn P w K (.Tuple elts kk tpos) (ItzS K a x0) [z, TI, TO, i1, i2] z (fun i h => IsZip h z TI TO .none ∧ PySem.IsPair h TI (.ref i1) (.ref i2) ∧ (∃ x y, PySem.IsPair h TO x y) ∧ h.IsListIter i1 a i ∧ h.IsStrIter i2 (strIterType x0) x0 t0 i) where
  mem := by simp
  obj := fun i h st c hc => by
    obtain ⟨hz, hTI, ⟨x, y, hTO⟩, ⟨o1, e1, _, d1⟩, ⟨o2, e2, _, d2⟩⟩ := st
    have e' : c = z ∨ c = TI ∨ c = TO ∨ c = i1 ∨ c = i2 := by simpa using hc
    rcases e' with q | q | q | q | q
    · rw [q]; exact ⟨_, hz, fun v q => nomatch q⟩
    · rw [q]; exact ⟨_, hTI, fun v q => nomatch q⟩
    · rw [q]; exact ⟨_, hTO, fun v q => nomatch q⟩
    · rw [q]; exact ⟨o1, e1, fun v q => by rw [d1] at q; cases q⟩
    · rw [q]; exact ⟨o2, e2, fun v q => by rw [d2] at q; cases q⟩
  keep := fun i h h' st k => by
    obtain ⟨hz, hTI, ⟨x, y, hTO⟩, h1, ⟨o2, e2, r2⟩⟩ := st
    exact ⟨k z (by simp) _ hz, k TI (by simp) _ hTI, ⟨x, y, k TO (by simp) _ hTO⟩, h1.at fun o q => k i1 (by simp) o q, ⟨o2, k i2 (by simp) _ e2, r2⟩⟩
  item := by
    intro X hP hw hK hc i pins s σ H E I hf st hg
    subst hP hw hK
    obtain ⟨hz, hTI, ⟨x1, y1, hTO⟩, h1, h2⟩ := st
    obtain ⟨xs, x, c0, hqx, hx, hy⟩ := hg
    obtain ⟨its, rv, p, _⟩ := I.list hqx
    obtain ⟨u, hu, ru⟩ := rv.get hx
    have hzl : z < s.heap.objs.size := Heap.lt_size hz
    have hd : X.A.in1.handled = none := I.ok.hd hc
    have l1 : i < its.toArray.size := by simpa using (List.getElem?_eq_some_iff.mp hu).1
    have l2 : i < x0.cps.size := (Array.getElem?_eq_some_iff.mp hy).1
    refine wpAny_pyNext_zipD2_item (zipSepS D) (Draws.list hd i1 a D.l1i1 its.toArray) (Draws.text hd i2 x0 t0) hz hTI hTO ⟨h1, p.isList⟩ h2 l1 l2 fun v1 v2 h' tk e1 e2 z' TO' st1 st2 hT hsz hk => ?_
    obtain ⟨h1', _⟩ := st1
    have e1 : v1 = u := by
      have z : its.toArray[i]? = some v1 := e1
      have q : its.toArray[i]? = some u := by simpa using hu
      rw [q] at z
      exact (Option.some.inj z).symm
    obtain ⟨c2, t2, e2, e3⟩ := e2
    rw [hy] at e2
    obtain rfl := Option.some.inj e2
    subst e1 e3
    refine ⟨_, rfl, wpAny_letOwnedTupleGo_zip (s := { s with heap := h', toks := tk }) z' fun h'' z'' sb => ?_⟩
    have hT2 : h''.get? s.heap.objs.size = some { cls := .type "tuple", data := .seq #[v1, .str ⟨#[c0]⟩ t2] } := (sb.2 _ (Nat.ne_of_gt hzl)).trans hT
    have new : ObjOk X.prog X.w (upd H s.heap.objs.size (.tup [x, .str ⟨#[c0]⟩])) h'' s.heap.objs.size (.tup [x, .str ⟨#[c0]⟩]) :=
      ⟨by show 2 ≤ sizeLine; decide, [v1, .str ⟨#[c0]⟩ t2], .cons ru (.cons ⟨t2, rfl⟩ .nil), ⟨_, hT2, rfl, _, rfl⟩⟩
    have I1 : Inv X pins σ (upd H s.heap.objs.size (.tup [x, .str ⟨#[c0]⟩])) { s with heap := h'', toks := tk } :=
      I.turnedNew (t' := tk) (ch := [z, TI, TO, i1, i2]) (fun c o hb q => (sb.2 c (fun q' => hb (by simp [q']))).trans (hk c o (fun q' => hb (by simp [q'])) (fun q' => hb (by simp [q'])) (fun q' => hb (by simp [q'])) (fun q' => hb (by simp [q'])) q)) hf (Nat.le_refl _) new
    refine ⟨.ref s.heap.objs.size, _, I1, rfl, ⟨_, x, c0, rfl, I.hok.fresh (Nat.le_refl _), rfl, fun l hl => by rw [I.list_inj hl hqx]; exact hx, hy⟩, ⟨z'', ?_, ⟨v1, .str ⟨#[c0]⟩ t2, ?_⟩, ?_, ?_⟩, fun c hcm => ?_⟩
    · exact (sb.2 _ D.TIz).trans (hk _ _ D.TIz D.TITO D.TIi1 D.TIi2 hTI)
    · exact (sb.2 _ D.TOz).trans TO'
    · exact h1'.at fun o q => (sb.2 _ D.i1z).trans q
    · obtain ⟨o2, e2, r2⟩ := st2
      exact ⟨o2, (sb.2 _ D.i2z).trans e2, r2⟩
    · have hlt : c < s.heap.objs.size := by
        have e' : c = z ∨ c = TI ∨ c = TO ∨ c = i1 ∨ c = i2 := by simpa using hcm
        rcases e' with q | q | q | q | q
        · rw [q]; exact hzl
        · rw [q]; exact Heap.lt_size hTI
        · rw [q]; exact Heap.lt_size hTO
        · rw [q]; obtain ⟨_, e1, _⟩ := h1; exact Heap.lt_size e1
        · rw [q]; obtain ⟨_, e2, _⟩ := h2; exact Heap.lt_size e2
      rw [upd_ne (Nat.ne_of_lt hlt)]
      exact (hf c hcm).1
  done := by
    intro X hP hw hK hc i pins s σ H E I hf st hg
    subst hP hw hK
    obtain ⟨hz, hTI, ⟨x1, y1, hTO⟩, h1, h2⟩ := st
    obtain ⟨xs, hqx, g1, g2, hend⟩ := hg
    obtain ⟨its, rv, p, _⟩ := I.list hqx
    have l1 : xs.length = its.toArray.size := by simpa using rv.length
    have hd : X.A.in1.handled = none := I.ok.hd hc
    exact wpAny_pyNext_zipD2_end (zipSepS D) (Draws.list hd i1 a D.l1i1 its.toArray) (Draws.text hd i2 x0 t0) hz hTI hTO ⟨h1, p.isList⟩ h2 (by omega) (by omega) (by omega) fun h' tk hk => ⟨rfl, I.turnedL (t' := tk) (ch := [z, TI, TO, i1, i2]) (fun c o hb q =>
      hk c o (fun q' => hb (by simp [q'])) (fun q' => hb (by simp [q'])) (fun q' => hb (by simp [q'])) (fun q' => hb (by simp [q'])) q) hf⟩
  self := fun A i s Q E st h => wpAny_pyIter_zip st.1 h
def iZipS (K : PySem.W.Frag) (ta : TA) : TI := fun σ H R => ta σ H fun vs H1 => ∃ a z xs, vs = [.ref a, .str z] ∧ SqL K H1 a xs ∧ R (ItzS K a z) H1
theorem pi_zipS {X : Cx} {e e2 : Expr} {ta : TA} {p pos tpos : Pos} {elts : List Expr} {kk : Nat} (hg : Gl X "zip") (hm : X.mg "zip" = none) (ha : PA X [e, e2] ta)
    (hs : starEach [e, e2] X.env = (false, eval e X.env) :: starEach [e2] X.env := by rfl) (hpl : (backTo pos (starEach [e2] X.env)).any (·.1) = false := by rfl) :
    PI X (.Tuple elts kk tpos) (.Call (.Name "zip" p) [e, e2] [] pos) (iZipS X.K ta) := by
  refine ⟨fun pins s σ H R I h => ?_⟩
  refine Call_ (ld_blt I hg hm PyProof.Rows.boot_zip (PyProof.Rows.callWith_type1 (thn (ha.run pos pins s σ H _ I h) fun us s1 ⟨vs, H1, I1, r1, q1⟩ => ?_) hs hpl))
  obtain ⟨a, z, xs, ex, hqx, q⟩ := q1
  subst ex
  cases r1 with
  | cons r rr =>
    cases rr with
    | cons r' rr =>
      cases rr
      cases r
      obtain ⟨t0, rfl⟩ := r'
      have fresh5 : ∀ c, c ∈ [s1.heap.objs.size + 4, s1.heap.objs.size + 2, s1.heap.objs.size + 3, s1.heap.objs.size, s1.heap.objs.size + 1] → FpOk X pins H1 c := fun c hcm => by
        have e' : c = s1.heap.objs.size + 4 ∨ c = s1.heap.objs.size + 2 ∨ c = s1.heap.objs.size + 3 ∨ c = s1.heap.objs.size ∨ c = s1.heap.objs.size + 1 := by simpa using hcm
        have hle : s1.heap.objs.size ≤ c := by
          rcases e' with z | z | z | z | z
          · rw [z]; exact Nat.le_add_right _ _
          · rw [z]; exact Nat.le_add_right _ _
          · rw [z]; exact Nat.le_add_right _ _
          · rw [z]; exact Nat.le_refl _
          · rw [z]; exact Nat.le_add_right _ _
        exact I1.fpOk hle (I1.hok.fresh hle)
      obtain ⟨its, rv, p1, _⟩ := I1.list hqx
      refine zip_begins2 (begins_list a its.toArray) (begins_text z t0) p1.isList trivial fun h' hz hTI hTO h1 h2 hsz hk => wpAny_pyIter_zip hz ?_
      have I2 : Inv X pins σ H1 { s1 with heap := h' } := I1.kept (t' := s1.toks) hk
      exact ⟨s1.heap.objs.size + 4, [s1.heap.objs.size + 4, s1.heap.objs.size + 2, s1.heap.objs.size + 3, s1.heap.objs.size, s1.heap.objs.size + 1], _, _, H1, rfl, I2, turn_zipS z t0 (PySem.W.ktu_apart s1.heap.objs.size a a p1.lt p1.lt), ⟨hz, hTI, ⟨_, _, hTO⟩, ⟨_, h1, rfl, rfl⟩, ⟨_, h2, rfl, rfl⟩⟩, fresh5, q⟩
theorem walk_zipS {K : PySem.W.Frag} {a : Addr} {z : Str} {xs : List V} {n : Nat} (hn : n = min xs.length z.cps.size) : Walk (ItzS K a z) n (fun H => SqL K H a xs) (YPair (fun i => xs[i]?) (fun i => z.cps[i]?.map fun c => V.str ⟨#[c]⟩)) := by
  subst hn
  refine ⟨fun i _ hi q => ?_, fun _ q => ⟨xs, q, by omega⟩, fun i H v H' _ q y => ?_⟩
  · exact ⟨xs, xs[i]'(by omega), z.cps[i]'(by omega), q, by simp, by simp⟩
  · obtain ⟨T, x, c, h1, h2, h3, h4, h5⟩ := y
    exact ⟨T, x, _, h1, h2, h3, h4 xs q, by show z.cps[i]?.map _ = _; rw [h5]; rfl⟩
end SK
namespace SK
open PySem PySem.Spec PyProof.Rows L2 LamX NdefX
open K0 (De DeAll XCl spX withX)
/-! ### the ways of a grove -/
theorem atI_last {α : Type} {l : List α} {v : α} (h : l.getLast? = some v) : atI l (-1) = some v := by
  cases l with
  | nil => cases h
  | cons x l =>
    rw [List.getLast?_eq_getElem?] at h
    unfold atI ixN
    rw [if_neg (by decide), if_pos (by simp only [List.length_cons]; omega)]
    show (x :: l)[((-1 : Int) + ((x :: l).length : Nat)).toNat]? = some v
    have e : ((-1 : Int) + ((x :: l).length : Nat)).toNat = (x :: l).length - 1 := by
      simp only [List.length_cons]
      omega
    rw [e]
    exact h
theorem nmV_last {nm : Nat → Str} {l : List Nat} {j : Nat} (h : l.getLast? = some j) : atI (nmV nm l) (-1) = some (.str (nm j)) := by
  refine atI_last ?_
  unfold nmV
  rw [List.getLast?_map, h]
  rfl
/-- the rule at a place of one's own -/
theorem GrP.rule {K : PySem.W.Frag} {CG : Addr} {H : Hp} {ls : Str} {nm : Nat → Str} {R : RuleT} {n root : Nat} {ord : List Nat} {a dx D Sz My : Addr} {fs : List (Str × V)} {kvs ksz kmy : List (Key × V)} {A : List Addr} (g : GrP K CG H ls nm R n root ord a dx D Sz My fs kvs ksz kmy A) {j : Nat} (hj : j < n) :
    ∃ t d, DGet H D (.str (nm j)) (some (.ref t)) ∧ H t = some (.tup [.bl (R j).mark, .bl (R j).flag, .ref d]) ∧ H d = some (.dK (encP nm (R j))) := by
  obtain ⟨t, d, h1, h2, h3, _⟩ := g.own.vs j hj
  have z := DGet.k (k := (.inr (nm j) : Key)) g.own.dc
  rw [h1] at z
  exact ⟨t, d, z, h2, h3⟩
theorem wk_lt {ls : Str} {nm : Nat → Str} {R : RuleT} {n root : Nat} (T : Told ls nm R n root) {w : List Nat} {j : Nat} (h : wk R root w = some j) : j < n := by
  have z := (wk_len T.g h).1
  have := T.rt
  omega
def spRulesM (K : PySem.W.Frag) (CG : Addr) : Sp := fun vs H Q _ => ∃ (x : V) (ls : Str) (nm : Nat → Str) (R : RuleT) (n root : Nat) (A : List Addr), vs = [x] ∧ GroveF K CG H x ls nm R n root A ∧ Told ls nm R n root ∧
  ∀ (H' : Hp) (ord : List Nat) (O : Addr) (kv2 : List (Key × V)) (A2 : List Addr), Same H H' → (∀ b ∈ A2, H b = none) → OwnR H' nm R n ord O kv2 A2 → Q (.ref O) H'
def spWay (K : PySem.W.Frag) (CG : Addr) : Sp := fun vs H Q _ => ∃ (x : V) (y : Str) (ls : Str) (nm : Nat → Str) (R : RuleT) (n root : Nat) (A : List Addr), vs = [x, .str y] ∧ GroveF K CG H x ls nm R n root A ∧ Told ls nm R n root ∧ y.cps.size ≤ 1000 ∧
  ∀ (H' : Hp) (p : Addr), Same H H' → H p = none → H' p = some (.lst (nmV nm (wayL R root y.cps.toList))) → Q (.ref p) H'
def spHasG (K : PySem.W.Frag) (CG : Addr) : Sp := fun vs H Q _ => ∃ (x : V) (y : Str) (ls : Str) (nm : Nat → Str) (R : RuleT) (n root : Nat) (A : List Addr), vs = [x, .str y] ∧ GroveF K CG H x ls nm R n root A ∧ Told ls nm R n root ∧ y.cps.size ≤ 1000 ∧
  ∀ (H' : Hp), Same H H' → Q (.bl (wk R root y.cps.toList).isSome) H'
section
variable {P : Program} {w : World} {K : PySem.W.Frag} {mg : Str → Option Value} {base : Heap} {f fCo fWay CG : Addr} {fd fdCo fdWay : FuncData}
theorem ok_rulesM (F : Fun K "rules" "Grove.rules" (gm 1) f fd) (R0 : GroveK K CG) (gCo : mg "copied" = some (.ref fCo)) (kCo : PySem.W.keepIn K (.ref fCo) = true) (GCo : FnOk P w K mg base CX0 1 fCo fdCo ["rules"] spCopy) (bCo : Binds K fdCo ["rules"] []) : FnOk P w K mg base CX0 2 f fd ["self"] (spRulesM K CG) := by
  have S0 : FnScope ["self"] ["self"] (defScope (gm 1)) := ⟨rfl, rfl, rfl, by decide +kernel, rfl, by decide +kernel, by decide +kernel⟩
  have nd := S0.nd
  refine F.ok S0 (fun vs H Q E h => ?_) (fun cdv A0 outer s H vs Q E hr h => ?_)
  · obtain ⟨x, ls, nm, R, n, root, A, rfl, _⟩ := h
    rfl
  · obtain ⟨x, ls, nm, R, n, root, A, rfl, ⟨ord, a, dx, D, Sz, My, fs, kvs, ksz, kmy, rfl, G⟩, T, kk⟩ := h
    refine ⟨_, (pss_one (ps_ret (pe_call GCo hr (by rfl) gCo kCo bCo .nil pass0 (pa_cons (pe_fld (pv 0) rfl) pa_nil)))), ?_⟩
    have n1 := T.n1
    exact ⟨V.ref a, rfl, a, CG, dx, _, _, rfl, G.ins, R0.cl, R0.na _ (by simp [sev7]), G.f1, D, _, nm, R, n, ord, kvs, rfl, T.g, fun i _ => Nat.le_trans (parts_few T.L T.g i) (by decide), by omega, G.own.dc, G.own.rules, fun H' O kv2 A2 s2 fr own => kk H' ord O kv2 A2 s2 fr own⟩
theorem ok_way (F : Fun K "way" "Grove.way" (gm 2) f fd) (R0 : GroveK K CG) : FnOk P w K mg base CX0 1 f fd ["self", "word"] (spWay K CG) := by
  have S0 : FnScope ["self", "word", "names", "letter", "parts"] ["self", "word"] (defScope (gm 2)) := ⟨rfl, rfl, rfl, by decide +kernel, rfl, by decide +kernel, by decide +kernel⟩
  have nd := S0.nd
  refine F.ok S0 (fun vs H Q E h => ?_) (fun cdv A0 outer s H vs Q E hr h => ?_)
  · obtain ⟨x, y, ls, nm, R, n, root, A, rfl, _⟩ := h
    rfl
  · obtain ⟨x, y, ls, nm, R, n, root, A, rfl, ⟨ord, a, dx, D, Sz, My, fs, kvs, ksz, kmy, rfl, G⟩, T, hy, kk⟩ := h
    have hu := hu_of hr
    have b1 : (5000 : Nat) < sizeLine := by decide
    refine ⟨_, (pss_cons (ps_set (i := 2) nd rfl (Or.inl rfl) (pe_lst (pa_cons (pe_fld (pv 0) rfl) pa_nil)))
        (pss_cons (ps_for PassesOwn.never rfl (pi_str (pv 1)) (pg_name (i := 3) nd rfl (Or.inl rfl)) (pss_cons (ps_set (i := 4) nd rfl (Or.inl rfl) (pe_ix ix_seq (pe_dget hu (pe_fld (pv 0) rfl) (pe_ix ix_list (pv 2) (pe_un un_neg pe_int) (fun _ _ => rfl)) (fun _ _ => rfl)) pe_int (fun _ _ => rfl)))
        (pss_cons (ps_if (pt_cmp (pc_dnotin hu (pv 3) (pv 4))) (pss_one ps_break) pss_nil)
        (pss_one (ps_expr (pe_bm PySem.F.plainAttrs_list PySem.F.slot_list_append PySem.F.type_list_append mt_append (pv 2) (pa_cons (pe_dget hu (pv 4) (pv 3) (fun _ _ => rfl)) pa_nil)))))))
        (pss_one (ps_ret (pv 2))))), ?_⟩
    refine ⟨V.ref a, rfl, a, CG, dx, _, _, rfl, G.ins, R0.cl, R0.na _ (by simp [sev7]), G.f5, (by show 1 ≤ sizeLine; decide), fun p np => ?_⟩
    have elen : y.cps.toList.length = y.cps.size := Array.length_toList
    refine ⟨V.str y, rfl, y, rfl, for_it walk_str (fun k σ G1 => ∃ (x3 x4 : Option V) (j : Nat), σ = [some (.ref a), some (.str y), some (.ref p), x3, x4] ∧ (∀ b o, b ≠ p → H b = some o → G1 b = some o) ∧ G1 p = some (.lst (nmV nm (wayL R root (y.cps.toList.take k)))) ∧ wk R root (y.cps.toList.take k) = some j)
      ⟨none, none, root, rfl, fun b o nb e => by rw [upd_ne nb]; exact e, upd_same, rfl⟩ (fun _ _ _ _ _ => trivial) ?_ ?_⟩
    · rintro k x σ G1 G2 hk ⟨x3, x4, j, rfl, k1, k2, k3⟩ ⟨rfl, c, hc, rfl⟩
      have hcl : y.cps.toList[k]? = some c := by simpa using hc
      have hj : j < n := wk_lt T k3
      have GG := G.keep (H' := G2) fun b _ o e _ => k1 b o (ne_of_none e np) e
      obtain ⟨t, d, q1, q2, q3⟩ := GG.rule hj
      have hpl := parts_few T.L T.g j
      refine ⟨V.ref a, rfl, a, CG, dx, _, _, rfl, GG.ins, R0.cl, R0.na _ (by simp [sev7]), G.f1, V.ref p, rfl, 1, rfl, p, _, _, _, rfl, rfl, .inl (.inl k2), nmV_last (way_last k3).1, D, _, rfl, q1, rIx_rows (j := 2) (.inr q2) rfl ?_⟩
      have dg := DGet.k (k := (.inr (sg c) : Key)) q3
      rw [encP_get] at dg
      refine ⟨V.str (sg c), rfl, V.ref d, rfl, d, _, rfl, dg, _, rfl, ?_⟩
      cases e : (R j).parts.lookup c with
      | none =>
        refine iteT ⟨V.ref p, rfl, kk G2 p (fun b o e => k1 b o (ne_of_none e np) e) np ?_⟩
        have ew : y.cps.toList = y.cps.toList.take k ++ c :: y.cps.toList.drop (k + 1) := by
          have z := List.drop_eq_getElem_cons (List.getElem?_eq_some_iff.mp hcl).1
          rw [(List.getElem?_eq_some_iff.mp hcl).2] at z
          rw [← z, List.take_append_drop]
        rw [k2, ew, way_stop k3 e, ← ew]
      | some m =>
        rw [e] at dg
        have wl := way_le (R := R) (w := y.cps.toList.take k) (i := root)
        rw [List.length_take] at wl
        refine iteF ⟨V.ref p, rfl, .inl ⟨rfl, _, .inl (.inl k2)⟩, V.ref d, rfl, V.str (sg c), rfl, d, _, rfl, dg, p, _, _, rfl, rfl, k2, (by unfold nmV; rw [List.length_map]; omega), _, _, m, rfl, fun b o nb e => by rw [upd_ne nb]; exact k1 b o nb e, ?_, ?_⟩
        · rw [take_snoc hcl, way_snoc k3 e, nmV_snoc]
          exact upd_same
        · rw [take_snoc hcl, wk_snoc k3]
          exact e
    · rintro σ G1 ⟨x3, x4, j, rfl, k1, k2, k3⟩
      rw [← elen, List.take_length] at k2
      exact ⟨V.ref p, rfl, kk G1 p (fun b o e => k1 b o (ne_of_none e np) e) np k2⟩
theorem ok_hasG (F : Fun K "has" "Grove.has" (gm 3) f fd) (R0 : GroveK K CG) (gI : mg "isinstance" = none) (g_str : mg "str" = none) (gN : mg "len" = none) (MWay : Meth K CG "way" fWay) (GWay : FnOk P w K mg base CX0 1 fWay fdWay ["self", "word"] (spWay K CG)) (bWay : Binds K fdWay ["self", "word"] []) : FnOk P w K mg base CX0 2 f fd ["self", "place"] (spHasG K CG) := by
  have S0 : FnScope ["self", "place"] ["self", "place"] (defScope (gm 3)) := ⟨rfl, rfl, rfl, by decide +kernel, rfl, by decide +kernel, by decide +kernel⟩
  have nd := S0.nd
  refine F.ok S0 (fun vs H Q E h => ?_) (fun cdv A0 outer s H vs Q E hr h => ?_)
  · obtain ⟨x, y, ls, nm, R, n, root, A, rfl, _⟩ := h
    rfl
  · obtain ⟨x, y, ls, nm, R, n, root, A, rfl, hG, T, hy, kk⟩ := h
    obtain ⟨ord, a, dx, D, Sz, My, fs, kvs, ksz, kmy, rfl, G⟩ := id hG
    have b1 : (5000 : Nat) < sizeLine := by decide
    have el : y.length = y.cps.size := rfl
    refine ⟨_, (pss_one (ps_ret (pe_and (pe_callB call_isi (by rfl) gI PyProof.Rows.boot_isinstance (pa_cons (pv 1) (pa_cons (pe_bltn (v := .ty "str") (by rfl) g_str PyProof.Rows.boot_str rfl) pa_nil))) (pe_one (pe_cmpR op_eq (pe_callB call_len_seq (by rfl) gN PySem.boot_len (pa_cons (pe_meth (pv 0) R0.cl MWay GWay hr bWay .nil pass0 (pa_cons (pv 1) pa_nil)) pa_nil)) (pe_op op_add (pe_callB call_len_str (by rfl) gN PySem.boot_len (pa_cons (pv 1) pa_nil)) pe_int) (nomark _)))))), ?_⟩
    refine ⟨V.str y, rfl, V.str y, .ty "str", .type "str", .type "str", true, rfl, .ty _, .base (.str _), kit_ty (by show kitB "str" "str" = some true; decide +kernel), _, rfl, iteT ?_⟩
    refine ⟨V.ref a, rfl, a, dx, fs, rfl, G.ins, G.no _ (by simp only [sev7]; decide), V.str y, rfl, V.ref a, y, ls, nm, R, n, root, A, rfl, hG, T, hy, fun H1 p s1 np hp => ?_⟩
    refine ⟨p, _, rfl, .inl (.inl (.inl hp)), V.str y, rfl, y, rfl, (by omega), _, _, rfl, rfl, rfl, ?_⟩
    have z : decide (V.int ((nmV nm (wayL R root y.cps.toList)).length : Nat) = V.int ((y.length : Int) + 1)) = (wk R root y.cps.toList).isSome := by
      have e1 : (nmV nm (wayL R root y.cps.toList)).length = (wayL R root y.cps.toList).length := List.length_map _
      have e2 : y.cps.toList.length = y.cps.size := Array.length_toList
      rw [e1]
      cases e : wk R root y.cps.toList with
      | none =>
        have q := way_short e
        refine decide_eq_false fun z => ?_
        injection z with z
        omega
      | some j =>
        have q := (way_last e).2
        refine decide_eq_true ?_
        rw [q, el, ← e2]
        rfl
    rw [z]
    exact kk H1 s1
end
end SK
namespace SK
open PySem PySem.Spec PyProof.Rows L2 LamX NdefX
open K0 (De DeAll XCl spX withX)
/-! ### what a grove tells of places -/
theorem lcF_str {g : TG} {tt : TT} {te : TE} {vs : List Nat} {σ : St} {H1 : Hp} {D : Addr} {Qd : Hp → Prop} {z : Str} (nD : H1 D = none) (f : Nat → V) (c : Nat → Bool) (hz : z.cps.size < sizeLine)
    (step : ∀ (i x : Nat) (H : Hp), z.cps.toList[i]? = some x → Same H1 H → TurnF g tt te vs σ (.str (sg x)) (f x) (c x) H) (fin : ∀ H, Same H1 H → H D = some (.lst ((z.cps.toList.filter c).map f)) → Qd H) :
    ∃ W : Nat → Nat → Hp → Prop, (∃ m, W 0 m (upd H1 D (.lst []))) ∧ ∀ i m H, W i m H →
      ((Its z).stop i H ∧ Qd H) ∨ ((Its z).go i H ∧ ∃ Nx : Hp → Prop, (∀ H', Nx H' → ∃ m', m' < m ∧ W (i + 1) m' H') ∧ ∀ x H', (Its z).yld i H x H' → g x (wipe σ vs) H' fun σ2 H2 => wipe σ2 vs = wipe σ vs ∧ tt σ2 H2 fun b H3 =>
        if b = true then te σ2 H3 fun y H4 => ∃ acc, H4 D = some (.lst acc) ∧ acc.length < sizeLine ∧ Nx (upd H4 D (.lst (acc ++ [y]))) else Nx H3) := by
  have hl : z.cps.toList.length = z.cps.size := Array.length_toList
  refine lc_it walk_str (fun i H => Same H1 H ∧ H D = some (.lst (((z.cps.toList.take i).filter c).map f))) ⟨same_new nD, upd_same⟩ (fun _ _ _ _ => trivial) ?_ fun H p => fin H p.1 (by rw [← hl, List.take_length] at p; exact p.2)
  rintro i x H H' hi ⟨s, hD⟩ ⟨rfl, y, hy, rfl⟩
  have hy : z.cps.toList[i]? = some y := by simpa using hy
  refine step i y H' hy s _ _ (fun hc => ⟨_, hD, Nat.lt_of_le_of_lt filt_len (by rw [hl]; exact hz), same_upd nD s, ?_⟩) fun hc => ⟨s, ?_⟩
  · rw [filt_snoc hy, if_pos hc]
    exact upd_same
  · rw [filt_snoc hy, if_neg (by rw [hc]; simp), List.append_nil]
    exact hD
def spNameAt (K : PySem.W.Frag) (CG CN : Addr) : Sp := fun vs H Q E => ∃ (x : V) (y : Str) (ls : Str) (nm : Nat → Str) (R : RuleT) (n root : Nat) (A : List Addr), vs = [x, .str y] ∧ GroveF K CG H x ls nm R n root A ∧ Told ls nm R n root ∧ y.cps.size ≤ 1000 ∧
  (∀ j, wk R root y.cps.toList = some j → ∀ H', Same H H' → Q (.str (nm j)) H') ∧ (wk R root y.cps.toList = none → Thrown E CN H [("place", .str y)])
def spRowG (K : PySem.W.Frag) (CG CN : Addr) : Sp := fun vs H Q E => ∃ (x : V) (y : Str) (ls : Str) (nm : Nat → Str) (R : RuleT) (n root : Nat) (A : List Addr), vs = [x, .str y] ∧ GroveF K CG H x ls nm R n root A ∧ Told ls nm R n root ∧ y.cps.size ≤ 1000 ∧
  (∀ j, wk R root y.cps.toList = some j → ∀ H' t, Same H H' → H' t = some (.tup [.str y, .bl (R j).mark, .bl (R j).flag]) → Q (.ref t) H') ∧ (wk R root y.cps.toList = none → Thrown E CN H [("place", .str y)])
def belG (ls : Str) (R : RuleT) (j : Nat) : Str := ⟨(ls.cps.toList.filter fun c => ((R j).parts.lookup c).isSome).toArray⟩
def spBelG (K : PySem.W.Frag) (CG CN : Addr) : Sp := fun vs H Q E => ∃ (x : V) (y : Str) (ls : Str) (nm : Nat → Str) (R : RuleT) (n root : Nat) (A : List Addr), vs = [x, .str y] ∧ GroveF K CG H x ls nm R n root A ∧ Told ls nm R n root ∧ y.cps.size ≤ 1000 ∧
  (∀ j, wk R root y.cps.toList = some j → ∀ H', Same H H' → Q (.str (belG ls R j)) H') ∧ (wk R root y.cps.toList = none → Thrown E CN H [("place", .str y)])
def spCkW (K : PySem.W.Frag) (CG : Addr) : Sp := fun vs H Q _ => ∃ (x : V) (y : Str) (ls : Str) (nm : Nat → Str) (R : RuleT) (n root : Nat) (A : List Addr), vs = [x, .str y] ∧ GroveF K CG H x ls nm R n root A ∧ OverL ls y ∧ ∀ H', Same H H' → Q .non H'
def spBegG (K : PySem.W.Frag) (CG : Addr) : Sp := fun vs H Q _ => ∃ (x : V) (y : Str) (ls : Str) (nm : Nat → Str) (R : RuleT) (n root : Nat) (A : List Addr), vs = [x, .str y] ∧ GroveF K CG H x ls nm R n root A ∧ Told ls nm R n root ∧ OverL ls y ∧
  ∀ H', Same H H' → Q (.int (beg R root y.cps.toList : Nat)) H'
section
variable {P : Program} {w : World} {K : PySem.W.Frag} {mg : Str → Option Value} {base : Heap} {f fHas fWay fNa fW fCk CG CN : Addr} {fd fdHas fdWay fdNa fdW fdCk : FuncData}
theorem ok_nameAt (F : Fun K "name_at" "Grove.name_at" (gm 4) f fd) (R0 : GroveK K CG) (D0 : XR P w K mg base "NoPlace" CN ["place"]) (MHas : Meth K CG "has" fHas) (GHas : FnOk P w K mg base CX0 2 fHas fdHas ["self", "place"] (spHasG K CG)) (bHas : Binds K fdHas ["self", "place"] []) (MWay : Meth K CG "way" fWay) (GWay : FnOk P w K mg base CX0 1 fWay fdWay ["self", "word"] (spWay K CG)) (bWay : Binds K fdWay ["self", "word"] []) : FnOk P w K mg base (L2.CX P w) 3 f fd ["self", "place"] (spNameAt K CG CN) := by
  have S0 : FnScope ["self", "place"] ["self", "place"] (defScope (gm 4)) := ⟨rfl, rfl, rfl, by decide +kernel, rfl, by decide +kernel, by decide +kernel⟩
  have nd := S0.nd
  refine F.okX S0 (fun vs H Q E h => ?_) (fun cdv A0 outer s H vs Q E hr h => ?_)
  · obtain ⟨x, y, ls, nm, R, n, root, A, rfl, _⟩ := h
    rfl
  · obtain ⟨x, y, ls, nm, R, n, root, A, rfl, hG, T, hy, k1, k2⟩ := h
    obtain ⟨ord, a, dx, D, Sz, My, fs, kvs, ksz, kmy, rfl, G⟩ := id hG
    obtain ⟨fi, fdi, iC, tI, F1, b1⟩ := D0.ini
    have hr2 : Room 2 _ := hr
    have hr1 : Room 1 _ := hr.mono (by decide)
    refine ⟨_, (pss_cons (ps_if (pt_not (pt_val (pe_meth (pv 0) R0.cl MHas GHas hr2 bHas .nil pass0 (pa_cons (pv 1) pa_nil)))) (pss_one (ps_raise rfl (takes_of rfl rfl rfl rfl) (pmk_oex D0.cl.T iC tI F1 hr2 b1 .nil pass0 (by rfl) D0.gC (pa_cons (pv 1) pa_nil)))) pss_nil)
        (pss_one (ps_ret (pe_ix ix_list (pe_meth (pv 0) R0.cl MWay GWay hr1 bWay .nil pass0 (pa_cons (pv 1) pa_nil)) (pe_un un_neg pe_int) (fun _ _ => rfl))))), ?_⟩
    refine ⟨V.ref a, rfl, a, dx, fs, rfl, G.ins, G.no _ (by simp only [sev7]; decide), V.str y, rfl, V.ref a, y, ls, nm, R, n, root, A, rfl, hG, T, hy, fun H1 s1 => ⟨_, rfl, ?_⟩⟩
    cases e : wk R root y.cps.toList with
    | none => exact iteT ⟨V.str y, rfl, rd_mk rfl (by show 1 ≤ 1000; decide) fun dx' H' s' n' q => (k2 e).mono s1 H' dx' s' n' q⟩
    | some j =>
      have hG1 := hG.keep (Kp.of s1)
      refine iteF ⟨V.ref a, rfl, a, dx, fs, rfl, s1 _ _ G.ins, G.no _ (by simp only [sev7]; decide), V.str y, rfl, V.ref a, y, ls, nm, R, n, root, A, rfl, hG1, T, hy, fun H2 p s2 np hp => ?_⟩
      exact ⟨1, rfl, p, _, _, _, rfl, rfl, .inl (.inl hp), nmV_last (way_last e).1, k1 j e H2 (s1.trans s2)⟩
theorem ok_rowG (F : Fun K "row" "Grove.row" (gm 5) f fd) (R0 : GroveK K CG) (MNa : Meth K CG "name_at" fNa) (GNa : FnOk P w K mg base (L2.CX P w) 3 fNa fdNa ["self", "place"] (spNameAt K CG CN)) (bNa : Binds K fdNa ["self", "place"] []) : FnOk P w K mg base (L2.CX P w) 4 f fd ["self", "place"] (spRowG K CG CN) := by
  have S0 : FnScope ["self", "place", "mark", "flag", "_"] ["self", "place"] (defScope (gm 5)) := ⟨rfl, rfl, rfl, by decide +kernel, rfl, by decide +kernel, by decide +kernel⟩
  have nd := S0.nd
  refine F.okX S0 (fun vs H Q E h => ?_) (fun cdv A0 outer s H vs Q E hr h => ?_)
  · obtain ⟨x, y, ls, nm, R, n, root, A, rfl, _⟩ := h
    rfl
  · obtain ⟨x, y, ls, nm, R, n, root, A, rfl, hG, T, hy, k1, k2⟩ := h
    obtain ⟨ord, a, dx, D, Sz, My, fs, kvs, ksz, kmy, rfl, G⟩ := id hG
    have hu := hu_of hr
    refine ⟨_, (pss_cons (ps_asg (pe_dget hu (pe_fld (pv 0) rfl) (pe_meth (pv 0) R0.cl MNa GNa hr bNa .nil (passes_call (takes_of rfl rfl rfl rfl) (fun _ _ _ _ h => h)) (pa_cons (pv 1) pa_nil)) (fun _ _ => rfl)) (pg_tup rfl (pgs_cons (pg_name (i := 2) nd rfl (Or.inl rfl)) (pgs_cons (pg_name (i := 3) nd rfl (Or.inl rfl)) (pgs_cons (pg_name (i := 4) nd rfl (Or.inl rfl)) pgs_nil)))))
        (pss_one (ps_ret (pe_tup (pa_cons (pv 1) (pa_cons (pv 2) (pa_cons (pv 3) pa_nil))))))), ?_⟩
    refine ⟨V.ref a, rfl, a, CG, dx, _, _, rfl, G.ins, R0.cl, R0.na _ (by simp [sev7]), G.f1, V.ref a, rfl, a, dx, fs, rfl, G.ins, G.no _ (by simp only [sev7]; decide), V.str y, rfl, V.ref a, y, ls, nm, R, n, root, A, rfl, hG, T, hy, fun j e H1 s1 => ?_, k2⟩
    have G1 := G.keep (Kp.of s1)
    obtain ⟨t, d, q1, q2, q3⟩ := G1.rule (wk_lt T e)
    refine ⟨D, _, rfl, q1, t, _, rfl, .inl (.inl q2), rfl, _, _, rfl, _, _, rfl, _, _, rfl, rfl, ?_⟩
    exact ⟨V.str y, rfl, V.bl (R j).mark, rfl, V.bl (R j).flag, rfl, (by show 3 ≤ sizeLine; decide), fun p np => k1 j e _ p (s1.trans (upd_new np)) upd_same⟩
theorem ok_belG (F : Fun K "below" "Grove.below" (gm 6) f fd) (R0 : GroveK K CG) (MNa : Meth K CG "name_at" fNa) (GNa : FnOk P w K mg base (L2.CX P w) 3 fNa fdNa ["self", "place"] (spNameAt K CG CN)) (bNa : Binds K fdNa ["self", "place"] []) : FnOk P w K mg base (L2.CX P w) 4 f fd ["self", "place"] (spBelG K CG CN) := by
  have S0 : FnScope ["self", "place", "parts", "letter"] ["self", "place"] (defScope (gm 6)) := ⟨rfl, rfl, rfl, by decide +kernel, rfl, by decide +kernel, by decide +kernel⟩
  have nd := S0.nd
  refine F.okX S0 (fun vs H Q E h => ?_) (fun cdv A0 outer s H vs Q E hr h => ?_)
  · obtain ⟨x, y, ls, nm, R, n, root, A, rfl, _⟩ := h
    rfl
  · obtain ⟨x, y, ls, nm, R, n, root, A, rfl, hG, T, hy, k1, k2⟩ := h
    obtain ⟨ord, a, dx, D, Sz, My, fs, kvs, ksz, kmy, rfl, G⟩ := id hG
    have hu := hu_of hr
    have b1 : (5000 : Nat) < sizeLine := by decide
    refine ⟨_, (pss_cons (ps_set (i := 2) nd rfl (Or.inr rfl) (pe_ix ix_seq (pe_dget hu (pe_fld (pv 0) rfl) (pe_meth (pv 0) R0.cl MNa GNa hr bNa .nil (passes_call (takes_of rfl rfl rfl rfl) (fun _ _ _ _ h => h)) (pa_cons (pv 1) pa_nil)) (fun _ _ => rfl)) pe_int (fun _ _ => rfl)))
        (pss_one (ps_ret (pe_bm PySem.F.plainAttrs_str PySem.F.slot_str_join PySem.F.type_str_join mt_join pe_str (pa_cons (pe_lc (own := [("letter", 3)]) (g := gName 3) rfl nd (pi_str (pe_fld (pv 0) rfl)) (blkOk_by (N := ["self", "place", "parts", "letter"]) (sc := defScope (gm 6)) (by decide +kernel)) (fun _ _ _ _ _ => pg_name (i := 3) nd rfl (Or.inl rfl)) (fun _ _ _ _ _ => (pts_one (pt_cmp (pc_din hu (pv 3) (pv 2))))) (fun _ _ _ _ _ => (pv 3))) pa_nil))))), ?_⟩
    refine ⟨V.ref a, rfl, a, CG, dx, _, _, rfl, G.ins, R0.cl, R0.na _ (by simp [sev7]), G.f1, V.ref a, rfl, a, dx, fs, rfl, G.ins, G.no _ (by simp only [sev7]; decide), V.str y, rfl, V.ref a, y, ls, nm, R, n, root, A, rfl, hG, T, hy, fun j e H1 s1 => ?_, k2⟩
    have G1 := G.keep (Kp.of s1)
    obtain ⟨t, d, q1, q2, q3⟩ := G1.rule (wk_lt T e)
    have h26 := T.L.hi
    refine ⟨D, _, rfl, q1, rIx_rows (j := 2) (.inr q2) rfl ?_⟩
    refine ⟨rfl, V.ref a, rfl, a, CG, dx, _, _, rfl, G1.ins, R0.cl, R0.na _ (by simp [sev7]), G.f4, ls, rfl, fun Dn nD => lcF_str nD (fun c => V.str (sg c)) (fun c => ((R j).parts.lookup c).isSome) (by omega) (fun m c G2 hc sG A B kA kB => ?_) fun G2 sG hDn => ?_⟩
    · have dg := DGet.k (k := (.inr (sg c) : Key)) (sG _ _ q3)
      rw [encP_get] at dg
      refine ⟨rfl, V.str (sg c), rfl, V.ref d, rfl, d, _, rfl, dg, _, rfl, ?_⟩
      cases e2 : (R j).parts.lookup c with
      | none => exact kB (by rw [e2]; rfl)
      | some m' => exact ⟨V.str (sg c), rfl, kA (by rw [e2]; rfl)⟩
    · have em : ((ls.cps.toList.filter fun c => ((R j).parts.lookup c).isSome).map fun c => V.str (sg c)) = ((ls.cps.toList.filter fun c => ((R j).parts.lookup c).isSome).map fun c => (⟨#[c]⟩ : Str)).map V.str := by
        rw [List.map_map]
        rfl
      rw [em] at hDn
      refine ⟨"", Dn, _, rfl, rfl, .inl (.inl (.inl hDn)), ?_, ?_⟩
      · rw [sum_ones]
        have z := List.length_filter_le (fun c => ((R j).parts.lookup c).isSome) ls.cps.toList
        have z3 : ls.cps.toList.length = ls.cps.size := Array.length_toList
        have z2 : (Str.ofString "").length = 0 := by decide
        rw [z2, Nat.mul_zero, Nat.add_zero]
        exact Nat.le_trans z (by omega)
      · rw [txt_join_chars]
        exact k1 j e G2 (s1.trans sG)
theorem ok_ckW (F : Fun K "check_word" "Grove.check_word" (gm 7) f fd) (R0 : GroveK K CG) (gW : mg "is_word" = some (.ref fW)) (kW : PySem.W.keepIn K (.ref fW) = true) (GW : FnOk P w K mg base CX0 1 fW fdW ["letters", "word"] (spWord K)) (bW : Binds K fdW ["letters", "word"] []) : FnOk P w K mg base CX0 2 f fd ["self", "word"] (spCkW K CG) := by
  have S0 : FnScope ["self", "word"] ["self", "word"] (defScope (gm 7)) := ⟨rfl, rfl, rfl, by decide +kernel, rfl, by decide +kernel, by decide +kernel⟩
  have nd := S0.nd
  refine F.ok S0 (fun vs H Q E h => ?_) (fun cdv A0 outer s H vs Q E hr h => ?_)
  · obtain ⟨x, y, ls, nm, R, n, root, A, rfl, _⟩ := h
    rfl
  · obtain ⟨x, y, ls, nm, R, n, root, A, rfl, hG, ho, kk⟩ := h
    obtain ⟨ord, a, dx, D, Sz, My, fs, kvs, ksz, kmy, rfl, G⟩ := id hG
    have hr1 : Room 1 _ := hr
    refine ⟨_, (pss_one (ps_if (pt_not (pt_val (pe_call GW hr1 (by rfl) gW kW bW .nil pass0 (pa_cons (pe_fld (pv 0) rfl) (pa_cons (pv 1) pa_nil))))) pss_dead pss_nil)), ?_⟩
    refine ⟨V.ref a, rfl, a, CG, dx, _, _, rfl, G.ins, R0.cl, R0.na _ (by simp [sev7]), G.f4, V.str y, rfl, ls, .str y, .str y, rfl, .str _, (fun z e => by injection e with e; subst e; exact Nat.le_trans ho.1 (by decide)), fun H1 s1 => ⟨_, rfl, ?_⟩⟩
    have e : okW ls (.str y) = true := by
      show (decide (y.cps.size ≤ 200) && y.cps.toList.all fun c => decide (c ∈ ls.cps.toList)) = true
      rw [Bool.and_eq_true, decide_eq_true_eq, List.all_eq_true]
      exact ⟨ho.1, fun c hc => decide_eq_true (ho.2 c hc)⟩
    rw [e]
    exact iteF (kk H1 s1)
theorem ok_begG (F : Fun K "begins" "Grove.begins" (gm 8) f fd) (R0 : GroveK K CG) (MCk : Meth K CG "check_word" fCk) (GCk : FnOk P w K mg base CX0 2 fCk fdCk ["self", "word"] (spCkW K CG)) (bCk : Binds K fdCk ["self", "word"] []) (MHas : Meth K CG "has" fHas) (GHas : FnOk P w K mg base CX0 2 fHas fdHas ["self", "place"] (spHasG K CG)) (bHas : Binds K fdHas ["self", "place"] []) (MWay : Meth K CG "way" fWay) (GWay : FnOk P w K mg base CX0 1 fWay fdWay ["self", "word"] (spWay K CG)) (bWay : Binds K fdWay ["self", "word"] []) : FnOk P w K mg base CX0 3 f fd ["self", "word"] (spBegG K CG) := by
  have S0 : FnScope ["self", "word"] ["self", "word"] (defScope (gm 8)) := ⟨rfl, rfl, rfl, by decide +kernel, rfl, by decide +kernel, by decide +kernel⟩
  have nd := S0.nd
  refine F.ok S0 (fun vs H Q E h => ?_) (fun cdv A0 outer s H vs Q E hr h => ?_)
  · obtain ⟨x, y, ls, nm, R, n, root, A, rfl, _⟩ := h
    rfl
  · obtain ⟨x, y, ls, nm, R, n, root, A, rfl, hG, T, ho, kk⟩ := h
    obtain ⟨ord, a, dx, D, Sz, My, fs, kvs, ksz, kmy, rfl, G⟩ := id hG
    have hu := hu_of hr
    have hr2 : Room 2 _ := hr
    have hr1 : Room 1 _ := hr.mono (by decide)
    have hy : y.cps.size ≤ 1000 := Nat.le_trans ho.1 (by decide)
    have noM : ∀ g : Str, g ∉ sev7 → fs.lookup g = none := G.no
    refine ⟨_, (pss_cons (ps_expr (pe_meth (pv 0) R0.cl MCk GCk hr2 bCk .nil pass0 (pa_cons (pv 1) pa_nil)))
        (pss_one (ps_ret (pe_ifExp (pt_val (pe_meth (pv 0) R0.cl MHas GHas hr2 bHas .nil pass0 (pa_cons (pv 1) pa_nil))) (pe_dget hu (pe_fld (pv 0) rfl) (pe_ix ix_list (pe_meth (pv 0) R0.cl MWay GWay hr1 bWay .nil pass0 (pa_cons (pv 1) pa_nil)) (pe_un un_neg pe_int) (fun _ _ => rfl)) (fun _ _ => rfl)) pe_int)))), ?_⟩
    refine ⟨V.ref a, rfl, a, dx, fs, rfl, G.ins, noM _ (by simp only [sev7]; decide), V.str y, rfl, V.ref a, y, ls, nm, R, n, root, A, rfl, hG, ho, fun H1 s1 => ?_⟩
    have hG1 := hG.keep (Kp.of s1)
    refine ⟨V.ref a, rfl, a, dx, fs, rfl, s1 _ _ G.ins, noM _ (by simp only [sev7]; decide), V.str y, rfl, V.ref a, y, ls, nm, R, n, root, A, rfl, hG1, T, hy, fun H2 s2 => ⟨_, rfl, ?_⟩⟩
    have s12 := s1.trans s2
    have hG2 := hG.keep (Kp.of s12)
    have G2 := G.keep (Kp.of s12)
    have ez : beg R root y.cps.toList = (match wk R root y.cps.toList with
      | some j => mn R j
      | none => 0) := rfl
    cases e : wk R root y.cps.toList with
    | none =>
      rw [e] at ez
      have z := kk H2 s12
      rw [ez] at z
      exact iteF z
    | some j =>
      rw [e] at ez
      refine iteT ⟨V.ref a, rfl, a, CG, dx, _, _, rfl, G2.ins, R0.cl, R0.na _ (by simp [sev7]), G.f3, V.ref a, rfl, a, dx, fs, rfl, G2.ins, noM _ (by simp only [sev7]; decide), V.str y, rfl, V.ref a, y, ls, nm, R, n, root, A, rfl, hG2, T, hy, fun H3 p s3 np hp => ?_⟩
      have dg := DGet.k (k := (.inr (nm j) : Key)) (s3 _ _ G2.m1)
      rw [G.m2 j (wk_lt T e)] at dg
      have z := kk H3 (s12.trans s3)
      rw [ez] at z
      exact ⟨1, rfl, p, _, _, _, rfl, rfl, .inl (.inl hp), nmV_last (way_last e).1, My, _, rfl, dg, z⟩
end
end SK
namespace SK
open PySem PySem.Spec PyProof.Rows L2 LamX NdefX
open K0 (De DeAll XCl spX withX)
/-! ### ranks -/
def spAhead (K : PySem.W.Frag) (CG : Addr) : Sp := fun vs H Q _ => ∃ (x : V) (i c : Nat) (ls : Str) (nm : Nat → Str) (R : RuleT) (n root : Nat) (A : List Addr), vs = [x, .str (nm i), .str (sg c)] ∧ GroveF K CG H x ls nm R n root A ∧ Told ls nm R n root ∧ i < n ∧ c ∈ ls.cps.toList ∧
  ∀ H', Same H H' → Q (.int (ahead ls.cps.toList R i c : Nat)) H'
def spRankG (K : PySem.W.Frag) (CG : Addr) : Sp := fun vs H Q _ => ∃ (x : V) (y : Str) (ls : Str) (nm : Nat → Str) (R : RuleT) (n root : Nat) (A : List Addr), vs = [x, .str y] ∧ GroveF K CG H x ls nm R n root A ∧ Told ls nm R n root ∧ OverL ls y ∧
  ∀ H', Same H H' → Q (.int (cnt ls.cps.toList R root y.cps.toList : Nat)) H'
theorem sum_filter {f : Nat → Nat} {p : Nat → Bool} : ∀ {l : List Nat}, (∀ a ∈ l, p a = false → f a = 0) → ((l.filter p).map f).sum = (l.map f).sum
  | [], _ => rfl
  | a :: l, h => by
    have ih := sum_filter (f := f) (p := p) (l := l) fun b hb => h b (List.mem_cons_of_mem _ hb)
    cases e : p a with
    | true => rw [List.filter_cons_of_pos e, List.map_cons, List.sum_cons, ih, List.map_cons, List.sum_cons]
    | false => rw [List.filter_cons_of_neg (by rw [e]; exact Bool.false_ne_true), ih, List.map_cons, List.sum_cons, h a (by simp) e, Nat.zero_add]
section
variable {P : Program} {w : World} {K : PySem.W.Frag} {mg : Str → Option Value} {base : Heap} {f fWay fCk fAh CG : Addr} {fd fdWay fdCk fdAh : FuncData}
theorem ok_ahead (F : Fun K "many_ahead" "Grove.many_ahead" (gm 9) f fd) (R0 : GroveK K CG) (gSu : mg "sum" = none) : FnOk P w K mg base CX0 1 f fd ["self", "name", "letter"] (spAhead K CG) := by
  have S0 : FnScope ["self", "name", "letter", "mark", "_", "parts", "ahead", "sign"] ["self", "name", "letter"] (defScope (gm 9)) := ⟨rfl, rfl, rfl, by decide +kernel, rfl, by decide +kernel, by decide +kernel⟩
  have nd := S0.nd
  refine F.ok S0 (fun vs H Q E h => ?_) (fun cdv A0 outer s H vs Q E hr h => ?_)
  · obtain ⟨x, i, c, ls, nm, R, n, root, A, rfl, _⟩ := h
    rfl
  · obtain ⟨x, i, c, ls, nm, R, n, root, A, rfl, hG, T, hi, hc, kk⟩ := h
    obtain ⟨ord, a, dx, D, Sz, My, fs, kvs, ksz, kmy, rfl, G⟩ := id hG
    have hu := hu_of hr
    have b1 : (5000 : Nat) < sizeLine := by decide
    have h26 := T.L.hi
    obtain ⟨t, d, q1, q2, q3⟩ := G.rule hi
    obtain ⟨rest, hocc⟩ := index_of hc
    refine ⟨_, (pss_cons (ps_asg (pe_dget hu (pe_fld (pv 0) rfl) (pv 1) (fun _ _ => rfl)) (pg_tup rfl (pgs_cons (pg_name (i := 3) nd rfl (Or.inl rfl)) (pgs_cons (pg_name (i := 4) nd rfl (Or.inl rfl)) (pgs_cons (pg_name (i := 5) nd rfl (Or.inr rfl)) pgs_nil)))))
        (pss_cons (ps_set (i := 6) nd rfl (Or.inl rfl) (pe_slice sl_str (pe_fld (pv 0) rfl) po_none (po_some (pe_bm (r := rSIdx) PySem.F.plainAttrs_str PySem.F.slot_str_index PySem.F.type_str_index mt_sindex (pe_fld (pv 0) rfl) (pa_cons (pv 2) pa_nil)))))
        (pss_one (ps_ret (pe_op op_add (pe_ifExp (pt_val (pv 3)) pe_int pe_int) (pe_callB (cr_sum rfl) (by rfl) gSu PyProof.Rows.boot_sum (pa_cons (pe_lc (own := [("sign", 7)]) (g := gName 7) (te := tDGet (tFld K (tVar 0) "_manys") (tDGet (tVar 5) (tVar 7))) rfl nd (pi_str (pv 6)) (blkOk_by (N := ["self", "name", "letter", "mark", "_", "parts", "ahead", "sign"]) (sc := defScope (gm 9)) (by decide +kernel)) (fun _ _ _ _ _ => pg_name (i := 7) nd rfl (Or.inl rfl)) (fun _ _ _ _ _ => (pts_one (pt_cmp (pc_din hu (pv 7) (pv 5))))) (fun _ _ _ _ _ => (pe_dget hu (pe_fld (pv 0) rfl) (pe_dget hu (pv 5) (pv 7) (fun _ _ => rfl)) (fun _ _ => rfl)))) pa_nil))))))), ?_⟩
    refine ⟨V.ref a, rfl, a, CG, dx, _, _, rfl, G.ins, R0.cl, R0.na _ (by simp [sev7]), G.f1, V.str (nm i), rfl, D, _, rfl, q1, t, _, rfl, .inl (.inl q2), rfl, _, _, rfl, _, _, rfl, _, _, rfl, rfl, ?_⟩
    have el : ls.length = ls.cps.size := rfl
    refine ⟨V.ref a, rfl, a, CG, dx, _, _, rfl, G.ins, R0.cl, R0.na _ (by simp [sev7]), G.f4, V.ref a, rfl, a, CG, dx, _, _, rfl, G.ins, R0.cl, R0.na _ (by simp [sev7]), G.f4, rfl, V.str (sg c), rfl, ls, sg c, _, rest, rfl, rfl, hocc, _, rfl, ls, rfl, (by omega), ?_⟩
    have ec : (cutS ls none (some (rankOf ls c : Nat))).cps.toList = ls.cps.toList.take (ls.cps.toList.idxOf c) := cut_take ls _
    have ez : (cutS ls none (some (rankOf ls c : Nat))).cps.size ≤ 26 := by
      rw [← Array.length_toList, ec, List.length_take, Array.length_toList]
      omega
    generalize cutS ls none (some (rankOf ls c : Nat)) = zz at ec ez
    have fin : ∀ (H2 : Hp), Same H H2 → ∀ m : Bool, (R i).mark = m → Q (.int ((if m = true then (1 : Int) else 0) + (((ls.cps.toList.take (ls.cps.toList.idxOf c)).filter fun s => ((R i).parts.lookup s).isSome).map fun s => ((fM R i s : Nat) : Int)).sum)) H2 := fun H2 s2 m hm => by
      have z := kk H2 s2
      have e : ((if m = true then (1 : Int) else 0) + (((ls.cps.toList.take (ls.cps.toList.idxOf c)).filter fun s => ((R i).parts.lookup s).isSome).map fun s => ((fM R i s : Nat) : Int)).sum) = ((ahead ls.cps.toList R i c : Nat) : Int) := by
        rw [cast_sum, sum_filter (f := fM R i)]
        · unfold ahead oneM
          rw [hm]
          cases m <;> simp
        · intro s _ hs
          unfold fM
          cases q : (R i).parts.lookup s with
          | none => rfl
          | some j =>
            rw [q] at hs
            cases hs
      rw [e]
      exact z
    refine ⟨V.bl (R i).mark, rfl, (R i).mark, rfl, ?_⟩
    cases hmk : (R i).mark
    all_goals first | refine iteF ?_ | refine iteT ?_
    all_goals
      refine ⟨V.str zz, rfl, zz, rfl, fun Dn nD => lcF_str nD (fun s => V.int (fM R i s : Nat)) (fun s => ((R i).parts.lookup s).isSome) (by omega) (fun m s G2 hs sG A B kA kB => ?_) fun G2 sG hDn => ?_⟩
      · have dg := DGet.k (k := (.inr (sg s) : Key)) (sG _ _ q3)
        rw [encP_get] at dg
        refine ⟨rfl, V.str (sg s), rfl, V.ref d, rfl, d, _, rfl, dg, _, rfl, ?_⟩
        cases e2 : (R i).parts.lookup s with
        | none => exact kB (by rw [e2]; rfl)
        | some j =>
          rw [e2] at dg
          have hj : j < n := Nat.lt_trans (T.g.dn i _ ((lookup_iff (T.g.nd i)).mp e2)) hi
          have dgm := DGet.k (k := (.inr (nm j) : Key)) (sG _ _ G.m1)
          rw [G.m2 j hj] at dgm
          have z := kA (by rw [e2]; rfl)
          have ef : fM R i s = mn R j := by
            unfold fM
            rw [e2]
          rw [ef] at z
          exact ⟨V.ref a, rfl, a, CG, dx, _, _, rfl, sG _ _ G.ins, R0.cl, R0.na _ (by simp [sev7]), G.f3, V.ref d, rfl, V.str (sg s), rfl, d, _, rfl, dg, My, _, rfl, dgm, z⟩
      · rw [ec] at hDn
        refine ⟨Dn, ((ls.cps.toList.take (ls.cps.toList.idxOf c)).filter fun s => ((R i).parts.lookup s).isSome).map fun s => ((fM R i s : Nat) : Int), rfl, .inl (.inl (by rw [hDn, List.map_map]; rfl)), _, _, rfl, rfl, fin G2 sG _ hmk⟩
theorem ok_rankG (F : Fun K "rank" "Grove.rank" (gm 10) f fd) (R0 : GroveK K CG) (gSu : mg "sum" = none) (gZ : mg "zip" = none) (MCk : Meth K CG "check_word" fCk) (GCk : FnOk P w K mg base CX0 2 fCk fdCk ["self", "word"] (spCkW K CG)) (bCk : Binds K fdCk ["self", "word"] []) (MWay : Meth K CG "way" fWay) (GWay : FnOk P w K mg base CX0 1 fWay fdWay ["self", "word"] (spWay K CG)) (bWay : Binds K fdWay ["self", "word"] []) (MAh : Meth K CG "many_ahead" fAh) (GAh : FnOk P w K mg base CX0 1 fAh fdAh ["self", "name", "letter"] (spAhead K CG)) (bAh : Binds K fdAh ["self", "name", "letter"] []) : FnOk P w K mg base CX0 3 f fd ["self", "word"] (spRankG K CG) := by
  have S0 : FnScope ["self", "word", "name", "letter"] ["self", "word"] (defScope (gm 10)) := ⟨rfl, rfl, rfl, by decide +kernel, rfl, by decide +kernel, by decide +kernel⟩
  have nd := S0.nd
  refine F.ok S0 (fun vs H Q E h => ?_) (fun cdv A0 outer s H vs Q E hr h => ?_)
  · obtain ⟨x, y, ls, nm, R, n, root, A, rfl, _⟩ := h
    rfl
  · obtain ⟨x, y, ls, nm, R, n, root, A, rfl, hG, T, ho, kk⟩ := h
    obtain ⟨ord, a, dx, D, Sz, My, fs, kvs, ksz, kmy, rfl, G⟩ := id hG
    have hr2 : Room 2 _ := hr
    have hr1 : Room 1 _ := hr.mono (by decide)
    have b1 : (5000 : Nat) < sizeLine := by decide
    have hy : y.cps.size ≤ 1000 := Nat.le_trans ho.1 (by decide)
    have noM : ∀ g : Str, g ∉ sev7 → fs.lookup g = none := G.no
    refine ⟨_, (pss_cons (ps_expr (pe_meth (pv 0) R0.cl MCk GCk hr2 bCk .nil pass0 (pa_cons (pv 1) pa_nil)))
        (pss_one (ps_ret (pe_callB (cr_sum rfl) (by rfl) gSu PyProof.Rows.boot_sum (pa_cons (pe_lc (own := [("name", 2), ("letter", 3)]) (g := gTup K 2 (gCons (gName 2) (gCons (gName 3) gNil))) (tt := tYes) rfl nd (pi_zipS (by rfl) gZ (pa_cons (pe_meth (pv 0) R0.cl MWay GWay hr1 bWay .nil pass0 (pa_cons (pv 1) pa_nil)) (pa_cons (pv 1) pa_nil))) (blkOk_by (N := ["self", "word", "name", "letter"]) (sc := defScope (gm 10)) (by decide +kernel)) (fun _ _ _ _ _ => (pg_tup rfl (pgs_cons (pg_name (i := 2) nd rfl (Or.inl rfl)) (pgs_cons (pg_name (i := 3) nd rfl (Or.inl rfl)) pgs_nil)))) (fun _ _ _ _ _ => pts_nil) (fun _ _ _ _ _ => (pe_meth (pv 0) R0.cl MAh GAh hr1 bAh .nil pass0 (pa_cons (pv 2) (pa_cons (pv 3) pa_nil))))) pa_nil))))), ?_⟩
    refine ⟨V.ref a, rfl, a, dx, fs, rfl, G.ins, noM _ (by simp only [sev7]; decide), V.str y, rfl, V.ref a, y, ls, nm, R, n, root, A, rfl, hG, ho, fun H1 s1 => ?_⟩
    have hG1 := hG.keep (Kp.of s1)
    refine ⟨V.ref a, rfl, a, dx, fs, rfl, s1 _ _ G.ins, noM _ (by simp only [sev7]; decide), V.str y, rfl, V.ref a, y, ls, nm, R, n, root, A, rfl, hG1, T, hy, fun H2 p s2 np hp => ?_⟩
    have s12 := s1.trans s2
    have hyl : y.cps.toList.length = y.cps.size := Array.length_toList
    have wle := way_le (R := R) (w := y.cps.toList) (i := root)
    have enl : (nmV nm (wayL R root y.cps.toList)).length = (wayL R root y.cps.toList).length := List.length_map _
    have ezl : ((wayL R root y.cps.toList).zip y.cps.toList).length = min (nmV nm (wayL R root y.cps.toList)).length y.cps.size := by rw [List.length_zip, enl, hyl]
    refine ⟨V.str y, rfl, p, y, _, rfl, .inl (.inl hp), fun Dn nD => lc_it (walk_zipS (xs := nmV nm (wayL R root y.cps.toList)) rfl) (fun m G1 => Same H2 G1 ∧ G1 Dn = some (.lst ((((wayL R root y.cps.toList).zip y.cps.toList).take m).map fun q => V.int (ahead ls.cps.toList R q.1 q.2 : Nat))))
      ⟨upd_new nD, upd_same⟩ (fun m G1 _ q => .inl (.inl (q.1 _ _ hp))) ?_ ?_⟩
    · rintro m x G1 G2 hm ⟨sG, hDn⟩ ⟨T0, v1, v2, rfl, nT, rfl, e1, e2⟩
      rw [← ezl] at hm
      obtain ⟨q, hq⟩ : ∃ q, ((wayL R root y.cps.toList).zip y.cps.toList)[m]? = some q := ⟨_, List.getElem?_eq_getElem hm⟩
      obtain ⟨w1, w2⟩ := List.getElem?_zip_eq_some.mp hq
      have e1 : v1 = .str (nm q.1) := by
        have z : (nmV nm (wayL R root y.cps.toList))[m]? = some v1 := e1
        unfold nmV at z
        rw [List.getElem?_map, w1] at z
        exact (Option.some.inj z).symm
      have e2 : v2 = .str (sg q.2) := by
        have z : (y.cps[m]?.map fun c => V.str ⟨#[c]⟩) = some v2 := e2
        have w2' : y.cps[m]? = some q.2 := by simpa using w2
        rw [w2'] at z
        exact (Option.some.inj z).symm
      subst e1
      subst e2
      have s3 := upd_new (o := .tup [V.str (nm q.1), V.str (sg q.2)]) nT
      have hT3 : upd G1 T0 (.tup [V.str (nm q.1), V.str (sg q.2)]) T0 = some (.tup [V.str (nm q.1), V.str (sg q.2)]) := upd_same
      have hD3 := s3 _ _ hDn
      generalize upd G1 T0 (.tup [V.str (nm q.1), V.str (sg q.2)]) = G3 at s3 hT3 hD3
      have s13 := s12.trans (sG.trans s3)
      have hq1 : q.1 < n := way_mem T.g T.rt q.1 (List.mem_of_getElem? w1)
      have hq2 := ho.2 q.2 (List.mem_of_getElem? w2)
      refine ⟨T0, _, rfl, .inl (.inl hT3), rfl, _, _, rfl, _, _, rfl, rfl, rfl, V.ref a, rfl, a, dx, fs, rfl, s13 _ _ G.ins, noM _ (by simp only [sev7]; decide), V.str (nm q.1), rfl, V.str (sg q.2), rfl, V.ref a, q.1, q.2, ls, nm, R, n, root, A, rfl, hG.keep (Kp.of s13), T, hq1, hq2, fun G4 s4 => ⟨_, s4 _ _ hD3, ?_, fun b o e => ?_, ?_⟩⟩
      · rw [List.length_map, List.length_take]
        omega
      · rw [upd_ne (ne_of_none e nD)]
        exact s4 _ _ (s3 _ _ (sG _ _ e))
      · rw [take_snoc hq, List.map_append]
        exact upd_same
    · rintro G1 ⟨sG, hDn⟩
      rw [← ezl, List.take_length] at hDn
      refine ⟨Dn, ((wayL R root y.cps.toList).zip y.cps.toList).map fun q => ((ahead ls.cps.toList R q.1 q.2 : Nat) : Int), rfl, .inl (.inl (by rw [hDn, List.map_map]; rfl)), ?_⟩
      rw [cast_sum, rank_sum T.L.nd T.g ho.2]
      exact kk G1 (s12.trans sG)
end
end SK
namespace SK
open PySem PySem.Spec PyProof.Rows L2 LamX NdefX
open K0 (De DeAll XCl spX withX)
/-! ### the word of a rank -/
theorem or_go {c : Bool} {A B : Prop} (hb : A) (h : c = false → A → B) : if c = true then A else B := by
  cases c with
  | true => exact hb
  | false => exact h rfl hb
def toS (w : List Nat) : Str := ⟨w.toArray⟩
theorem toS_snoc (w : List Nat) (c : Nat) : toS w ++ sg c = toS (w ++ [c]) := by
  refine str_ext ?_
  show (w.toArray ++ #[c]).toList = (w ++ [c]).toArray.toList
  simp
def spWordOf (K : PySem.W.Frag) (CG : Addr) : Sp := fun vs H Q _ => ∃ (x : V) (r : Nat) (ls : Str) (nm : Nat → Str) (R : RuleT) (n root : Nat) (A : List Addr), vs = [x, .int (r : Nat)] ∧ GroveF K CG H x ls nm R n root A ∧ Told ls nm R n root ∧ r < mn R root ∧
  ∀ (H' : Hp) (w : List Nat) (j : Nat), Same H H' → wk R root w = some j → (R j).mark = true → cnt ls.cps.toList R root w = r → Q (.str (toS w)) H'
section
variable {P : Program} {w : World} {K : PySem.W.Frag} {mg : Str → Option Value} {base : Heap} {f fAh CG : Addr} {fd fdAh : FuncData}
theorem ok_wordOf (F : Fun K "word_of" "Grove.word_of" (gm 11) f fd) (R0 : GroveK K CG) (gI : mg "isinstance" = none) (g_int : mg "int" = none) (g_bool : mg "bool" = none) (MAh : Meth K CG "many_ahead" fAh) (GAh : FnOk P w K mg base CX0 1 fAh fdAh ["self", "name", "letter"] (spAhead K CG)) (bAh : Binds K fdAh ["self", "name", "letter"] []) : FnOk P w K mg base CX0 2 f fd ["self", "rank"] (spWordOf K CG) := by
  have S0 : FnScope ["self", "rank", "name", "word", "left", "parts", "letter", "sign"] ["self", "rank"] (defScope (gm 11)) := ⟨rfl, rfl, rfl, by decide +kernel, rfl, by decide +kernel, by decide +kernel⟩
  have nd := S0.nd
  refine F.ok S0 (fun vs H Q E h => ?_) (fun cdv A0 outer s H vs Q E hr h => ?_)
  · obtain ⟨x, r, ls, nm, R, n, root, A, rfl, _⟩ := h
    rfl
  · obtain ⟨x, r, ls, nm, R, n, root, A, rfl, hG, T, hrm, kk⟩ := h
    obtain ⟨ord, a, dx, D, Sz, My, fs, kvs, ksz, kmy, rfl, G⟩ := id hG
    have hu := hu_of hr
    have hr1 : Room 1 _ := hr
    have b1 : (5000 : Nat) < sizeLine := by decide
    have h26 := T.L.hi
    have noM : ∀ g : Str, g ∉ sev7 → fs.lookup g = none := G.no
    have al := T.L.nd
    refine ⟨_, (pss_cons (ps_if (PW.pt (pw_or (pt_not (pt_val (pe_callB call_isi (by rfl) gI PyProof.Rows.boot_isinstance (pa_cons (pv 1) (pa_cons (pe_bltn (v := .ty "int") (by rfl) g_int PyProof.Rows.boot_int rfl) pa_nil))))) (pw_or (pt_val (pe_callB call_isi (by rfl) gI PyProof.Rows.boot_isinstance (pa_cons (pv 1) (pa_cons (pe_bltn (v := .ty "bool") (by rfl) g_bool PyProof.Rows.boot_bool rfl) pa_nil)))) (pw_or1 (pt_not (pt_chain op_le op_lt pe_int (pv 1) (pe_fld (pv 0) rfl))))))) pss_dead pss_nil)
        (pss_cons (ps_asg (pe_tup (pa_cons (pe_fld (pv 0) rfl) (pa_cons pe_str (pa_cons (pv 1) pa_nil)))) (pg_tup rfl (pgs_cons (pg_name (i := 2) nd rfl (Or.inr rfl)) (pgs_cons (pg_name (i := 3) nd rfl (Or.inl rfl)) (pgs_cons (pg_name (i := 4) nd rfl (Or.inr rfl)) pgs_nil)))))
        (pss_cons (ps_while PassesOwn.never (PW.pt (pw_or (pt_not (pt_val (pe_ix ix_seq (pe_dget hu (pe_fld (pv 0) rfl) (pv 2) (fun _ _ => rfl)) pe_int (fun _ _ => rfl)))) (pw_or1 (pt_cmpR op_gt (pv 4) pe_int (nomark _))))) (pss_cons (ps_set (i := 5) nd rfl (Or.inr rfl) (pe_ix ix_seq (pe_dget hu (pe_fld (pv 0) rfl) (pv 2) (fun _ _ => rfl)) pe_int (fun _ _ => rfl)))
        (pss_cons (ps_set (i := 6) nd rfl (Or.inl rfl) (pe_ix ix_list (pe_lc (own := [("sign", 7)]) (g := gName 7) rfl nd (pi_str (pe_fld (pv 0) rfl)) (blkOk_by (N := ["self", "rank", "name", "word", "left", "parts", "letter", "sign"]) (sc := defScope (gm 11)) (by decide +kernel)) (fun _ _ _ _ _ => pg_name (i := 7) nd rfl (Or.inl rfl)) (fun _ _ _ _ _ => (pts_one (PW.pt (pw_and (pt_cmp (pc_din hu (pv 7) (pv 5))) (pw_and1 (pt_cmpR op_le (pe_meth (pv 0) R0.cl MAh GAh hr1 bAh .nil pass0 (pa_cons (pv 2) (pa_cons (pv 7) pa_nil))) (pv 4) (nomark _))))))) (fun _ _ _ _ _ => (pv 7))) (pe_un un_neg pe_int) (fun _ _ => rfl)))
        (pss_cons (ps_set (i := 4) nd rfl (Or.inr rfl) (pe_op op_sub (pv 4) (pe_meth (pv 0) R0.cl MAh GAh hr1 bAh .nil pass0 (pa_cons (pv 2) (pa_cons (pv 6) pa_nil)))))
        (pss_one (ps_asg (pe_tup (pa_cons (pe_dget hu (pv 5) (pv 6) (fun _ _ => rfl)) (pa_cons (pe_op op_add_str (pv 3) (pv 6)) pa_nil))) (pg_tup rfl (pgs_cons (pg_name (i := 2) nd rfl (Or.inr rfl)) (pgs_cons (pg_name (i := 3) nd rfl (Or.inl rfl)) pgs_nil)))))))))
        (pss_one (ps_ret (pv 3)))))), ?_⟩
    refine ⟨V.int r, rfl, V.int r, .ty "int", .type "int", .type "int", true, rfl, .ty _, .base (.int _), kit_ty (by show kitB "int" "int" = some true; decide +kernel), _, rfl, iteF ?_⟩
    refine ⟨V.int r, rfl, V.int r, .ty "bool", .type "int", .type "bool", false, rfl, .ty _, .base (.int _), kit_ty (by show kitB "int" "bool" = some false; decide +kernel), _, rfl, iteF ?_⟩
    refine ⟨V.int r, rfl, 0, (r : Int), rfl, rfl, _, rfl, ?_⟩
    refine ite2 (fun c => ?_) (fun c => absurd (decide_eq_true (by omega)) c)
    refine ⟨V.ref a, rfl, a, CG, dx, _, _, rfl, G.ins, R0.cl, R0.na _ (by simp [sev7]), G.f7, (r : Int), _, rfl, rfl, _, rfl, ?_⟩
    have c8 : decide ((r : Int) < ((mn R root : Nat) : Int)) = true := decide_eq_true (by omega)
    rw [c8]
    refine iteF ?_
    refine ⟨V.ref a, rfl, a, CG, dx, _, _, rfl, G.ins, R0.cl, R0.na _ (by simp [sev7]), G.f5, V.int r, rfl, (by show 3 ≤ sizeLine; decide), fun t nt => ?_⟩
    have s1 := upd_new (o := .tup [V.str (nm root), V.str "", V.int r]) nt
    have ht1 : upd H t (.tup [V.str (nm root), V.str "", V.int r]) t = some (.tup [V.str (nm root), V.str "", V.int r]) := upd_same
    generalize upd H t (.tup [V.str (nm root), V.str "", V.int r]) = H1 at s1 ht1
    refine ⟨t, _, rfl, .inl (.inl ht1), rfl, _, _, rfl, _, _, rfl, _, _, rfl, rfl, ?_⟩
    refine ⟨fun m σ G1 => ∃ (x5 x6 x7 : Option V) (w : List Nat) (i left : Nat), σ = [some (.ref a), some (.int (r : Nat)), some (.str (nm i)), some (.str (toS w)), some (.int (left : Nat)), x5, x6, x7] ∧ m = i ∧ Same H G1 ∧ wk R root w = some i ∧ left < mn R i ∧ left ≤ r ∧ (∀ c ∈ w, c ∈ ls.cps.toList) ∧
        (∀ v : List Nat, cnt ls.cps.toList R root (w ++ v) = (r - left) + cnt ls.cps.toList R i v),
      ⟨root, none, none, none, [], root, r, rfl, rfl, s1, rfl, hrm, Nat.le_refl _, fun c hc => absurd hc (by simp), fun v => by rw [Nat.sub_self, Nat.zero_add]; rfl⟩, ?_⟩
    rintro m σ G1 ⟨x5, x6, x7, w, i, left, rfl, rfl, s2, k1, k2, k3, k4, k5⟩
    have hin : m < n := wk_lt T k1
    have GG := G.keep (Kp.of s2)
    have hGG := hG.keep (Kp.of s2)
    obtain ⟨tt, d, q1, q2, q3⟩ := GG.rule hin
    by_cases hstop : (R m).mark = true ∧ left = 0
    · obtain ⟨hmk, rfl⟩ := hstop
      refine ⟨V.ref a, rfl, a, CG, dx, _, _, rfl, GG.ins, R0.cl, R0.na _ (by simp [sev7]), G.f1, V.str (nm m), rfl, D, _, rfl, q1, rIx_rows (j := 0) (.inr q2) rfl ⟨_, rfl, ?_⟩⟩
      rw [hmk]
      have c9 : decide ((0 : Int) < ((0 : Nat) : Int)) = false := by decide
      refine iteF ⟨V.int 0, rfl, _, _, rfl, rfl, false, congrArg V.bl c9, ?_⟩
      refine ⟨V.str (toS w), rfl, kk G1 w m s2 k1 hmk ?_⟩
      have z := k5 []
      rw [List.append_nil, cnt_nil] at z
      omega
    have ho : oneM R m ≤ left := by
      unfold oneM
      by_cases hmk : (R m).mark = true
      · rw [if_pos hmk]
        have : left ≠ 0 := fun z => hstop ⟨hmk, z⟩
        omega
      · rw [if_neg hmk]
        exact Nat.zero_le _
    refine ⟨V.ref a, rfl, a, CG, dx, _, _, rfl, GG.ins, R0.cl, R0.na _ (by simp [sev7]), G.f1, V.str (nm m), rfl, D, _, rfl, q1, rIx_rows (j := 0) (.inr q2) rfl ⟨_, rfl, ?_⟩⟩
    refine or_go ?_ fun hmk hb => ?_
    case refine_2 =>
      have hmk : (R m).mark = true := by simpa using hmk
      have hl : left ≠ 0 := fun z => hstop ⟨hmk, z⟩
      have c9 : decide ((0 : Int) < ((left : Nat) : Int)) = true := decide_eq_true (by omega)
      exact ⟨V.int left, rfl, _, _, rfl, rfl, true, congrArg V.bl c9, hb⟩
    refine ⟨_, fun σ' H' q => q, ?_⟩
    obtain ⟨c0, j, p1, p2, p3, p4, p5⟩ := pick_last al T.g k2 ho
    refine ⟨V.ref a, rfl, a, CG, dx, _, _, rfl, GG.ins, R0.cl, R0.na _ (by simp [sev7]), G.f1, V.str (nm m), rfl, D, _, rfl, q1, rIx_rows (j := 2) (.inr q2) rfl ?_⟩
    refine ⟨V.ref a, rfl, a, CG, dx, _, _, rfl, GG.ins, R0.cl, R0.na _ (by simp [sev7]), G.f4, ls, rfl, fun Dn nD => lc_it walk_str (fun q G2 => Same G1 G2 ∧ G2 Dn = some (.lst (((ls.cps.toList.take q).filter fun s => ((R m).parts.lookup s).isSome && decide (ahead ls.cps.toList R m s ≤ left)).map fun s => V.str (sg s)))) ⟨same_new nD, upd_same⟩ (fun _ _ _ _ => trivial) ?_ ?_⟩
    · rintro q x G2 G3 hq ⟨sG, hDn⟩ ⟨rfl, c, hc, rfl⟩
      have hcl : ls.cps.toList[q]? = some c := by simpa using hc
      have hcm := List.mem_of_getElem? hcl
      have dg := DGet.k (k := (.inr (sg c) : Key)) (sG _ _ q3)
      rw [encP_get] at dg
      refine ⟨rfl, V.str (sg c), rfl, V.ref d, rfl, d, _, rfl, dg, _, rfl, ?_⟩
      cases e2 : (R m).parts.lookup c with
      | none =>
        refine iteF ⟨sG, ?_⟩
        rw [filt_snoc hcl, if_neg (by rw [e2]; exact Bool.false_ne_true), List.append_nil]
        exact hDn
      | some m2 =>
        refine iteT ⟨V.ref a, rfl, a, dx, fs, rfl, sG _ _ GG.ins, noM _ (by simp only [sev7]; decide), V.str (nm m), rfl, V.str (sg c), rfl, V.ref a, m, c, ls, nm, R, n, root, A, rfl, hGG.keep (Kp.of sG), T, hin, hcm, fun G4 s4 => ?_⟩
        by_cases hle : ahead ls.cps.toList R m c ≤ left
        · have c9 : decide (((ahead ls.cps.toList R m c : Nat) : Int) ≤ ((left : Nat) : Int)) = true := decide_eq_true (by omega)
          refine ⟨V.int left, rfl, _, _, rfl, rfl, true, congrArg V.bl c9, V.str (sg c), rfl, _, s4 _ _ hDn, ?_, same_upd nD (sG.trans s4), ?_⟩
          · refine Nat.lt_of_le_of_lt filt_len ?_
            rw [Array.length_toList]
            omega
          · rw [filt_snoc hcl, if_pos (by rw [e2, decide_eq_true hle]; rfl)]
            exact upd_same
        · have c9 : decide (((ahead ls.cps.toList R m c : Nat) : Int) ≤ ((left : Nat) : Int)) = false := decide_eq_false (by omega)
          refine ⟨V.int left, rfl, _, _, rfl, rfl, false, congrArg V.bl c9, sG.trans s4, ?_⟩
          rw [filt_snoc hcl, if_neg (by rw [decide_eq_false hle, Bool.and_false]; exact Bool.false_ne_true), List.append_nil]
          exact s4 _ _ hDn
    rintro G2 ⟨sG, hDn⟩
    have hll : ls.cps.toList.length = ls.cps.size := Array.length_toList
    rw [← hll, List.take_length] at hDn
    have hlast : atI ((ls.cps.toList.filter fun s => ((R m).parts.lookup s).isSome && decide (ahead ls.cps.toList R m s ≤ left)).map fun s => V.str (sg s)) (-1) = some (.str (sg c0)) := by
      refine atI_last ?_
      rw [List.getLast?_map, p1]
      rfl
    have s12 := s2.trans sG
    refine ⟨1, rfl, Dn, _, _, _, rfl, rfl, .inl (.inl hDn), hlast, ?_⟩
    refine ⟨V.int left, rfl, V.ref a, rfl, a, dx, fs, rfl, s12 _ _ G.ins, noM _ (by simp only [sev7]; decide), V.str (nm m), rfl, V.str (sg c0), rfl, V.ref a, m, c0, ls, nm, R, n, root, A, rfl, hG.keep (Kp.of s12), T, hin, p5, fun G3 s3 => ⟨_, _, rfl, rfl, ?_⟩⟩
    have ez : ((left : Nat) : Int) - ((ahead ls.cps.toList R m c0 : Nat) : Int) = ((left - ahead ls.cps.toList R m c0 : Nat) : Int) := by omega
    dsimp only
    rw [ez]
    have hpar := T.g.dn m _ ((lookup_iff (T.g.nd m)).mp p2)
    have hjm : j < m := hpar
    have dg := DGet.k (k := (.inr (sg c0) : Key)) (s3 _ _ (sG _ _ q3))
    rw [encP_get, p2] at dg
    have hwl := (wk_len T.g k1).1
    have hrt := T.rt
    have hn1 := T.n1
    refine ⟨V.ref d, rfl, V.str (sg c0), rfl, d, _, rfl, dg, V.str (toS w), rfl, V.str (sg c0), rfl, _, _, rfl, rfl, ?_, (by show 2 ≤ sizeLine; decide), fun t2 nt2 => ?_⟩
    · show w.toArray.size + 1 ≤ sizeLine
      rw [List.size_toArray]
      omega
    rw [toS_snoc]
    refine ⟨t2, _, rfl, .inl (.inl upd_same), rfl, _, _, rfl, _, _, rfl, rfl, j, hjm, _, _, _, w ++ [c0], j, left - ahead ls.cps.toList R m c0, rfl, rfl, s12.trans (s3.trans (upd_new nt2)), ?_, p4, by omega, fun c hc => ?_, fun v => ?_⟩
    · rw [wk_snoc k1]
      exact p2
    · rcases List.mem_append.mp hc with hc | hc
      · exact k4 c hc
      · obtain rfl : c = c0 := by simpa using hc
        exact p5
    · rw [List.append_assoc, List.singleton_append, k5, cnt_step al T.g p5 p2]
      omega
end
end SK
namespace SK
open PySem PySem.Spec PyProof.Rows L2 LamX NdefX
open K0 (De DeAll XCl spX withX)
/-! ### the places of a grove -/
theorem mk_tree {K : PySem.W.Frag} {CT a : Addr} {C : Cs} {T : List (Addr × Str)} {H : Hp} {σ : St} {R : Addr → Hp → Prop} {E : XK} {ls : Str} {xs : List V} {ds : List PyData} {S : List Spot} (hL : okLb ls = true) (hasc : ls.cps.all (· < 128) = true ∧ ls.cps.size ≤ 1000) (hr : Rows H a xs) (hd : DeAll K H xs ds) (g : GoodS ls S) (hro : RowsOf ds S) (hT : Tabs T H)
    (kk : ∀ (H' : Hp) (x : Addr), ExtN H H' → Tabs T H' → TreeF K CT H' (.ref x) ls S → R x H') :
    tNil σ H fun zs H2 => ∀ x dx, H2 x = none → H2 dx = none → dx ≠ x → spInit K CT C T (.ref x :: ((.str ls :: .ref a :: zs) ++ [])) (upd (upd H2 dx (.own x)) x (.ins CT dx [])) (fun v H3 => v = .non ∧ R x H3) E := by
  show ∀ x dx, H x = none → H dx = none → dx ≠ x → spInit K CT C T [.ref x, .str ls, .ref a] (upd (upd H dx (.own x)) x (.ins CT dx [])) (fun v H3 => v = .non ∧ R x H3) E
  intro x dx nx ndx nxd
  have s7 : Same H (upd (upd H dx (.own x)) x (.ins CT dx [])) := fun b o e => by
    rw [upd_ne (ne_of_none e nx), upd_ne (ne_of_none e ndx)]
    exact e
  have hx7 : upd (upd H dx (.own x)) x (.ins CT dx []) x = some (.ins CT dx []) := upd_same
  generalize upd (upd H dx (.own x)) x (.ins CT dx []) = H7 at s7 hx7
  have hway := way_good hL g hro
  have hle : xs.length = ds.length := deAll_len hd
  have hln : ds.length = S.length := by
    have z := hro.places.length_eq
    unfold plc at z
    rwa [List.length_map, List.length_map] at z
  have hn := g.n
  refine ⟨x, dx, a, .str ls, .str ls, xs, ds, rfl, hx7, .str ls, fun z e => ?_, hr.mono (ExtN.of s7), de_monoAll s7 _ _ hd, fun e he => ?_, by omega, hT.ext s7, ?_, fun _ H' fs keep T' hx' tA => ⟨rfl, ?_⟩⟩
  · injection e with e
    subst e
    exact hasc
  · obtain ⟨s, hs, e1, _⟩ := hro.mem he
    have z := g.ov s.1 (List.mem_map.mpr ⟨s, hs, rfl⟩)
    intro es ees u hu
    have ee : elems e = es := by rcases ees with rfl | rfl <;> rfl
    rw [← ee, e1] at hu
    have hu : u = s.1 := by simpa using hu
    rw [hu]
    exact Nat.le_trans z.1 (by decide)
  · rw [hway]
    exact ⟨fun z => (by cases z), fun _ z => (by cases z), fun _ z => (by cases z), fun _ z => (by cases z)⟩
  · refine kk H' x (fun b o e t => keep b o (fun z => ?_) (s7 _ _ e) t) T' (treeP_of hx' g hro tA)
    rw [z, nx] at e
    cases e
theorem rowsD_of {S S' : List Spot} (p : S'.Perm S) : RowsOf (S'.map rowD) S := by
  refine ⟨fun d hd => ?_, ?_⟩
  · obtain ⟨s, _, rfl⟩ := List.mem_map.mp hd
    rfl
  · rw [List.map_map]
    exact p.map _
def spotOf (R : RuleT) (q : List Nat × Nat) : Spot := (toS q.1, (R q.2).mark, (R q.2).flag)
def plS (R : RuleT) (r : Nat) : List Str := (pl R r).map fun q => toS q.1
def spotAt (R : RuleT) (r : Nat) (p : Str) : Spot := match wk R r p.cps.toList with
  | some j => (p, (R j).mark, (R j).flag)
  | none => (p, false, false)
def spots (ls : Str) (R : RuleT) (r : Nat) : List Spot := (sortW ls (plS R r)).map (spotAt R r)
theorem toS_list (w : List Nat) : (toS w).cps.toList = w := by
  show w.toArray.toList = w
  simp
theorem toS_inj {w v : List Nat} (h : toS w = toS v) : w = v := by
  have z := congrArg (fun s : Str => s.cps.toList) h
  simpa [toS_list] using z
theorem spotAt_fst (R : RuleT) (r : Nat) (p : Str) : (spotAt R r p).1 = p := by
  unfold spotAt
  cases wk R r p.cps.toList <;> rfl
theorem plc_spots (ls : Str) (R : RuleT) (r : Nat) : plc (spots ls R r) = sortW ls (plS R r) := by
  unfold plc spots
  rw [List.map_map]
  exact List.map_id'' (fun p => spotAt_fst R r p) _
theorem plS_mem {al : List Nat} {R : RuleT} (g : GoodR al R) {r : Nat} {p : Str} : p ∈ plS R r ↔ (wk R r p.cps.toList).isSome = true := by
  unfold plS
  rw [List.mem_map]
  constructor
  · rintro ⟨q, hq, rfl⟩
    rw [toS_list, (mem_pl g).mp hq]
    rfl
  · intro h
    obtain ⟨j, hj⟩ := Option.isSome_iff_exists.mp h
    exact ⟨(p.cps.toList, j), (mem_pl g).mpr hj, str_ext (toS_list _)⟩
theorem plS_nd {al : List Nat} {R : RuleT} (g : GoodR al R) (r : Nat) : (plS R r).Nodup := by
  have e : plS R r = ((pl R r).map Prod.fst).map toS := by
    unfold plS
    rw [List.map_map]
    rfl
  rw [e]
  exact List.Pairwise.map _ (fun a b h z => h (toS_inj z)) (pl_nodup g r)
theorem plS_over {ls : Str} {nm : Nat → Str} {R : RuleT} {n root : Nat} (T : Told ls nm R n root) {p : Str} (h : p ∈ plS R root) : OverL ls p := by
  obtain ⟨j, hj⟩ := Option.isSome_iff_exists.mp ((plS_mem T.g).mp h)
  obtain ⟨z1, z2⟩ := wk_len T.g hj
  have := T.rt
  have := T.n1
  rw [Array.length_toList] at z1
  exact ⟨by omega, z2⟩
theorem spots_perm {al : List Nat} {R : RuleT} (g : GoodR al R) (ls : Str) (r : Nat) : (spots ls R r).Perm ((pl R r).map (spotOf R)) := by
  unfold spots
  refine ((sortW_perm ls (plS R r)).map _).trans (.of_eq ?_)
  unfold plS
  rw [List.map_map]
  refine List.map_congr_left fun q hq => ?_
  show spotAt R r (toS q.1) = spotOf R q
  unfold spotAt spotOf
  rw [toS_list, (mem_pl g).mp (show (q.1, q.2) ∈ pl R r from hq)]
theorem spots_len {al : List Nat} {R : RuleT} (g : GoodR al R) (ls : Str) (r : Nat) : (spots ls R r).length = sz R r := by
  rw [(spots_perm g ls r).length_eq, List.length_map]
  rfl
theorem spots_good {ls : Str} {nm : Nat → Str} {R : RuleT} {n root : Nat} (T : Told ls nm R n root) (hz : sz R root ≤ 2000) : GoodS ls (spots ls R root) := by
  have pm := sortW_perm ls (plS R root)
  refine ⟨?_, ?_, fun p h1 h2 => ?_, fun p h1 => ?_, ?_, ?_⟩
  · rw [plc_spots]
    exact pm.nodup_iff.mpr (plS_nd T.g root)
  · rw [plc_spots, pm.mem_iff, plS_mem T.g]
    rw [show (Str.ofString "").cps.toList = [] from by decide +kernel]
    rfl
  · rw [plc_spots, pm.mem_iff, plS_mem T.g] at h1 ⊢
    have hne : p.cps.toList ≠ [] := fun z => h2 (str_ext (by rw [z]; decide +kernel))
    obtain ⟨w, c, e⟩ : ∃ w c, p.cps.toList = w ++ [c] := ⟨_, _, (List.dropLast_concat_getLast hne).symm⟩
    have ei : (initS p).cps.toList = w := by
      unfold initS
      rw [List.toList_toArray, e]
      simp
    rw [e, wk_append] at h1
    rw [ei]
    cases q : wk R root w with
    | none =>
      rw [q] at h1
      cases h1
    | some j => rfl
  · rw [plc_spots, pm.mem_iff] at h1
    exact plS_over T h1
  · rw [spots_len T.g]
    exact hz
  · rw [plc_spots]
    exact sortW_sorted fun y hy => plS_over T hy
/-! ### walks with a stack -/
def StR (H : Hp) (nm : Nat → Str) : V → List Nat × Nat → Prop := fun v q => ∃ t, v = .ref t ∧ H t = some (.tup [.str (toS q.1), .str (nm q.2)])
def RwR (H : Hp) (R : RuleT) : V → List Nat × Nat → Prop := fun v q => ∃ t, v = .ref t ∧ H t = some (.tup [.str (toS q.1), .bl (R q.2).mark, .bl (R q.2).flag])
/-- tuples stay -/
def TupS (H H' : Hp) : Prop := ∀ b xs, H b = some (.tup xs) → H' b = some (.tup xs)
theorem TupS.of {H H' : Hp} (s : Same H H') : TupS H H' := fun b xs e => s b _ e
theorem TupS.trans {H H1 H2 : Hp} (a : TupS H H1) (b : TupS H1 H2) : TupS H H2 := fun c xs e => b c xs (a c xs e)
theorem TupS.upd {H : Hp} {p : Addr} {xs : List V} {o : HO} (h : H p = some (.lst xs)) : TupS H (upd H p o) := fun b ys e => by
  rw [upd_ne (ne_of e h (by intro z; cases z))]
  exact e
theorem StR.mono {H H' : Hp} {nm : Nat → Str} (m : TupS H H') {xs : List V} {st : List (List Nat × Nat)} (p : Paired (StR H nm) xs st) : Paired (StR H' nm) xs st := L2.Paired.mapP p fun v q ⟨t, h1, h2⟩ => ⟨t, h1, m _ _ h2⟩
theorem RwR.mono {H H' : Hp} {R : RuleT} (m : TupS H H') {xs : List V} {st : List (List Nat × Nat)} (p : Paired (RwR H R) xs st) : Paired (RwR H' R) xs st := L2.Paired.mapP p fun v q ⟨t, h1, h2⟩ => ⟨t, h1, m _ _ h2⟩
theorem paired_last {α β : Type} {F : α → β → Prop} : ∀ {st : List β} {q : β} {xs : List α}, Paired F xs (st ++ [q]) → ∃ ys v, xs = ys ++ [v] ∧ Paired F ys st ∧ F v q
  | [], q, _, .cons h .nil => ⟨[], _, rfl, .nil, h⟩
  | b :: st, q, _, .cons h t => by
    obtain ⟨ys, v, rfl, h1, h2⟩ := paired_last t
    exact ⟨_ :: ys, v, rfl, .cons h h1, h2⟩
theorem paired_app {α β : Type} {F : α → β → Prop} : ∀ {xs ys : List α} {st su : List β}, Paired F xs st → Paired F ys su → Paired F (xs ++ ys) (st ++ su)
  | _, _, _, _, .nil, h => h
  | _, _, _, _, .cons h t, h2 => .cons h (paired_app t h2)
theorem rows_de {K : PySem.W.Frag} {H : Hp} {R : RuleT} : ∀ {xs : List V} {vis : List (List Nat × Nat)}, Paired (RwR H R) xs vis → DeAll K H xs ((vis.map (spotOf R)).map rowD)
  | _, _, .nil => .nil
  | _, _, .cons ⟨t, e, h⟩ r => by
    subst e
    exact .cons (.tup h (.cons (.str _) (.cons (.bl _) (.cons (.bl _) .nil)))) (rows_de r)
theorem rem_mem {al : List Nat} {R : RuleT} (g : GoodR al R) {vis st : List (List Nat × Nat)} {w : List Nat} {i r : Nat} (h : (vis ++ rem R (st ++ [(w, i)])).Perm (pl R r)) : wk R r w = some i := by
  rw [← mem_pl g]
  refine h.mem_iff.mp (List.mem_append_right _ ?_)
  rw [rem_append, rem_one g]
  simp
def spUnf (K : PySem.W.Frag) (CG CT : Addr) (T0 : List (Addr × Str)) : Sp := fun vs H Q _ => ∃ (x : V) (ls : Str) (nm : Nat → Str) (R : RuleT) (n root : Nat) (A : List Addr), vs = [x] ∧ GroveF K CG H x ls nm R n root A ∧ Told ls nm R n root ∧ sz R root ≤ 2000 ∧ Tabs T0 H ∧
  ∀ (H' : Hp) (a : Addr), ExtN H H' → Tabs T0 H' → TreeF K CT H' (.ref a) ls (spots ls R root) → Q (.ref a) H'
section
variable {P : Program} {w : World} {K : PySem.W.Frag} {mg : Str → Option Value} {base : Heap} {f fI CG CT : Addr} {fd fdI : FuncData} {C : Cs} {T0 : List (Addr × Str)}
theorem ok_unf (F : Fun K "unfolded" "Grove.unfolded" (gm 12) f fd) (R0 : GroveK K CG) {tk1 : Tok} (gMp : mg "MOST_PLACES" = some (.int 2000 tk1)) (gT : mg "Tree" = some (.ref CT)) (M : Mk K CT fI) (GI : FnOk P w K mg base (L2.CX P w) 6 fI fdI ["self", "letters", "rows"] (spInit K CT C T0)) (bI : Binds K fdI ["self", "letters", "rows"] []) : FnOk P w K mg base CX0 8 f fd ["self"] (spUnf K CG CT T0) := by
  have S0 : FnScope ["self", "rows", "ahead", "place", "name", "mark", "flag", "parts", "letter"] ["self"] (defScope (gm 12)) := ⟨rfl, rfl, rfl, by decide +kernel, rfl, by decide +kernel, by decide +kernel⟩
  have nd := S0.nd
  refine F.ok S0 (fun vs H Q E h => ?_) (fun cdv A0 outer s H vs Q E hr h => ?_)
  · obtain ⟨x, ls, nm, R, n, root, A, rfl, _⟩ := h
    rfl
  · obtain ⟨x, ls, nm, R, n, root, A, rfl, hG, T, hz, hTab, kk⟩ := h
    obtain ⟨ord, a, dx, D, Sz, My, fs, kvs, ksz, kmy, rfl, G⟩ := id hG
    have hu := hu_of hr
    have b1 : (5000 : Nat) < sizeLine := by decide
    have hn1 := T.n1
    have hrt := T.rt
    have ps0 : Passes (L2.CX P w) (cxOf CX0 P w K mg base ["self", "rows", "ahead", "place", "name", "mark", "flag", "parts", "letter"] "Grove.unfolded" (defScope (gm 12)) f cdv A0 outer s H E).nox (fun _ _ _ => False) := passes_call LamX.takes0 (fun _ _ _ _ h => h)
    refine ⟨_, (pss_cons (ps_if (pt_cmpR op_gt (pe_fld (pv 0) rfl) (pe_glob (v := V.int 2000) (by rfl) gMp ⟨_, rfl⟩) (nomark _)) pss_dead pss_nil)
        (pss_cons (ps_set (i := 1) nd rfl (Or.inl rfl) (pe_lst pa_nil))
        (pss_cons (ps_set (i := 2) nd rfl (Or.inl rfl) (pe_lst (pa_cons (pe_tup (pa_cons pe_str (pa_cons (pe_fld (pv 0) rfl) pa_nil))) pa_nil)))
        (pss_cons (ps_while PassesOwn.never (pt_truth (pv 2) (fun _ => rfl)) (pss_cons (ps_asg (pe_bm0 PySem.F.plainAttrs_list PySem.F.slot_list_pop PySem.F.type_list_pop mt_pop (pv 2)) (pg_tup rfl (pgs_cons (pg_name (i := 3) nd rfl (Or.inr rfl)) (pgs_cons (pg_name (i := 4) nd rfl (Or.inl rfl)) pgs_nil))))
        (pss_cons (ps_asg (pe_dget hu (pe_fld (pv 0) rfl) (pv 4) (fun _ _ => rfl)) (pg_tup rfl (pgs_cons (pg_name (i := 5) nd rfl (Or.inl rfl)) (pgs_cons (pg_name (i := 6) nd rfl (Or.inl rfl)) (pgs_cons (pg_name (i := 7) nd rfl (Or.inr rfl)) pgs_nil)))))
        (pss_cons (ps_expr (pe_bm PySem.F.plainAttrs_list PySem.F.slot_list_append PySem.F.type_list_append mt_append (pv 1) (pa_cons (pe_tup (pa_cons (pv 3) (pa_cons (pv 5) (pa_cons (pv 6) pa_nil)))) pa_nil)))
        (pss_one (ps_expr (pe_bm PySem.F.plainAttrs_list PySem.F.slot_list_extend PySem.F.type_list_extend mt_extend (pv 2) (pa_cons (pe_lock (pe_lc (own := [("letter", 8)]) (g := gName 8) (tt := tYes) rfl nd (pi_keys (pv 7)) (blkOk_by (N := ["self", "rows", "ahead", "place", "name", "mark", "flag", "parts", "letter"]) (sc := defScope (gm 12)) (by decide +kernel)) (fun _ _ _ _ _ => pg_name (i := 8) nd rfl (Or.inl rfl)) (fun _ _ _ _ _ => pts_nil) (fun _ _ _ _ _ => (pe_tup (pa_cons (pe_op op_add_str (pv 3) (pv 8)) (pa_cons (pe_dget hu (pv 7) (pv 8) (fun _ _ => rfl)) pa_nil)))))) pa_nil))))))))
        (pss_one (ps_ret (pe_make M GI hr (by rfl) gT bI .nil ps0 (pa_cons (pe_fld (pv 0) rfl) (pa_cons (pv 1) pa_nil))))))))), ?_⟩
    have c0 : decide ((2000 : Int) < ((sz R root : Nat) : Int)) = false := decide_eq_false (by omega)
    refine ⟨V.ref a, rfl, a, CG, dx, _, _, rfl, G.ins, R0.cl, R0.na _ (by simp [sev7]), G.f6, _, _, rfl, rfl, false, congrArg V.bl c0, iteF ?_⟩
    refine ⟨Nat.zero_le _, fun rw nrw => ?_⟩
    have s1 := upd_new (o := .lst []) nrw
    have hrw1 : upd H rw (.lst []) rw = some (.lst []) := upd_same
    generalize upd H rw (.lst []) = H1 at s1 hrw1
    refine ⟨V.ref a, rfl, a, CG, dx, _, _, rfl, s1 _ _ G.ins, R0.cl, R0.na _ (by simp [sev7]), G.f5, (by show 2 ≤ sizeLine; decide), fun t0 nt0 => ⟨(by show 1 ≤ sizeLine; decide), fun sp nsp => ?_⟩⟩
    have s2 := upd_new (o := .tup [V.str "", V.str (nm root)]) nt0
    have ht2 : upd H1 t0 (.tup [V.str "", V.str (nm root)]) t0 = some (.tup [V.str "", V.str (nm root)]) := upd_same
    generalize upd H1 t0 (.tup [V.str "", V.str (nm root)]) = H2 at s2 ht2 nsp
    have s3 := upd_new (o := .lst [V.ref t0]) nsp
    have hsp3 : upd H2 sp (.lst [V.ref t0]) sp = some (.lst [V.ref t0]) := upd_same
    have hrw2 := s2 _ _ hrw1
    have nrs : rw ≠ sp := ne_of_none hrw2 nsp
    have hrw3 := s3 _ _ hrw2
    have ht3 := s3 _ _ ht2
    generalize upd H2 sp (.lst [V.ref t0]) = H3 at s3 hsp3 hrw3 ht3
    have s03 : Same H H3 := s1.trans (s2.trans s3)
    have nspH : H sp = none := by
      cases e : H sp with
      | none => rfl
      | some o =>
        rw [s2 _ _ (s1 _ _ e)] at nsp
        cases nsp
    refine ⟨fun m σ G1 => ∃ (x3 x4 x5 x6 x7 x8 : Option V) (vis st : List (List Nat × Nat)) (xr xs : List V), σ = [some (.ref a), some (.ref rw), some (.ref sp), x3, x4, x5, x6, x7, x8] ∧ m = (rem R st).length ∧ (vis ++ rem R st).Perm (pl R root) ∧ G1 rw = some (.lst xr) ∧ Paired (RwR G1 R) xr vis ∧ G1 sp = some (.lst xs) ∧ Paired (StR G1 nm) xs st ∧
        ∀ b o, b ≠ rw → b ≠ sp → H b = some o → G1 b = some o,
      ⟨_, none, none, none, none, none, none, [], [([], root)], [], [.ref t0], rfl, rfl, rem_root T.g root, hrw3, .nil, hsp3, .cons ⟨t0, rfl, ht3⟩ .nil, fun b o _ _ e => s03 _ _ e⟩, ?_⟩
    rintro m σ G1 ⟨x3, x4, x5, x6, x7, x8, vis, st, xr, xs, rfl, rfl, hp, h1, h2, h3, h4, fr⟩
    refine ⟨V.ref sp, rfl, !xs.isEmpty, .inl ⟨_, .inl (.inl h3), rfl⟩, ?_⟩
    have G1G := G.keep (H' := G1) fun b _ o e _ => fr b o (ne_of_none e nrw) (ne_of_none e nspH) e
    rcases List.eq_nil_or_concat st with rfl | ⟨st', q, rfl⟩
    · cases h4
      have hvis : vis.Perm (pl R root) := by
        have z := hp
        rw [show rem R [] = [] from rfl, List.append_nil] at z
        exact z
      refine ⟨V.ref a, rfl, a, CG, dx, _, _, rfl, G1G.ins, R0.cl, R0.na _ (by simp [sev7]), G.f4, V.ref rw, rfl, ?_⟩
      have hro : RowsOf ((vis.map (spotOf R)).map rowD) (spots ls R root) := rowsD_of ((hvis.map (spotOf R)).trans (spots_perm T.g ls root).symm)
      have e1 : ExtN H G1 := fun b o e _ => fr b o (ne_of_none e nrw) (ne_of_none e nspH) e
      have hT1 : Tabs T0 G1 := hTab.ext fun b o e => fr b o (ne_of_none e nrw) (ne_of_none e nspH) e
      exact mk_tree T.lb T.asc (.inl h1) (rows_de h2) (spots_good T hz) hro hT1 fun G2 x e2 T2 t2 => kk G2 x (e1.trans e2) T2 t2
    rw [List.concat_eq_append] at hp h4 ⊢
    obtain ⟨w, i⟩ := q
    obtain ⟨ys, v, rfl, g1, ⟨t1, rfl, g2⟩⟩ := paired_last h4
    have hwk := rem_mem T.g hp
    have hin : i < n := wk_lt T hwk
    have hwl := (wk_len T.g hwk).1
    have hsz : (vis ++ rem R (st' ++ [(w, i)])).length = sz R root := hp.length_eq
    rw [rem_append, rem_one T.g, List.length_append, List.length_append, List.length_cons] at hsz
    have hvl : xr.length = vis.length := h2.length
    have hyl : ys.length = st'.length := g1.length
    have hrl : st'.length ≤ (rem R st').length := by
      unfold rem
      rw [List.length_flatMap]
      clear hp h4 g1 hyl hsz
      induction st' with
      | nil => simp
      | cons q st' ih =>
        simp only [List.map_cons, List.sum_cons, List.length_cons]
        have : 1 ≤ (extP q.1 (pl R q.2)).length := by
          unfold extP
          rw [List.length_map, pl_eq T.g]
          simp
        omega
    have hne : (!(ys ++ [V.ref t1]).isEmpty) = true := by simp
    rw [hne]
    refine ⟨_, fun σ' H' q => q, ?_⟩
    have eL : (ys ++ [V.ref t1])[(ys ++ [V.ref t1]).length - 1]? = some (.ref t1) := by simp
    have eD : (ys ++ [V.ref t1]).dropLast = ys := by simp
    have tu1 : TupS G1 (upd G1 sp (.lst ys)) := .upd h3
    refine ⟨V.ref sp, rfl, .inl ⟨rfl, _, .inl (.inl h3)⟩, sp, _, _, rfl, rfl, h3, eL, ?_⟩
    rw [eD]
    have fr2 : ∀ b o, b ≠ rw → b ≠ sp → H b = some o → upd G1 sp (.lst ys) b = some o := fun b o u1 u2 e => by
      rw [upd_ne u2]
      exact fr b o u1 u2 e
    have hsp2 : upd G1 sp (.lst ys) sp = some (.lst ys) := upd_same
    have hrw2' : upd G1 sp (.lst ys) rw = some (.lst xr) := by
      rw [upd_ne nrs]
      exact h1
    have hg2 := tu1 _ _ g2
    have hX2 := RwR.mono tu1 h2
    have hS2 := StR.mono tu1 g1
    have G2G := G.keep (H' := upd G1 sp (.lst ys)) fun b _ o e _ => fr2 b o (ne_of_none e nrw) (ne_of_none e nspH) e
    clear G1G tu1
    generalize upd G1 sp (.lst ys) = G2 at fr2 hsp2 hrw2' hg2 hX2 hS2 G2G
    obtain ⟨tt, d, q1, q2, q3⟩ := G2G.rule hin
    have hpl := parts_few T.L T.g i
    refine ⟨t1, _, rfl, .inl (.inl hg2), rfl, _, _, rfl, _, _, rfl, rfl, V.ref a, rfl, a, CG, dx, _, _, rfl, G2G.ins, R0.cl, R0.na _ (by simp [sev7]), G.f1, V.str (nm i), rfl, D, _, rfl, q1, tt, _, rfl, .inl (.inl q2), rfl, _, _, rfl, _, _, rfl, _, _, rfl, rfl, ?_⟩
    refine ⟨V.ref rw, rfl, .inl ⟨rfl, _, .inl (.inl hrw2')⟩, V.str (toS w), rfl, V.bl (R i).mark, rfl, V.bl (R i).flag, rfl, (by show 3 ≤ sizeLine; decide), fun t2 nt2 => ?_⟩
    have s4 := upd_new (o := .tup [V.str (toS w), V.bl (R i).mark, V.bl (R i).flag]) nt2
    have ht4 : upd G2 t2 (.tup [V.str (toS w), V.bl (R i).mark, V.bl (R i).flag]) t2 = some (.tup [V.str (toS w), V.bl (R i).mark, V.bl (R i).flag]) := upd_same
    generalize upd G2 t2 (.tup [V.str (toS w), V.bl (R i).mark, V.bl (R i).flag]) = G4 at s4 ht4
    have hrw4 := s4 _ _ hrw2'
    refine ⟨rw, xr, .ref t2, rfl, rfl, hrw4, (by omega), ?_⟩
    have tu5 : TupS G4 (upd G4 rw (.lst (xr ++ [V.ref t2]))) := .upd hrw4
    have hrw5 : upd G4 rw (.lst (xr ++ [V.ref t2])) rw = some (.lst (xr ++ [V.ref t2])) := upd_same
    have hX5 : Paired (RwR (upd G4 rw (.lst (xr ++ [V.ref t2]))) R) (xr ++ [V.ref t2]) (vis ++ [(w, i)]) := paired_app (RwR.mono ((TupS.of s4).trans tu5) hX2) (.cons ⟨t2, rfl, tu5 _ _ ht4⟩ .nil)
    have hS5 := StR.mono ((TupS.of s4).trans tu5) hS2
    have fr5 : ∀ b o, b ≠ rw → b ≠ sp → H b = some o → upd G4 rw (.lst (xr ++ [V.ref t2])) b = some o := fun b o u1 u2 e => by
      rw [upd_ne u1]
      exact s4 _ _ (fr2 b o u1 u2 e)
    have hsp5 : upd G4 rw (.lst (xr ++ [V.ref t2])) sp = some (.lst ys) := by
      rw [upd_ne (Ne.symm nrs)]
      exact s4 _ _ hsp2
    have hd5 : upd G4 rw (.lst (xr ++ [V.ref t2])) d = some (.dK (encP nm (R i))) := by
      rw [upd_ne (ne_of q3 hrw2' (by intro z; cases z))]
      exact s4 _ _ q3
    clear hX2 hS2 fr2 G2G tu5 hrw4 s4 ht4
    generalize upd G4 rw (.lst (xr ++ [V.ref t2])) = G5 at hrw5 hX5 hS5 fr5 hsp5 hd5
    refine ⟨V.ref sp, rfl, .inl ⟨rfl, _, .inl (.inl hsp5)⟩, d, .dK (encP nm (R i)), hd5, trivial, fun od => ⟨V.ref d, rfl, d, od, rfl, .inl ⟨_, upd_same, fun Dn nD => lc_it (walk_keys (d := d) (o := od) (kvs := encP nm (R i))) (fun q G6 => Same (upd G5 d (.frz od (.dK (encP nm (R i))))) G6 ∧ ∃ acc, G6 Dn = some (.lst acc) ∧ Paired (StR G6 nm) acc (((R i).parts.take q).map fun p => (w ++ [p.1], p.2)))
      ⟨upd_new nD, [], upd_same, .nil⟩ (fun q G6 _ p => p.1 _ _ upd_same) ?_ ?_⟩⟩⟩
    · rintro q y G6 G7 hq ⟨s6, acc, hDn, hacc⟩ ⟨rfl, k, vv, hkv, rfl⟩
      obtain ⟨p, hpq, rfl, rfl⟩ := encP_at hkv
      have hm := List.mem_of_getElem? hpq
      have gv : valV (encP nm (R i)) (.inr (sg p.1)) = some (.str (nm p.2)) := by
        rw [encP_get, (lookup_iff (T.g.nd i)).mpr (show (p.1, p.2) ∈ _ from hm)]
        rfl
      have hal : acc.length ≤ 26 := by
        rw [hacc.length, List.length_map, List.length_take]
        omega
      refine ⟨rfl, V.str (toS w), rfl, V.str (sg p.1), rfl, _, _, rfl, rfl, ?_, V.ref d, rfl, V.str (sg p.1), rfl, d, .str (nm p.2), rfl, .inl ⟨_, .inr (sg p.1), .inr ⟨od, s6 _ _ upd_same⟩, rfl, gv.symm⟩, (by show 2 ≤ sizeLine; decide), fun t6 nt6 => ?_⟩
      · show w.toArray.size + 1 ≤ sizeLine
        rw [List.size_toArray]
        omega
      rw [toS_snoc]
      have s7 := upd_new (o := .tup [V.str (toS (w ++ [p.1])), V.str (nm p.2)]) nt6
      have ht7 : upd G7 t6 (.tup [V.str (toS (w ++ [p.1])), V.str (nm p.2)]) t6 = some (.tup [V.str (toS (w ++ [p.1])), V.str (nm p.2)]) := upd_same
      generalize upd G7 t6 (.tup [V.str (toS (w ++ [p.1])), V.str (nm p.2)]) = G8 at s7 ht7
      have hD8 := s7 _ _ hDn
      have tu : TupS G8 (upd G8 Dn (.lst (acc ++ [V.ref t6]))) := .upd hD8
      refine ⟨acc, hD8, by omega, fun b o e => ?_, acc ++ [V.ref t6], upd_same, ?_⟩
      · rw [upd_ne (ne_of_none e nD)]
        exact s7 _ _ (s6 _ _ e)
      · rw [take_snoc hpq, List.map_append]
        exact paired_app (StR.mono ((TupS.of s7).trans tu) hacc) (.cons ⟨t6, rfl, tu _ _ ht7⟩ .nil)
    rintro G6 ⟨s6, acc, hDn, hacc⟩
    have nDd : Dn ≠ d := fun z => by
      rw [z, upd_same] at nD
      cases nD
    have hel : (encP nm (R i)).length = (R i).parts.length := List.length_map _
    rw [hel, List.take_length] at hacc
    have s56 : Same G5 (upd G6 d (.dK (encP nm (R i)))) := unlock_same hd5 s6
    have tu6 : TupS G6 (upd G6 d (.dK (encP nm (R i)))) := fun b xs e => by
      rw [upd_ne (fun z => by rw [z, s6 _ _ upd_same] at e; cases e)]
      exact e
    have hacc7 := StR.mono tu6 hacc
    have hDn7 : upd G6 d (.dK (encP nm (R i))) Dn = some (.lst acc) := by
      rw [upd_ne nDd]
      exact hDn
    refine ⟨s6 _ _ upd_same, ?_⟩
    generalize upd G6 d (.dK (encP nm (R i))) = G7 at s56 hacc7 hDn7
    have hsp7 := s56 _ _ hsp5
    have hal : acc.length ≤ 26 := by
      rw [hacc.length, List.length_map]
      omega
    have tu8 : TupS G7 (upd G7 sp (.lst (ys ++ acc))) := .upd hsp7
    refine ⟨sp, Dn, ys, acc, rfl, rfl, hsp7, hDn7, by omega, (rem R (st' ++ kidsOf R w i)).length, ?_, _, _, _, _, _, _, vis ++ [(w, i)], st' ++ kidsOf R w i, xr ++ [V.ref t2], ys ++ acc, rfl, rfl, rem_step T.g hp, ?_, RwR.mono ((TupS.of s56).trans tu8) hX5, upd_same, ?_, fun b o u1 u2 e => ?_⟩
    · rw [rem_append, rem_append, rem_one T.g, List.length_append, List.length_append, List.length_cons]
      omega
    · rw [upd_ne nrs]
      exact s56 _ _ hrw5
    · exact paired_app (StR.mono ((TupS.of s56).trans tu8) hS5) (StR.mono tu8 hacc7)
    · rw [upd_ne u2]
      exact s56 _ _ (fr5 b o u1 u2 e)
end
end SK
namespace SK
open PySem PySem.Spec PyProof.Rows L2 LamX NdefX
open K0 (De DeAll XCl spX withX)
/-! ### the law of groves: small rules -/
def rListS : List V → Hp → VK → Prop := fun xs H Q => ∃ z : Str, xs = [.str z] ∧ z.cps.size ≤ sizeLine ∧ ∀ l, H l = none → Q (.ref l) (upd H l (.lst (z.cps.toList.map fun c => V.str (sg c))))
theorem cr_list_str {X : Cx} (hc : X.calm = true) : CallR X (.type "list") rListS := by
  intro pins s σ H xs us Q I r h
  obtain ⟨z, rfl, hz, q⟩ := h
  obtain ⟨u, rfl, t, rfl⟩ := vals1 r
  refine PySem.call_list_str (hn := hz) (I.ok.hd hc) z t fun h' tk acc' c' kp e hacc => ?_
  refine ⟨.ref s.heap.objs.size, _, I.laid (t' := tk) kp (Nat.le_refl _) (show ObjOk X.prog X.w _ h' _ (.lst (z.cps.toList.map fun c => V.str (sg c))) from ⟨by rw [List.length_map, Array.length_toList]; exact hz, acc'.toList, c', ?_, by simpa using e⟩), rfl, q _ (I.hok.fresh (Nat.le_refl _))⟩
  refine vals_of_idx _ _ (by rw [List.length_map, Array.length_toList, Array.length_toList]; exact hacc.1) fun j u hu => ?_
  obtain ⟨c, tk2, hc2, rfl⟩ := hacc.2 j u (by simpa using hu)
  refine ⟨.str (sg c), ?_, tk2, rfl⟩
  rw [List.getElem?_map]
  have z2 : z.cps.toList[j]? = some c := by simpa using hc2
  rw [z2]
  rfl
def rDictC : List V → Hp → VK → Prop := fun xs H Q => ∃ (a : Addr) (kvs : List (Key × V)), xs = [.ref a] ∧ Rd H a (.dK kvs) ∧ ∀ p, H p = none → Q (.ref p) (upd H p (.dK kvs))
theorem cr_dictC {X : Cx} : CallR X (.type "dict") rDictC := by
  intro pins s σ H xs us Q I r h
  obtain ⟨a, kvs, rfl, hd, q⟩ := h
  obtain ⟨u, rfl, rx⟩ := vals1 r
  cases rx
  exact d_copyOf I hd fun p s' np I' => ⟨.ref p, _, I', rfl, q p np⟩
def spShufS (K : PySem.W.Frag) : Sp := fun vs H Q _ => ∃ (p l : Addr) (z : Str) (ns : List Int) (k lf : Int) (xs : List V), xs = (z.cps.toList.map fun c => V.str (sg c)) ∧ vs = [.ref p, .str z] ∧ PenAt H p l ns k lf ∧ ns.length ≤ 63 ∧ 0 ≤ k ∧ k ≤ 90000 ∧ 0 ≤ lf ∧ xs.length ≤ 900 ∧
  ∀ (H' : Hp) (k' lf' : Int) (b : Addr) (ys : List V), k' ≤ k + xs.length → 0 ≤ k' → 0 ≤ lf' → ys.Perm xs → SameBut p H H' → PenAt H' p l ns k' lf' → H' b = some (.lst ys) → H b = none → Q (.ref b) H'
section
variable {P : Program} {w : World} {K : PySem.W.Frag} {mg : Str → Option Value} {base : Heap} {f fD fP : Addr} {fd fdD fdP : FuncData}
theorem ok_shufS (F : Fun K "_law_shuffled" "_law_shuffled" (top 63) f fd) (gN : mg "len" = none) (gL : mg "list" = none) (gD : mg "_law_draw" = some (.ref fD)) (kD : PySem.W.keepIn K (.ref fD) = true) (GD : FnOk P w K mg base CX0 1 fD fdD ["pen", "many"] spDraw)
    (bD : Binds K fdD ["pen", "many"] []) : FnOk P w K mg base CX0 2 f fd ["pen", "items"] (spShufS K) := by
  refine F.ok scShuf (fun vs H Q E h => ?_) (fun cdv A outer s H vs Q E hr h => ?_)
  · obtain ⟨p, l, z, ns, k, lf, xs, _, rfl, _⟩ := h
    rfl
  · obtain ⟨p, l, z, ns, k, lf, xs, hxs, rfl, hp, hn, hk0, hk1, hf, hz, kk⟩ := h
    have hu1 : _ < cLine := Nat.lt_of_le_of_lt (Nat.le_add_right _ 64) hr.units
    refine ⟨_, pss_cons (ps_par (i := 2) (j := 3) rfl scShuf.nd rfl rfl (by decide) rfl rfl (pa_cons (pe_callTy (cr_list_str rfl) (by rfl) gL PyProof.Rows.boot_list (pa_cons (pv 1) pa_nil)) (pa_cons (pe_lst pa_nil) pa_nil)) rfl)
      (pss_cons (ps_while PassesOwn.never (pt_cmpR (op_neE hu1) (pv 2) (pe_lst pa_nil) (nomark _)) (pss_one (ps_expr (pe_bm PySem.F.plainAttrs_list PySem.F.slot_list_append PySem.F.type_list_append mt_append (pv 3) (pa_cons
          (pe_bm PySem.F.plainAttrs_list PySem.F.slot_list_pop PySem.F.type_list_pop mt_popAt (pv 2) (pa_cons (pe_call GD hr (by rfl) gD kD bD .nil pass0 (pa_cons (pv 0) (pa_cons (pe_callB call_len_seq (by rfl) gN PySem.boot_len (pa_cons (pv 2) pa_nil)) pa_nil))) pa_nil)) pa_nil)))))
      (pss_one (ps_ret (pv 3)))), ?_⟩
    have hzz : z.cps.size ≤ sizeLine := by
      have b : (900 : Nat) < sizeLine := by decide
      have e : xs.length = z.cps.size := by rw [hxs, List.length_map, Array.length_toList]
      omega
    refine ⟨V.str z, rfl, z, rfl, hzz, fun r nr => ⟨Nat.zero_le _, fun b nb => ⟨V.ref r, V.ref b, rfl, ?_⟩⟩⟩
    rw [← hxs] at *
    have s0 : Same H (upd (upd H r (.lst xs)) b (.lst [])) := (upd_new nr).trans (upd_new nb)
    have r0 : upd (upd H r (.lst xs)) b (.lst []) r = some (.lst xs) := upd_new nb _ _ upd_same
    have b0 : upd (upd H r (.lst xs)) b (.lst []) b = some (.lst []) := upd_same
    have nrb : r ≠ b := fun z => by
      rw [← z, upd_same] at nb
      cases nb
    have nbH : H b = none := by
      rw [upd_ne (Ne.symm nrb)] at nb
      exact nb
    generalize upd (upd H r (.lst xs)) b (.lst []) = H0 at s0 r0 b0
    refine ⟨fun m σ H1 => ∃ (k1 lf1 : Int) (zs ys : List V), σ = [some (.ref p), some (.str z), some (.ref r), some (.ref b)] ∧ zs.length = m ∧ (ys ++ zs).Perm xs ∧ k1 ≤ k + ys.length ∧ 0 ≤ k1 ∧ 0 ≤ lf1 ∧ PenAt H1 p l ns k1 lf1 ∧ SameBut p H H1 ∧
      H1 r = some (.lst zs) ∧ H1 b = some (.lst ys), ⟨xs.length, k, lf, xs, [], rfl, rfl, .refl _, by simp, hk0, hf, ⟨s0 _ _ hp.dc, s0 _ _ hp.ls⟩, .of s0, r0, b0⟩, ?_⟩
    rintro m σ H1 ⟨k1, lf1, zs, ys, rfl, hm, hperm, e1, e2, e3, P1, s1, hr1, hb1⟩
    have hsum : ys.length + zs.length = xs.length := by
      have z := hperm.length_eq
      rw [List.length_append] at z
      exact z
    refine ⟨V.ref r, rfl, Nat.zero_le _, fun q nq => ?_⟩
    have s2 := upd_new (o := .lst []) nq
    have hq2 : upd H1 q (.lst []) q = some (.lst []) := upd_same
    have P2 : PenAt (upd H1 q (.lst [])) p l ns k1 lf1 := ⟨s2 _ _ P1.dc, s2 _ _ P1.ls⟩
    have s02 := s1.trans (SameBut.of s2)
    have hr2 := s2 _ _ hr1
    have hb2 := s2 _ _ hb1
    generalize upd H1 q (.lst []) = H2 at s2 hq2 P2 s02 hr2 hb2
    refine ⟨r, q, zs, rfl, rfl, .inl (.inl hr2), .inl (.inl hq2), _, rfl, ?_⟩
    have npr : r ≠ p := ne_of hr2 P2.dc (by intro z; cases z)
    have npb : b ≠ p := ne_of hb2 P2.dc (by intro z; cases z)
    cases zs with
    | nil =>
      have hy : ys.length = xs.length := hsum
      rw [List.append_nil] at hperm
      exact ⟨V.ref b, rfl, kk H2 k1 lf1 b ys (by omega) e2 e3 hperm s02 P2 hb2 nbH⟩
    | cons z0 zr =>
      have ed : (z0 :: zr).isEmpty = false := rfl
      rw [ed]
      generalize hzs : z0 :: zr = zs at *
      have hpos : 0 < zs.length := by rw [← hzs]; simp
      refine ⟨_, fun σ' H' q => q, ?_⟩
      refine ⟨V.ref b, rfl, .inl ⟨rfl, _, .inl (.inl hb2)⟩, V.ref r, rfl, .inl ⟨rfl, _, .inl (.inl hr2)⟩, V.ref p, rfl, V.ref r, rfl, r, zs, rfl, .inl (.inl (.inl hr2)), p, l, ns, k1, lf1, _, rfl, P2, hn, e2, by omega, e3, by omega, by omega, fun H3 k3 lf3 d g1 g2 g3 g4 g5 s3 P3 => ?_⟩
      obtain ⟨j, hj⟩ : ∃ j : Nat, d = (j : Int) := ⟨d.toNat, (Int.toNat_of_nonneg g4).symm⟩
      have hjl : j < zs.length := by omega
      obtain ⟨y, hy⟩ : ∃ y, zs[j]? = some y := ⟨_, List.getElem?_eq_getElem hjl⟩
      have hr3 := s3 _ _ npr hr2
      have hb3 := s3 _ _ npb hb2
      have b63 : (900 : Int) < 2 ^ 63 := by decide
      have b900 : (900 : Nat) < sizeLine := by decide
      refine ⟨r, zs, d, j, y, rfl, rfl, hr3, by omega, by omega, seq_ix hj hjl, hy, b, ys, y, rfl, rfl, (upd_ne (Ne.symm nrb)).trans hb3, by omega, ?_⟩
      refine ⟨(zs.eraseIdx j).length, ?_, k3, lf3, zs.eraseIdx j, ys ++ [y], rfl, rfl, ?_, ?_, g2, g3, ⟨?_, ?_⟩, ?_, ?_, upd_same⟩
      · rw [List.length_eraseIdx_of_lt hjl]
        omega
      · have e := erase_perm hy
        rw [List.append_assoc]
        exact (e.append_left ys).trans hperm
      · rw [List.length_append]
        show k3 ≤ k + ((ys.length + 1 : Nat) : Int)
        omega
      · rw [upd_ne (Ne.symm npb), upd_ne (Ne.symm npr)]
        exact P3.dc
      · rw [upd_ne (ne_of_none hp.ls nbH), upd_ne (ne_of_none hp.ls nr)]
        exact P3.ls
      · intro c o hc e
        have n1 : c ≠ r := fun z => by
          rw [z] at e
          rw [e] at nr
          cases nr
        have n2 : c ≠ b := fun z => by
          rw [z] at e
          rw [e] at nbH
          cases nbH
        rw [upd_ne n2, upd_ne n1]
        exact s3 _ _ hc (s02 _ _ hc e)
      · rw [upd_ne nrb, upd_same]
/-! ### how a call is met -/
def MetN (CN : Addr) (Q : VK) : XK := fun cls d H' => ∃ (dx : Addr) (v : V), cls = .ref CN ∧ d = some dx ∧ H' dx = some (.xd [("place", v)]) ∧ ∀ p, H' p = none → Q (.ref p) (upd H' p (.tup [.str "place", v]))
def TTmetN (CN : Addr) : (XK → Hp → VK → Prop) → Hp → VK → Prop := fun tl H Q => tl (MetN CN Q) H (fun _ H' => ([] : List V).length ≤ sizeLine ∧ ∀ p, H' p = none → Q (.ref p) (upd H' p (.tup [])))
theorem takes_len {X : Cx} {W : WX} (tk : Takes X W) : Takes X (fun cls d σ H => σ.length = X.N.length → W cls d σ H) := fun e s x => by
  obtain ⟨a, B, sI, pins, σ', H', cls, d, e1, I, nb, up, sky, na, os, ag, w⟩ := x
  exact tk e s ⟨a, B, sI, pins, σ', H', cls, d, e1, I, nb, up, sky, na, os, ag, w I.len⟩
theorem scMet : FnScope ["call", "e"] ["call"] (defScope (top 66)) := ⟨rfl, rfl, rfl, by decide +kernel, rfl, by decide +kernel, by decide +kernel⟩
theorem met_givesN {X : Cx} {g CN : Addr} {cdg : Value} {q : Str} (D0 : XR X.prog X.w X.K X.mg X.base "NoPlace" CN ["place"]) (nn : PySem.W.exmOne X.K (.ref CN) (.ref CN) = some true) (hr : Room 2 X.A) :
    GivesTo X ["call", "e"] "_law_met" (defScope (top 66)) g cdg (defBody (top 66)) "call" q (TTmetN CN) := by
  intro f c' s H Q tl act hc h
  have hr2 : Room 1 (X.A.deeper (envOfC "_law_met" (defScope (top 66)) s.heap.objs.size g cdg)) := hr.deeper _
  refine ⟨_, pss_cons (ps_try_asM (X := (cxOf C8.CX0 X.prog X.w X.K X.mg X.base ["call", "e"] "_law_met" (defScope (top 66)) g cdg X.A X.stack s H C8.E0).nox) (i := 1) (n := "e")
      (tb := fun W D σ H => ∃ Ech : XK, (∀ cls d σ' H', Ech cls d H' → σ'.length = 2 → W cls d σ' H') ∧ σ[0]? = some (some (.ref f)) ∧ H c' = some (CodeO c' q) ∧ tl Ech H fun _ H' => D.nx σ H')
      rfl rfl scMet.nd rfl rfl LamX.takes0 (fun W pn xe tk _ => ?_)
      (HdsAs.cons (c := .ref CN) ⟨rfl, by decide, .inl D0.gC⟩ (fun a oe cls d pn hz hf => pss_one (ps_ret (pe_tup (pa_cons pe_str (pa_cons (pe_xf (xf_of D0.cl) (D0.no _ (by simp)) hz hf (pv 1)) pa_nil))))) HdsAs.nil))
    (pss_one (ps_ret (pe_tup pa_nil))), ?_⟩
  · refine ⟨fun pins s' σ H' D I h' => ?_⟩
    obtain ⟨Ech, hW, h1, h2, h3⟩ := h'
    exact (pss_one (ps_expr (act _ pn xe Ech _ _ (takes_len tk) hW))).run pins s' σ H' D I ⟨h1, h2, h3⟩
  · refine ⟨_, ?_, rfl, hc, h⟩
    intro cls d σ' H' hM hl
    have at1 : ∀ z : Addr, (List.set σ' 1 (some (V.ref z)))[1]? = some (some (V.ref z)) := fun z => by
      rw [List.getElem?_set_self]
      omega
    obtain ⟨dx, v, rfl, rfl, hdx, kk⟩ := hM
    refine ⟨true, nn, fun _ q nq => ?_, fun z => nomatch z⟩
    exact ⟨V.ref q, at1 q, rfl, rfl, dx, _, v, rfl, hdx, by simp [List.lookup], (by show 2 ≤ sizeLine; decide), kk⟩
end
end SK
namespace SK
open PySem PySem.Spec PyProof.Rows L2 LamX NdefX
open K0 (De DeAll XCl spX withX)
/-! ### the law tells rules -/
def nm7 : List Str := ["M", "AA", "Z", "BQ", "C", "XYXYXYXY", "D"]
def nmL (i : Nat) : Str := nm7.getD i ""
theorem nmL_ok : ∀ i < 7, nameOk (nmL i) := by
  show ∀ i < 7, 1 ≤ (nmL i).cps.size ∧ (nmL i).cps.size ≤ 8 ∧ ∀ c ∈ (nmL i).cps.toList, c ∈ caps.cps.toList
  decide +kernel
theorem nmL_inj : ∀ i < 7, ∀ j < 7, nmL i = nmL j → i = j := by decide +kernel
theorem nmL_at {i : Nat} (h : i < 7) : (nm7.map V.str)[i]? = some (.str (nmL i)) := by
  have z : ∀ j < 7, nm7[j]? = some (nmL j) := by decide +kernel
  rw [List.getElem?_map, z i h]
  rfl
theorem pl_congr {al : List Nat} {R R' : RuleT} (g : GoodR al R) (g' : GoodR al R') : ∀ i, (∀ j ≤ i, R j = R' j) → pl R i = pl R' i := by
  intro i
  induction i using Nat.strongRecOn with
  | _ i ih =>
    intro h
    rw [pl_eq g, pl_eq g', h i (Nat.le_refl _)]
    congr 1
    refine flatMap_same fun p hp => ?_
    have hd := g'.dn i p hp
    rw [ih p.2 hd fun j hj => h j (by omega)]
def Rset (R : RuleT) (i : Nat) (r : RuleD) : RuleT := fun m => if m = i then r else R m
theorem Rset_at (R : RuleT) (i : Nat) (r : RuleD) : Rset R i r i = r := if_pos rfl
theorem Rset_ne (R : RuleT) {i m : Nat} (r : RuleD) (h : m ≠ i) : Rset R i r m = R m := if_neg h
theorem Rset_good {al : List Nat} {R : RuleT} {i : Nat} {r : RuleD} (g : GoodR al R) (h1 : ∀ p ∈ r.parts, p.2 < i ∧ p.1 ∈ al) (h2 : (r.parts.map Prod.fst).Nodup) : GoodR al (Rset R i r) := by
  refine ⟨fun m p hp => ?_, fun m => ?_, fun m p hp => ?_⟩
  · by_cases e : m = i
    · subst e
      rw [Rset_at] at hp
      exact (h1 p hp).1
    · rw [Rset_ne R r e] at hp
      exact g.dn m p hp
  · by_cases e : m = i
    · subst e
      rw [Rset_at]
      exact h2
    · rw [Rset_ne R r e]
      exact g.nd m
  · by_cases e : m = i
    · subst e
      rw [Rset_at] at hp
      exact (h1 p hp).2
    · rw [Rset_ne R r e] at hp
      exact g.al m p hp
theorem sz_set {al : List Nat} {R : RuleT} {i m : Nat} {r : RuleD} (g : GoodR al R) (g' : GoodR al (Rset R i r)) (h : m < i) : sz (Rset R i r) m = sz R m := by
  unfold sz
  rw [pl_congr g' g m fun j hj => Rset_ne R r (by omega)]
theorem perm_of_map {α β : Type} {f : α → β} {xs ys : List β} (p : ys.Perm xs) : ∀ {l : List α}, xs = l.map f → ∃ cs : List α, cs.Perm l ∧ ys = cs.map f := by
  induction p with
  | nil =>
    intro l h
    cases l with
    | nil => exact ⟨[], .refl _, rfl⟩
    | cons a l => cases h
  | cons x _ ih =>
    intro l h
    cases l with
    | nil => cases h
    | cons a l =>
      injection h with h1 h2
      obtain ⟨cs, q1, q2⟩ := ih h2
      exact ⟨a :: cs, q1.cons _, by rw [List.map_cons, ← q2, h1]⟩
  | swap x y l0 =>
    intro l h
    cases l with
    | nil => cases h
    | cons a l =>
      cases l with
      | nil =>
        injection h with _ h
        cases h
      | cons b l =>
        injection h with h1 h2
        injection h2 with h2 h3
        exact ⟨b :: a :: l, List.Perm.swap _ _ _, by rw [List.map_cons, List.map_cons, ← h1, ← h2, ← h3]⟩
  | trans _ _ ih1 ih2 =>
    intro l h
    obtain ⟨cs, q1, q2⟩ := ih2 h
    obtain ⟨ds, q3, q4⟩ := ih1 q2
    exact ⟨ds, q3.trans q1, q4⟩
theorem cutS_sub (z : Str) (lo hi : Option Int) : (cutS z lo hi).cps.toList.Sublist z.cps.toList := by
  show ((z.cps.toList.drop (HT.sIx z.length 0 lo)).take (HT.sIx z.length z.length hi - HT.sIx z.length 0 lo)).toArray.toList.Sublist z.cps.toList
  rw [List.toList_toArray]
  exact (List.take_sublist _ _).trans (List.drop_sublist _ _)
def encL (l : List (Nat × Nat)) : List (Key × V) := l.map fun p => ((Sum.inr (sg p.1) : Key), V.str (nmL p.2))
/-- while the parts of a rule are told -/
structure PartI (p l Pd : Addr) (ns : List Int) (at_ : Nat) (cs : List Nat) (kb : Int) (G0 : Hp) (q : Nat) (k lf : Int) (l2 : List (Nat × Nat)) (G : Hp) : Prop where
  pen : PenAt G p l ns k lf
  k0 : 0 ≤ k
  k1 : k ≤ kb + 2 * q
  lf0 : 0 ≤ lf
  dc : G Pd = some (.dK (encL l2))
  nd : (l2.map Prod.fst).Nodup
  ks : ∀ x ∈ l2, x.1 ∈ cs.take q ∧ x.2 < at_
  fr : ∀ b o, b ≠ p → b ≠ Pd → G0 b = some o → G b = some o
theorem PartI.skip {p l Pd : Addr} {ns : List Int} {at_ : Nat} {cs : List Nat} {kb : Int} {G0 G G' : Hp} {q : Nat} {k lf k' lf' : Int} {l2 : List (Nat × Nat)} (h : PartI p l Pd ns at_ cs kb G0 q k lf l2 G) (hPd : Pd ≠ p) (s : SameBut p G G') (P : PenAt G' p l ns k' lf') (h0 : 0 ≤ k') (h1 : k' ≤ k + 2) (h2 : 0 ≤ lf') : PartI p l Pd ns at_ cs kb G0 (q + 1) k' lf' l2 G' :=
  ⟨P, h0, by have := h.k1; have e : ((q + 1 : Nat) : Int) = (q : Int) + 1 := by omega
             omega, h2, s _ _ hPd h.dc, h.nd, fun x hx => ⟨by
    have z := (h.ks x hx).1
    exact (List.take_sublist_take_left (Nat.le_succ q)).subset z, (h.ks x hx).2⟩, fun b o n1 n2 e => s _ _ n1 (h.fr b o n1 n2 e)⟩
theorem PartI.put {p l Pd : Addr} {ns : List Int} {at_ : Nat} {cs : List Nat} {kb : Int} {G0 G G' : Hp} {q c j : Nat} {k lf k' lf' : Int} {l2 : List (Nat × Nat)} (h : PartI p l Pd ns at_ cs kb G0 q k lf l2 G) (hPd : Pd ≠ p) (hc : cs[q]? = some c) (ndc : cs.Nodup) (hj : j < at_) (s : SameBut p G G') (P : PenAt G' p l ns k' lf') (h0 : 0 ≤ k') (h1 : k' ≤ k + 2) (h2 : 0 ≤ lf') (npl : Pd ≠ l) :
    PartI p l Pd ns at_ cs kb G0 (q + 1) k' lf' (l2 ++ [(c, j)]) (upd G' Pd (.dK (putK (encL l2) (.inr (sg c)) (.str (nmL j))))) := by
  have nc : c ∉ l2.map Prod.fst := fun z => by
    obtain ⟨x, hx, rfl⟩ := List.mem_map.mp z
    have hm := (h.ks x hx).1
    obtain ⟨i, hi⟩ := List.mem_iff_getElem?.mp hm
    have hiq : i < q := by
      have z := (List.getElem?_eq_some_iff.mp hi).1
      rw [List.length_take] at z
      omega
    rw [List.getElem?_take_of_lt hiq] at hi
    exact absurd ((List.getElem?_inj (List.getElem?_eq_some_iff.mp hi).1 ndc).mp (hi.trans hc.symm)) (by omega)
  have none_ : valV (encL l2) (.inr (sg c)) = none := by
    unfold encL
    rw [encP_val nmL c l2]
    cases e : l2.lookup c with
    | none => rfl
    | some m => exact absurd (List.mem_map.mpr ⟨(c, m), (lookup_iff h.nd).mp e, rfl⟩) nc
  have e1 : putK (encL l2) (.inr (sg c)) (.str (nmL j)) = encL (l2 ++ [(c, j)]) := by
    rw [putK_new _ none_]
    unfold encL
    rw [List.map_append]
    rfl
  rw [e1]
  refine ⟨⟨?_, ?_⟩, h0, by have := h.k1; have e : ((q + 1 : Nat) : Int) = (q : Int) + 1 := by omega
                           omega, h2, upd_same, ?_, fun x hx => ?_, fun b o n1 n2 e => ?_⟩
  · rw [upd_ne (Ne.symm hPd)]
    exact P.dc
  · rw [upd_ne (Ne.symm npl)]
    exact P.ls
  · rw [List.map_append, List.nodup_append]
    refine ⟨h.nd, by simp, fun a ha b hb z => ?_⟩
    obtain rfl : b = c := by simpa using hb
    exact nc (z ▸ ha)
  · rw [take_snoc hc]
    rcases List.mem_append.mp hx with hx | hx
    · exact ⟨List.mem_append_left _ (h.ks x hx).1, (h.ks x hx).2⟩
    · obtain rfl : x = (c, j) := by simpa using hx
      exact ⟨by simp, hj⟩
  · rw [upd_ne n2]
    exact s _ _ n1 (h.fr b o n1 n2 e)
theorem sub_len {l m : List Nat} (nd : l.Nodup) (ndm : m.Nodup) (h : ∀ x ∈ l, x ∈ m) : l.length ≤ m.length := by
  have p : l.Perm (m.filter fun x => decide (x ∈ l)) := (List.perm_ext_iff_of_nodup nd (ndm.filter _)).mpr fun x => by
    rw [List.mem_filter, decide_eq_true_eq]
    exact ⟨fun z => ⟨h x z, z⟩, fun z => z.2⟩
  rw [p.length_eq]
  exact List.length_filter_le _ _
/-- while rules are told -/
structure ToldI (p l Nm D Sz : Addr) (ns : List Int) (al : List Nat) (kb : Int) (H : Hp) (m : Nat) (k lf : Int) (R : RuleT) (kvs ks : List (Key × V)) (A : List Addr) (G : Hp) : Prop where
  pen : PenAt G p l ns k lf
  k0 : 0 ≤ k
  k1 : k ≤ kb + 90 * m
  lf0 : 0 ≤ lf
  fr : SameBut p H G
  nm : G Nm = some (.lst (nm7.map V.str))
  own : OwnR G nmL R m (List.range m) D kvs A
  good : GoodR al R
  zd : G Sz = some (.dK ks)
  szk : ks.map Prod.fst = (List.range m).map fun i => (Sum.inr (nmL i) : Key)
  szv : ∀ i < m, valV ks (.inr (nmL i)) = some (.int (sz R i : Nat))
  fresh : ∀ b ∈ A, H b = none
  nN : Nm ∉ A
  nS : Sz ∉ A
def spToldL (K : PySem.W.Frag) : Sp := fun vs H Q _ => ∃ (p l : Addr) (ns : List Int) (k lf : Int) (ls : Str), vs = [.ref p, .str ls] ∧ PenAt H p l ns k lf ∧ ns.length ≤ 63 ∧ 0 ≤ k ∧ k ≤ 80000 ∧ 0 ≤ lf ∧ OkL ls ∧
  ∀ (H' : Hp) (k' lf' : Int) (t D Ft : Addr) (R : RuleT) (n : Nat) (kvs : List (Key × V)) (A : List Addr), k' ≤ k + 700 → 0 ≤ k' → 0 ≤ lf' → SameBut p H H' → PenAt H' p l ns k' lf' → H' t = some (.tup [.ref D, .ref Ft]) → 1 ≤ n → n ≤ 7 → GoodR ls.cps.toList R →
    OwnR H' nmL R n (List.range n) D kvs A → (∀ b ∈ A, H b = none) → H Ft = none → H' Ft = some (.lst (nmV nmL ((List.range n).filter fun i => decide (sz R i ≤ 150)))) → Q (.ref t) H'
section
variable {P : Program} {w : World} {K : PySem.W.Frag} {mg : Str → Option Value} {base : Heap} {f fD fP fSh : Addr} {fd fdD fdP fdSh : FuncData}
theorem ok_told (F : Fun K "_law_told_rules" "_law_told_rules" (top 67) f fd) (gRg : mg "range" = none) (gMn : mg "min" = none) (gSu : mg "sum" = none)
    (gD : mg "_law_draw" = some (.ref fD)) (kD : PySem.W.keepIn K (.ref fD) = true) (GD : FnOk P w K mg base CX0 1 fD fdD ["pen", "many"] spDraw) (bD : Binds K fdD ["pen", "many"] [])
    (gP : mg "_law_pick" = some (.ref fP)) (kP : PySem.W.keepIn K (.ref fP) = true) (GP : FnOk P w K mg base CX0 2 fP fdP ["pen", "items"] spPick) (bP : Binds K fdP ["pen", "items"] [])
    (gSh : mg "_law_shuffled" = some (.ref fSh)) (kSh : PySem.W.keepIn K (.ref fSh) = true) (GSh : FnOk P w K mg base CX0 2 fSh fdSh ["pen", "items"] (spShufS K)) (bSh : Binds K fdSh ["pen", "items"] []) : FnOk P w K mg base CX0 3 f fd ["pen", "letters"] (spToldL K) := by
  have S0 : FnScope ["pen", "letters", "names", "rules", "sizes", "some", "full", "at", "parts", "letter", "name"] ["pen", "letters"] (defScope (top 67)) := ⟨rfl, rfl, rfl, by decide +kernel, rfl, by decide +kernel, by decide +kernel⟩
  have nd := S0.nd
  refine F.ok S0 (fun vs H Q E h => ?_) (fun cdv A0 outer s H vs Q E hr h => ?_)
  · obtain ⟨p, l, ns, k, lf, ls, rfl, _⟩ := h
    rfl
  · obtain ⟨p, l, ns, k, lf, ls, rfl, hP, hn, hk0, hk1, hf, hL, kk⟩ := h
    have hu := hu_of hr
    have hr2 : Room 2 _ := hr
    have hr1 : Room 1 _ := hr.mono (by decide)
    have b1 : (5000 : Nat) < sizeLine := by decide
    have h26 := hL.hi
    refine ⟨_, (pss_cons (ps_asg (pe_tup (pa_cons (pe_lst (pa_cons pe_str (pa_cons pe_str (pa_cons pe_str (pa_cons pe_str (pa_cons pe_str (pa_cons pe_str (pa_cons pe_str pa_nil)))))))) (pa_cons pe_dnewK (pa_cons pe_dnewK pa_nil)))) (pg_tup rfl (pgs_cons (pg_name (i := 2) nd rfl (Or.inl rfl)) (pgs_cons (pg_name (i := 3) nd rfl (Or.inl rfl)) (pgs_cons (pg_name (i := 4) nd rfl (Or.inr rfl)) pgs_nil)))))
        (pss_cons (ps_par (i := 5) (j := 6) rfl nd rfl rfl (by decide) rfl rfl (pa_cons (pe_call GP hr2 (by rfl) gP kP bP .nil pass0 (pa_cons (pv 0) (pa_cons (pe_lst (pa_cons (pe_slice sl_str (pv 1) po_none (po_some pe_int)) (pa_cons (pe_slice sl_str (pv 1) (po_some (pe_un un_neg pe_int)) po_none) pa_nil))) pa_nil))) (pa_cons (pe_cmpR op_eq (pe_call GD hr1 (by rfl) gD kD bD .nil pass0 (pa_cons (pv 0) (pa_cons pe_int pa_nil))) pe_int (nomark _)) pa_nil)) rfl)
        (pss_cons (ps_for PassesOwn.never rfl (pi_range1 (by rfl) gRg (pa_cons (pe_op op_add pe_int (pe_call GD hr1 (by rfl) gD kD bD .nil pass0 (pa_cons (pv 0) (pa_cons pe_int pa_nil)))) pa_nil)) (pg_name (i := 7) nd rfl (Or.inl rfl)) (pss_cons (ps_set (i := 8) nd rfl (Or.inr rfl) pe_dnewK)
        (pss_cons (ps_for PassesOwn.never rfl (pi_list (pe_call GSh hr2 (by rfl) gSh kSh bSh .nil pass0 (pa_cons (pv 0) (pa_cons (pv 5) pa_nil)))) (pg_name (i := 9) nd rfl (Or.inl rfl)) (pss_one (ps_if (PW.pt (pw_and (pt_cmpR op_gt (pv 7) pe_int (nomark _)) (pw_and1 (PW.pt (pw_or (pt_val (pv 6)) (pw_or1 (pt_cmpR op_gt (pe_call GD hr1 (by rfl) gD kD bD .nil pass0 (pa_cons (pv 0) (pa_cons pe_int pa_nil))) pe_int (nomark _)))))))) (pss_one (ps_dput hu (pv 8) (pv 9) (pe_ix ix_list (pv 2) (pe_op op_sub (pe_op op_sub (pv 7) pe_int) (pe_ifExp (pt_not (pt_val (pv 6))) (pe_call GD hr1 (by rfl) gD kD bD .nil pass0 (pa_cons (pv 0) (pa_cons (pe_callB (call_min2 rfl) (by rfl) gMn PyProof.Rows.boot_min (pa_cons pe_int (pa_cons (pv 7) pa_nil))) pa_nil))) pe_int)) (fun _ _ => rfl)) rfl)) pss_nil)))
        (pss_cons (ps_dput hu (pv 3) (pe_ix ix_list (pv 2) (pv 7) (fun _ _ => rfl)) (pe_tup (pa_cons (pe_cmpR op_eq (pe_call GD hr1 (by rfl) gD kD bD .nil pass0 (pa_cons (pv 0) (pa_cons pe_int pa_nil))) pe_int (nomark _)) (pa_cons (pe_cmpR op_eq (pe_call GD hr1 (by rfl) gD kD bD .nil pass0 (pa_cons (pv 0) (pa_cons pe_int pa_nil))) pe_int (nomark _)) (pa_cons (pv 8) pa_nil)))) rfl)
        (pss_one (ps_dput hu (pv 4) (pe_ix ix_list (pv 2) (pv 7) (fun _ _ => rfl)) (pe_op op_add pe_int (pe_callB (cr_sum rfl) (by rfl) gSu PyProof.Rows.boot_sum (pa_cons (pe_lock (pe_lc (own := [("letter", 9)]) (g := gName 9) (tt := tYes) rfl nd (pi_keys (pv 8)) (blkOk_by (N := ["pen", "letters", "names", "rules", "sizes", "some", "full", "at", "parts", "letter", "name"]) (sc := defScope (top 67)) (by decide +kernel)) (fun _ _ _ _ _ => pg_name (i := 9) nd rfl (Or.inl rfl)) (fun _ _ _ _ _ => pts_nil) (fun _ _ _ _ _ => (pe_dget hu (pv 4) (pe_dget hu (pv 8) (pv 9) (fun _ _ => rfl)) (fun _ _ => rfl))))) pa_nil))) rfl))))))
        (pss_one (ps_ret (pe_tup (pa_cons (pv 3) (pa_cons (pe_lock (pe_lc (own := [("name", 10)]) (g := gName 10) rfl nd (pi_keys (pv 3)) (blkOk_by (N := ["pen", "letters", "names", "rules", "sizes", "some", "full", "at", "parts", "letter", "name"]) (sc := defScope (top 67)) (by decide +kernel)) (fun _ _ _ _ _ => pg_name (i := 10) nd rfl (Or.inl rfl)) (fun _ _ _ _ _ => (pts_one (pt_cmpR op_le (pe_dget hu (pv 4) (pv 10) (fun _ _ => rfl)) pe_int (nomark _)))) (fun _ _ _ _ _ => (pv 10)))) pa_nil)))))))), ?_⟩
    refine ⟨(by show 7 ≤ sizeLine; decide), fun Nm nNm => ?_⟩
    intro D nD Sz nSz
    refine ⟨(by show 3 ≤ sizeLine; decide), fun t0 nt0 => ⟨t0, _, rfl, .inl (.inl upd_same), rfl, _, _, rfl, _, _, rfl, _, _, rfl, rfl, ?_⟩⟩
    have s1 := upd_new (o := .lst [V.str "M", V.str "AA", V.str "Z", V.str "BQ", V.str "C", V.str "XYXYXYXY", V.str "D"]) nNm
    have a1 : upd H Nm (.lst [V.str "M", V.str "AA", V.str "Z", V.str "BQ", V.str "C", V.str "XYXYXYXY", V.str "D"]) Nm = some (.lst (nm7.map V.str)) := upd_same
    generalize upd H Nm (.lst [V.str "M", V.str "AA", V.str "Z", V.str "BQ", V.str "C", V.str "XYXYXYXY", V.str "D"]) = H1 at s1 a1 nD nSz nt0
    have s2 := upd_new (o := .dK []) nD
    have a2 : upd H1 D (.dK []) D = some (.dK []) := upd_same
    have nND : Nm ≠ D := ne_of_none a1 nD
    have nDH : H D = none := s1.free nD
    have a1 := s2 _ _ a1
    generalize upd H1 D (.dK []) = H2 at s2 a1 a2 nSz nt0
    have s3 := upd_new (o := .dK []) nSz
    have a3 : upd H2 Sz (.dK []) Sz = some (.dK []) := upd_same
    have nDS : D ≠ Sz := ne_of_none a2 nSz
    have nNS : Nm ≠ Sz := ne_of_none a1 nSz
    have a1 := s3 _ _ a1
    have a2 := s3 _ _ a2
    generalize upd H2 Sz (.dK []) = H3 at s3 a1 a2 a3 nt0
    have s4 := upd_new (o := .tup [V.ref Nm, V.ref D, V.ref Sz]) nt0
    have a1 := s4 _ _ a1
    have a2 := s4 _ _ a2
    have a3 := s4 _ _ a3
    generalize upd H3 t0 (.tup [V.ref Nm, V.ref D, V.ref Sz]) = H4 at s4 a1 a2 a3
    have s04 : Same H H4 := s1.trans (s2.trans (s3.trans s4))
    have P4 : PenAt H4 p l ns k lf := ⟨s04 _ _ hP.dc, s04 _ _ hP.ls⟩
    have npD : p ≠ D := ne_of_none hP.dc nDH
    have el : ls.length = ls.cps.size := rfl
    refine ⟨V.ref p, rfl, V.str ls, rfl, 3, rfl, ls, rfl, by omega, V.str ls, rfl, 3, rfl, -3, rfl, ls, rfl, by omega, (by show 2 ≤ sizeLine; decide), fun c nc => ?_⟩
    have s5 := upd_new (o := .lst [V.str (cutS ls none (some 3)), V.str (cutS ls (some (-3)) none)]) nc
    have hc5 : upd H4 c (.lst [V.str (cutS ls none (some 3)), V.str (cutS ls (some (-3)) none)]) c = some (.lst [V.str (cutS ls none (some 3)), V.str (cutS ls (some (-3)) none)]) := upd_same
    generalize upd H4 c (.lst [V.str (cutS ls none (some 3)), V.str (cutS ls (some (-3)) none)]) = H5 at s5 hc5
    have P5 : PenAt H5 p l ns k lf := ⟨s5 _ _ P4.dc, s5 _ _ P4.ls⟩
    refine ⟨p, l, .ref c, ns, k, lf, _, rfl, P5, hn, hk0, by omega, hf, .inl ⟨c, rfl, hc5⟩, (by show 0 < 2; decide), (by show 2 ≤ 1000; decide), fun H6 k6 lf6 y e1 e2 e3 hy s6 P6 => ?_⟩
    obtain ⟨so, rfl, hso⟩ : ∃ so : Str, y = .str so ∧ so.cps.toList.Sublist ls.cps.toList := by
      rcases List.mem_cons.mp hy with rfl | hy
      · exact ⟨_, rfl, cutS_sub _ _ _⟩
      · obtain rfl := List.mem_singleton.mp hy
        exact ⟨_, rfl, cutS_sub _ _ _⟩
    refine ⟨V.ref p, rfl, p, l, ns, k6, lf6, 5, rfl, P6, hn, e2, by omega, e3, by decide, by decide, fun H7 k7 lf7 d7 f1 f2 f3 f4 f5 s7 P7 => ⟨rfl, V.str so, V.bl (decide (V.int d7 = V.int 0)), rfl, ?_⟩⟩
    generalize decide (V.int d7 = V.int 0) = full
    refine ⟨V.ref p, rfl, p, l, ns, k7, lf7, 7, rfl, P7, hn, f2, by omega, f3, by decide, by decide, fun H8 k8 lf8 d8 g1 g2 g3 g4 g5 s8 P8 => ?_⟩
    have s48 : SameBut p H4 H8 := (SameBut.of s5).trans (s6.trans (s7.trans s8))
    have nNp : Nm ≠ p := fun z => by
      have e := s1.free nD
      rw [z] at a1
      have q := s04 _ _ hP.dc
      rw [a1] at q
      cases q
    have nSp : Sz ≠ p := fun z => by
      have q := (s1.trans s2) _ _ hP.dc
      rw [← z, nSz] at q
      cases q
    have c1 := s48 _ _ nNp a1
    have c2 := s48 _ _ (Ne.symm npD) a2
    have c3 := s48 _ _ nSp a3
    have soz : so.cps.toList.length ≤ 26 := Nat.le_trans hso.length_le (by rw [Array.length_toList]; exact hL.hi)
    have sol : so.cps.toList.length = so.cps.size := Array.length_toList
    have hGood0 : GoodR ls.cps.toList (fun _ => (⟨false, false, []⟩ : RuleD)) := ⟨fun i p hp => absurd hp (by simp), fun i => by simp, fun i p hp => absurd hp (by simp)⟩
    refine ⟨_, _, rfl, rfl, _, rfl, by omega, by omega, for_it walk_range (fun m σ G => ∃ (x7 x8 x9 x10 : Option V) (k1 lf1 : Int) (R : RuleT) (kvs ks : List (Key × V)) (A : List Addr), σ = [some (.ref p), some (.str ls), some (.ref Nm), some (.ref D), some (.ref Sz), some (.str so), some (.bl full), x7, x8, x9, x10] ∧ ToldI p l Nm D Sz ns ls.cps.toList k8 H m k1 lf1 R kvs ks A G)
      ⟨none, none, none, none, k8, lf8, fun _ => ⟨false, false, []⟩, [], [], [D], rfl, P8, g2, by omega, g3, (SameBut.of s04).trans s48, c1, ⟨c2, by simp, rfl, by simp, fun i => by simp, fun i hi => absurd hi (by omega), fun i hi => absurd hi (by omega), fun b hb => ⟨.dK [], by rw [List.mem_singleton.mp hb]; exact c2, fun _ z => nomatch z⟩⟩, hGood0, c3, rfl, fun i hi => absurd hi (by omega), fun b hb => by rw [List.mem_singleton.mp hb]; exact nDH, by simp [nND], by simp [Ne.symm nDS]⟩ (fun _ _ _ _ _ => trivial) ?_ ?_⟩
    · rintro i x σ G1 G2 hi ⟨x7, x8, x9, x10, k1, lf1, R, kvs, ks, A, rfl, I⟩ ⟨rfl, rfl⟩
      have hi7 : i < 7 := by omega
      intro Pd nPd
      have s3' := upd_new (o := .dK []) nPd
      have d1 : upd G2 Pd (.dK []) Pd = some (.dK []) := upd_same
      have npP : Pd ≠ p := fun z => by rw [z, I.pen.dc] at nPd; cases nPd
      have nlP : Pd ≠ l := fun z => by rw [z, I.pen.ls] at nPd; cases nPd
      have pA : p ∉ A := fun z => by
        have e := I.fresh p z
        rw [hP.dc] at e
        cases e
      have PA_ : Pd ∉ A := fun z => by
        obtain ⟨o, e, _⟩ := I.own.lv Pd z
        rw [nPd] at e
        cases e
      have nPN : Nm ≠ Pd := ne_of_none I.nm nPd
      have nPS : Sz ≠ Pd := ne_of_none I.zd nPd
      have nPD : D ≠ Pd := ne_of_none I.own.dc nPd
      have nPdH : H Pd = none := by
        cases e : H Pd with
        | none => rfl
        | some o =>
          rw [I.fr _ _ npP e] at nPd
          cases nPd
      have P3 : PenAt (upd G2 Pd (.dK [])) p l ns k1 lf1 := ⟨s3' _ _ I.pen.dc, s3' _ _ I.pen.ls⟩
      have hk1 := I.k1
      have hk0' := I.k0
      have hlf := I.lf0
      generalize upd G2 Pd (.dK []) = G3 at s3' d1 P3
      refine ⟨V.ref p, rfl, V.str so, rfl, p, l, so, ns, k1, lf1, _, rfl, rfl, P3, hn, hk0', by omega, hlf, by rw [List.length_map]; omega, fun G4 k4 lf4 b ys h1 h2 h3 hperm s4' P4 hb nb => ?_⟩
      rw [List.length_map] at h1
      obtain ⟨cs, hcs, rfl⟩ := perm_of_map hperm rfl
      have ndc : cs.Nodup := hcs.nodup_iff.mpr (hso.nodup hL.nd)
      have csl : cs.length ≤ 26 := by rw [hcs.length_eq]; exact soz
      have csm : ∀ c ∈ cs, c ∈ ls.cps.toList := fun c hc => hso.subset (hcs.mem_iff.mp hc)
      have nbP : b ≠ Pd := fun z => by rw [z, d1] at nb; cases nb
      have nbp : b ≠ p := ne_of hb P4.dc (by intro z; cases z)
      have hb7 : i < 7 := hi7
      have encl : ∀ (l2 : List (Nat × Nat)), (l2.map Prod.fst).Nodup → (∀ x ∈ l2, x.1 ∈ cs) → (encL l2).length < sizeLine := fun l2 nd2 h2 => by
        unfold encL
        rw [List.length_map]
        have z := sub_len nd2 ndc fun x hx => by
          obtain ⟨q, hq, rfl⟩ := List.mem_map.mp hx
          exact h2 q hq
        rw [List.length_map] at z
        omega
      refine ⟨b, rfl, ⟨_, .inl (.inl hb)⟩, for_it (walk_list (K := K) (xs := cs.map fun c => V.str (sg c))) (fun q σ G => ∃ (x9 : Option V) (k5 lf5 : Int) (l2 : List (Nat × Nat)), σ = [some (.ref p), some (.str ls), some (.ref Nm), some (.ref D), some (.ref Sz), some (.str so), some (.bl full), some (.int (0 + (i : Nat))), some (.ref Pd), x9, x10] ∧ PartI p l Pd ns i cs k4 G4 q k5 lf5 l2 G)
        ⟨x9, k4, lf4, [], rfl, P4, h2, by omega, h3, s4' _ _ npP d1, by simp, fun x hx => absurd hx (by simp), fun b o _ _ e => e⟩ (fun q σ G _ z => ?_) ?_ ?_⟩
      · obtain ⟨_, _, _, _, _, I2⟩ := z
        exact .inl (.inl (I2.fr _ _ nbp nbP hb))
      · rintro q y σ G G' hq ⟨y9, k5, lf5, l2, rfl, I2⟩ ⟨rfl, hy⟩
        obtain ⟨c, hc, rfl⟩ := map_at hy
        rw [List.length_map] at hq
        have j0 := I2.k0
        have j1 := I2.k1
        have j2 := I2.lf0
        have hNmG : G' Nm = some (.lst (nm7.map V.str)) := I2.fr _ _ nNp nPN (s4' _ _ nNp (s3' _ _ I.nm))
        have hz := encl l2 I2.nd fun x hx => (List.take_sublist _ _).subset (I2.ks x hx).1
        refine ⟨V.int (0 + (i : Nat)), rfl, _, _, rfl, rfl, _, rfl, ?_⟩
        by_cases hi0 : 0 < i
        · have ci : decide ((0 : Int) < 0 + ((i : Nat) : Int)) = true := decide_eq_true (by omega)
          rw [ci]
          refine iteT ⟨V.bl full, rfl, full, rfl, ?_⟩
          cases full with
          | true =>
            refine iteT ⟨V.ref Nm, rfl, V.int (0 + (i : Nat)), rfl, _, _, rfl, rfl, V.bl true, rfl, true, rfl, iteF ⟨_, _, rfl, rfl, Nm, _, _, _, rfl, rfl, .inl (.inl hNmG), at_of (j := i - 1) (by omega) (nmL_at (by omega)), V.ref Pd, rfl, V.str (sg c), rfl, Pd, _, rfl, DPut.k (k := .inr (sg c)) I2.dc hz, _, _, _, _, rfl, I2.put npP hc ndc (by omega) (.of (Same.refl _)) I2.pen j0 (by omega) j2 nlP⟩⟩
          | false =>
            refine iteF ⟨V.ref p, rfl, p, l, ns, k5, lf5, 3, rfl, I2.pen, hn, j0, by omega, j2, by decide, by decide, fun G6 k6 lf6 d6 m1 m2 m3 m4 m5 s6' P6 => ⟨_, _, rfl, rfl, _, rfl, ?_⟩⟩
            by_cases hd6 : 0 < d6
            · rw [decide_eq_true hd6]
              refine iteT ⟨V.ref Nm, rfl, V.int (0 + (i : Nat)), rfl, _, _, rfl, rfl, V.bl false, rfl, false, rfl, iteT ⟨V.ref p, rfl, V.int (0 + (i : Nat)), rfl, _, _, rfl, p, l, ns, k6, lf6, _, rfl, P6, hn, m2, by omega, m3, ?_, ?_, fun G7 k7' lf7' d7' w1 w2 w3 w4 w5 s7' P7 => ?_⟩⟩
              · split <;> omega
              · split <;> omega
              · have hlt : d7' < i := by
                  split at w5 <;> omega
                obtain ⟨jj, hjj⟩ : ∃ jj : Nat, d7' = (jj : Int) := ⟨d7'.toNat, (Int.toNat_of_nonneg w4).symm⟩
                have s67 := s6'.trans s7'
                exact ⟨_, _, rfl, rfl, Nm, _, _, _, rfl, rfl, .inl (.inl (s67 _ _ nNp hNmG)), at_of (j := i - 1 - jj) (by omega) (nmL_at (by omega)), V.ref Pd, rfl, V.str (sg c), rfl, Pd, _, rfl, DPut.k (k := .inr (sg c)) (s67 _ _ npP I2.dc) hz, _, _, _, _, rfl, I2.put npP hc ndc (by omega) s67 P7 w2 (by omega) w3 nlP⟩
            · rw [decide_eq_false hd6]
              exact iteF ⟨_, _, _, _, rfl, I2.skip npP s6' P6 m2 (by omega) m3⟩
        · have ci : decide ((0 : Int) < 0 + ((i : Nat) : Int)) = false := decide_eq_false (by omega)
          rw [ci]
          exact iteF ⟨_, _, _, _, rfl, I2.skip npP (.of (Same.refl _)) I2.pen j0 (by omega) j2⟩
      · rintro σ G5 ⟨y9, k5, lf5, l2, rfl, I2⟩
        have ecl : (cs.map fun c => V.str (sg c)).length = cs.length := List.length_map _
        rw [ecl] at I2
        have hkeys : ∀ x ∈ l2, x.2 < i ∧ x.1 ∈ ls.cps.toList := fun x hx => ⟨(I2.ks x hx).2, csm _ ((List.take_sublist _ _).subset (I2.ks x hx).1)⟩
        have hz := encl l2 I2.nd fun x hx => (List.take_sublist _ _).subset (I2.ks x hx).1
        have l2l : l2.length < 5000 := by
          have z := sub_len I2.nd ndc fun x hx => by
            obtain ⟨q, hq, rfl⟩ := List.mem_map.mp hx
            exact (List.take_sublist _ _).subset (I2.ks q hq).1
          rw [List.length_map] at z
          omega
        have j0 := I2.k0
        have j1 := I2.k1
        have j2 := I2.lf0
        refine ⟨V.ref p, rfl, p, l, ns, k5, lf5, 2, rfl, I2.pen, hn, j0, by omega, j2, by decide, by decide, fun G6 k6 lf6 d6 m1 m2 m3 m4 m5 s6' P6 => ⟨rfl, V.ref p, rfl, p, l, ns, k6, lf6, 3, rfl, P6, hn, m2, by omega, m3, by decide, by decide, fun G7 k7' lf7' d7' w1 w2 w3 w4 w5 s7' P7 => ⟨rfl, V.ref Pd, rfl, (by show 3 ≤ sizeLine; decide), fun t nt => ?_⟩⟩⟩
        generalize decide (V.int d6 = V.int 0) = mk
        generalize decide (V.int d7' = V.int 0) = fl
        have s67 := s6'.trans s7'
        -- what stands before is there
        have fr7 : ∀ b o, b ≠ p → b ≠ Pd → G2 b = some o → G7 b = some o := fun b o n1 n2 e => s67 _ _ n1 (I2.fr _ _ n1 n2 (s4' _ _ n1 (s3' _ _ e)))
        have hPd7 : G7 Pd = some (.dK (encL l2)) := s67 _ _ npP I2.dc
        have own7 : OwnR G7 nmL R i (List.range i) D kvs A := I.own.keep fun b hb o e _ => fr7 b o (fun z => pA (z ▸ hb)) (fun z => PA_ (z ▸ hb)) e
        have s8' := upd_new (o := .tup [V.bl mk, V.bl fl, V.ref Pd]) nt
        have ht8 : upd G7 t (.tup [V.bl mk, V.bl fl, V.ref Pd]) t = some (.tup [V.bl mk, V.bl fl, V.ref Pd]) := upd_same
        have ntD : t ≠ D := fun z => by rw [z, own7.dc] at nt; cases nt
        have ntp : t ≠ p := fun z => by rw [z, P7.dc] at nt; cases nt
        have ntH : H t = none := by
          cases e : H t with
          | none => rfl
          | some o =>
            have z := fr7 t o ntp (fun z => by rw [z, hPd7] at nt; cases nt) (I.fr _ _ ntp e)
            rw [nt] at z
            cases z
        have tA : t ∉ A := fun z => by
          obtain ⟨o, e, _⟩ := own7.lv t z
          rw [nt] at e
          cases e
        have hNm7 := fr7 _ _ nNp nPN I.nm
        have hSz7 := fr7 _ _ nSp nPS I.zd
        have ntN : t ≠ Nm := fun z => by rw [z, hNm7] at nt; cases nt
        have ntS : t ≠ Sz := fun z => by rw [z, hSz7] at nt; cases nt
        generalize hG8 : upd G7 t (.tup [V.bl mk, V.bl fl, V.ref Pd]) = G8 at s8' ht8
        have hnew : ∀ j ∈ List.range i, nmL j ≠ nmL i := fun j hj e => by
          have hj := List.mem_range.mp hj
          have z := nmL_inj j (by omega) i hi7 e
          omega
        obtain ⟨r1, r2⟩ := keys_snoc (x := .ref t) own7.ks hnew
        obtain ⟨r3, r4⟩ := keys_snoc (x := .int (sz (Rset R i ⟨mk, fl, l2⟩) i : Nat)) I.szk hnew
        have klen : kvs.length ≤ 7 := by
          have z := congrArg List.length own7.ks
          rw [List.length_map, List.length_map, List.length_range] at z
          omega
        have slen : ks.length ≤ 7 := by
          have z := congrArg List.length I.szk
          rw [List.length_map, List.length_map, List.length_range] at z
          omega
        refine ⟨V.ref D, rfl, V.ref Nm, rfl, V.int (0 + (i : Nat)), rfl, Nm, _, _, _, rfl, rfl, .inl (.inl (s8' _ _ hNm7)), at_of (j := i) (by omega) (nmL_at hi7), D, _, rfl, DPut.k (k := .inr (nmL i)) (s8' _ _ own7.dc) (by omega), ?_⟩
        have f9 : ∀ b o, b ≠ D → G7 b = some o → upd G8 D (.dK (putK kvs (.inr (nmL i)) (.ref t))) b = some o := fun b o n1 e => by
          rw [upd_ne n1]
          exact s8' _ _ e
        have hD9 : upd G8 D (.dK (putK kvs (.inr (nmL i)) (.ref t))) D = some (.dK (putK kvs (.inr (nmL i)) (.ref t))) := upd_same
        have ht9 : upd G8 D (.dK (putK kvs (.inr (nmL i)) (.ref t))) t = some (.tup [V.bl mk, V.bl fl, V.ref Pd]) := by
          rw [upd_ne ntD]
          exact ht8
        generalize upd G8 D (.dK (putK kvs (.inr (nmL i)) (.ref t))) = G9 at f9 hD9 ht9
        have hPd9 := f9 _ _ (Ne.symm nPD) hPd7
        have hSz9 := f9 _ _ (Ne.symm nDS) hSz7
        have hNm9 := f9 _ _ nND hNm7
        have g' : GoodR ls.cps.toList (Rset R i ⟨mk, fl, l2⟩) := Rset_good I.good hkeys I2.nd
        refine ⟨Pd, .dK (encL l2), hPd9, trivial, fun od => ⟨V.ref Pd, rfl, Pd, od, rfl, .inl ⟨_, upd_same, fun Dn nDn => lcF_keys (ws := l2) (fun x => sg x.1) nDn upd_same (by unfold encL; rw [List.map_map]; rfl) (fun x => V.int (sz R x.2 : Nat)) (fun _ => true) (by omega) (fun q x G hq sG A' B kA kB => ?_) fun G sG hDn => ?_⟩⟩⟩
        · have hx := List.mem_of_getElem? hq
          have dg : valV (encL l2) (.inr (sg x.1)) = some (.str (nmL x.2)) := by
            unfold encL
            rw [encP_val, (lookup_iff I2.nd).mpr (show (x.1, x.2) ∈ l2 from hx)]
            rfl
          have dgs := DGet.k (k := (.inr (nmL x.2) : Key)) (sG _ _ (by rw [upd_ne nPS]; exact hSz9))
          rw [I.szv x.2 (hkeys x hx).1] at dgs
          exact ⟨rfl, V.ref Sz, rfl, V.ref Pd, rfl, V.str (sg x.1), rfl, Pd, _, rfl, .inl ⟨_, .inr (sg x.1), .inr ⟨od, sG _ _ upd_same⟩, rfl, dg.symm⟩, Sz, _, rfl, dgs, kA rfl⟩
        rw [filt_all] at hDn
        have s10 : Same G9 (upd G Pd (.dK (encL l2))) := unlock_same hPd9 sG
        have nDP : Dn ≠ Pd := fun z => by rw [z, upd_same] at nDn; cases nDn
        have es : (1 : Int) + (l2.map fun x => ((sz R x.2 : Nat) : Int)).sum = ((sz (Rset R i ⟨mk, fl, l2⟩) i : Nat) : Int) := by
          rw [cast_sum, sz_eq g', Rset_at]
          have e : l2.map (fun x => sz (Rset R i ⟨mk, fl, l2⟩) x.2) = l2.map fun x => sz R x.2 := List.map_congr_left fun x hx => sz_set I.good g' (hkeys x hx).1
          rw [e]
          omega
        have hSz10 := s10 _ _ hSz9
        refine ⟨sG _ _ upd_same, Dn, l2.map fun x => ((sz R x.2 : Nat) : Int), rfl, .inl (.inl (by rw [upd_ne nDP, hDn, List.map_map]; rfl)), _, _, rfl, rfl, ?_⟩
        dsimp only
        rw [es]
        refine ⟨V.ref Sz, rfl, V.ref Nm, rfl, V.int (0 + (i : Nat)), rfl, Nm, _, _, _, rfl, rfl, .inl (.inl (s10 _ _ hNm9)), at_of (j := i) (by omega) (nmL_at hi7), Sz, _, rfl, DPut.k (k := .inr (nmL i)) hSz10 (by omega), ?_⟩
        generalize upd G Pd (.dK (encL l2)) = G10 at s10 hSz10
        have fin : ∀ b o, b ≠ D → b ≠ Sz → G7 b = some o → upd G10 Sz (.dK (putK ks (.inr (nmL i)) (.int (sz (Rset R i ⟨mk, fl, l2⟩) i : Nat)))) b = some o := fun b o n1 n2 e => by
          rw [upd_ne n2]
          exact s10 _ _ (f9 b o n1 e)
        have hll : H l = some (.lst (ns.map V.int)) := hP.ls
        have nlD : l ≠ D := ne_of_none hll nDH
        have nlS : l ≠ Sz := fun z => by
          have q := (s1.trans s2) _ _ hll
          rw [z, nSz] at q
          cases q
        have eR : ∀ m, m < i → Rset R i ⟨mk, fl, l2⟩ m = R m := fun m hm => Rset_ne R _ (by omega)
        refine ⟨_, _, _, _, k7', lf7', Rset R i ⟨mk, fl, l2⟩, putK kvs (.inr (nmL i)) (.ref t), putK ks (.inr (nmL i)) (.int (sz (Rset R i ⟨mk, fl, l2⟩) i : Nat)), t :: Pd :: A, rfl, ?_⟩
        have ecast : ((i + 1 : Nat) : Int) = (i : Int) + 1 := by omega
        refine { pen := ⟨fin _ _ npD (Ne.symm nSp) P7.dc, fin _ _ nlD nlS P7.ls⟩, k0 := w2, k1 := by rw [ecast]; omega, lf0 := w3, fr := fun b o n1 e => ?_, nm := fin _ _ nND nNS hNm7, own := ?_, good := g', zd := upd_same, szk := ?_, szv := fun m hm => ?_, fresh := fun b hb => ?_, nN := ?_, nS := ?_ }
        · have e1 : b ≠ D := ne_of_none e nDH
          have e2 : b ≠ Sz := fun z => by
            have q := (s1.trans s2) _ _ e
            rw [z, nSz] at q
            cases q
          exact fin b o e1 e2 (fr7 b o n1 (ne_of_none e nPdH) (I.fr b o n1 e))
        · refine ⟨?_, by simp [I.own.oa], ?_, List.nodup_range, fun m => List.mem_range, fun a ha c hc e => nmL_inj a (by omega) c (by omega) e, fun m hm => ?_, fun b hb => ?_⟩
          · rw [upd_ne nDS]
            exact s10 _ _ hD9
          · rw [List.range_succ]
            exact r2
          · by_cases e : m = i
            · subst e
              refine ⟨t, Pd, ?_, ?_, ?_, by simp, by simp, Ne.symm nPD⟩
              · rw [valV_put, if_pos rfl]
              · rw [Rset_at, upd_ne ntS]
                exact s10 _ _ ht9
              · rw [Rset_at, upd_ne (Ne.symm nPS)]
                exact s10 _ _ hPd9
            · have hm' : m < i := by omega
              obtain ⟨t', d', q1, q2, q3, q4, q5, q6⟩ := own7.vs m hm'
              have u1 : t' ≠ D := ne_of q2 own7.dc (by intro z; cases z)
              have u2 : t' ≠ Sz := fun z => I.nS (z ▸ q4)
              have u3 : d' ≠ Sz := fun z => I.nS (z ▸ q5)
              refine ⟨t', d', ?_, ?_, ?_, by simp [q4], by simp [q5], q6⟩
              · rw [valV_put, if_neg (fun z => hnew m (List.mem_range.mpr hm') (by injection z))]
                exact q1
              · rw [eR m hm']
                exact fin _ _ u1 u2 q2
              · rw [eR m hm']
                exact fin _ _ q6 u3 q3
          · rcases List.mem_cons.mp hb with rfl | hb
            · exact ⟨.tup [V.bl mk, V.bl fl, V.ref Pd], by rw [upd_ne ntS]; exact s10 _ _ ht9, fun _ z => nomatch z⟩
            · rcases List.mem_cons.mp hb with rfl | hb
              · exact ⟨.dK (encL l2), by rw [upd_ne (Ne.symm nPS)]; exact s10 _ _ hPd9, fun _ z => nomatch z⟩
              · by_cases c : b = D
                · exact ⟨.dK (putK kvs (.inr (nmL i)) (.ref t)), by rw [c, upd_ne nDS]; exact s10 _ _ hD9, fun _ z => nomatch z⟩
                · obtain ⟨o, e1, e2⟩ := own7.lv b hb
                  exact ⟨o, fin _ _ c (fun z => I.nS (z ▸ hb)) e1, e2⟩
        · rw [List.range_succ]
          exact r4
        · rw [valV_put]
          by_cases e : m = i
          · subst e
            rw [if_pos rfl]
          · have hm' : m < i := by omega
            rw [if_neg (fun z => hnew m (List.mem_range.mpr hm') (by injection z)), I.szv m hm', sz_set I.good g' hm']
        · rcases List.mem_cons.mp hb with rfl | hb
          · exact ntH
          · rcases List.mem_cons.mp hb with rfl | hb
            · exact nPdH
            · exact I.fresh b hb
        · simp only [List.mem_cons, not_or]
          exact ⟨Ne.symm ntN, nPN, I.nN⟩
        · simp only [List.mem_cons, not_or]
          exact ⟨Ne.symm ntS, nPS, I.nS⟩
    · rintro σ G ⟨x7, x8, x9, x10, k1, lf1, R, kvs, ks, A, rfl, I⟩
      have en : ((1 : Int) + d8).toNat ≤ 7 ∧ 1 ≤ ((1 : Int) + d8).toNat := by omega
      generalize ((1 : Int) + d8).toNat = n at I en
      have hk1 := I.k1
      have olen : kvs.length = n := by
        have z := congrArg List.length I.own.ks
        rwa [List.length_map, List.length_map, List.length_range] at z
      refine ⟨V.ref D, rfl, D, .dK kvs, I.own.dc, trivial, fun od => ⟨V.ref D, rfl, D, od, rfl, .inl ⟨_, upd_same, fun Dn nDn => lcF_keys (ws := List.range n) nmL nDn upd_same I.own.ks (fun i => V.str (nmL i)) (fun i => decide (sz R i ≤ 150)) (by rw [List.length_range]; omega) (fun q i G' hq sG A' B kA kB => ?_) fun G' sG hDn => ?_⟩⟩⟩
      · have hin := List.mem_range.mp (List.mem_of_getElem? hq)
        have dgs := DGet.k (k := (.inr (nmL i) : Key)) (sG _ _ (by rw [upd_ne (Ne.symm nDS)]; exact I.zd))
        rw [I.szv i hin] at dgs
        refine ⟨rfl, V.ref Sz, rfl, V.str (nmL i), rfl, Sz, _, rfl, dgs, _, _, rfl, rfl, _, rfl, ?_⟩
        by_cases c : sz R i ≤ 150
        · have c2 : decide (((sz R i : Nat) : Int) ≤ 150) = true := decide_eq_true (by omega)
          rw [c2]
          exact ⟨V.str (nmL i), rfl, kA (decide_eq_true c)⟩
        · have c2 : decide (((sz R i : Nat) : Int) ≤ 150) = false := decide_eq_false (by omega)
          rw [c2]
          exact kB (decide_eq_false c)
      · have nDD : Dn ≠ D := fun z => by rw [z, upd_same] at nDn; cases nDn
        have s2' : Same G (upd G' D (.dK kvs)) := unlock_same I.own.dc sG
        have nDnG : G Dn = none := by
          rw [upd_ne nDD] at nDn
          exact nDn
        refine ⟨sG _ _ upd_same, (by show 2 ≤ sizeLine; decide), fun t nt => ?_⟩
        have s3' := s2'.trans (upd_new (o := .tup [V.ref D, V.ref Dn]) nt)
        have nDp : Dn ≠ p := fun z => by rw [z, I.pen.dc] at nDnG; cases nDnG
        refine kk _ k1 lf1 t D Dn R n kvs A (by omega) I.k0 I.lf0 (I.fr.trans (.of s3')) ⟨s3' _ _ I.pen.dc, s3' _ _ I.pen.ls⟩ upd_same en.2 en.1 I.good (I.own.keep (.of s3')) I.fresh ?_ (upd_new nt _ _ ?_)
        · cases e : H Dn with
          | none => rfl
          | some o =>
            have z := I.fr _ _ nDp e
            rw [nDnG] at z
            cases z
        · rw [upd_ne nDD]
          exact hDn
end
end SK
namespace SK
open PySem PySem.Spec PyProof.Rows L2 LamX NdefX
open K0 (De DeAll XCl spX withX)
/-! ### the law unfolds rules -/
theorem rem_ge {al : List Nat} {R : RuleT} (g : GoodR al R) : ∀ st : List (List Nat × Nat), st.length ≤ (rem R st).length
  | [] => Nat.zero_le _
  | q :: st => by
    have ih := rem_ge g st
    have e : rem R (q :: st) = extP q.1 (pl R q.2) ++ rem R st := List.flatMap_cons ..
    rw [e, List.length_append, List.length_cons]
    have : 1 ≤ (extP q.1 (pl R q.2)).length := by
      unfold extP
      rw [List.length_map, pl_eq g]
      simp
    omega
/-- what was found: a place and its row -/
def FoundAt (H : Hp) (R : RuleT) (kv : List (Key × V)) (vis : List (List Nat × Nat)) : Prop := kv.map Prod.fst = vis.map (fun q => (Sum.inr (toS q.1) : Key)) ∧ ∀ q ∈ vis, ∃ t, valV kv (.inr (toS q.1)) = some (.ref t) ∧ H t = some (.tup [.str (toS q.1), .bl (R q.2).mark, .bl (R q.2).flag])
theorem FoundAt.mono {H H' : Hp} {R : RuleT} {kv : List (Key × V)} {vis : List (List Nat × Nat)} (f : FoundAt H R kv vis) (m : TupS H H') : FoundAt H' R kv vis := ⟨f.1, fun q hq => by
  obtain ⟨t, h1, h2⟩ := f.2 q hq
  exact ⟨t, h1, m _ _ h2⟩⟩
theorem FoundAt.put {H : Hp} {R : RuleT} {kv : List (Key × V)} {vis : List (List Nat × Nat)} {w : List Nat} {i : Nat} {t : Addr} (f : FoundAt H R kv vis) (hn : ∀ q ∈ vis, q.1 ≠ w) (ht : H t = some (.tup [.str (toS w), .bl (R i).mark, .bl (R i).flag])) : FoundAt H R (putK kv (.inr (toS w)) (.ref t)) (vis ++ [(w, i)]) := by
  have none_ : valV kv (.inr (toS w)) = none := by
    cases e : valV kv (.inr (toS w)) with
    | none => rfl
    | some u =>
      obtain ⟨x, hm, e1, _⟩ := valV_key e
      have m : x.1 ∈ kv.map Prod.fst := List.mem_map.mpr ⟨x, hm, rfl⟩
      rw [f.1] at m
      obtain ⟨q, hq, e2⟩ := List.mem_map.mp m
      rw [e1] at e2
      injection e2 with e2
      exact absurd (toS_inj e2) (hn q hq)
  refine ⟨?_, fun q hq => ?_⟩
  · rw [putK_new _ none_, List.map_append, List.map_append, f.1]
    rfl
  · rw [valV_put]
    rcases List.mem_append.mp hq with hq | hq
    · rw [if_neg (fun z => hn q hq (toS_inj (by injection z)))]
      exact f.2 q hq
    · obtain rfl : q = (w, i) := by simpa using hq
      rw [if_pos rfl]
      exact ⟨t, rfl, ht⟩
def spUnfL (K : PySem.W.Frag) : Sp := fun vs H Q _ => ∃ (D : Addr) (ls : Str) (nm : Nat → Str) (R : RuleT) (n root : Nat) (ord : List Nat) (kvs : List (Key × V)) (A : List Addr), vs = [.str ls, .ref D, .str (nm root)] ∧ Told ls nm R n root ∧ sz R root ≤ 2000 ∧ OwnR H nm R n ord D kvs A ∧
  ∀ (H' : Hp) (b : Addr) (xs : List V), Same H H' → H b = none → H' b = some (.lst xs) → DeAll K H' xs ((spots ls R root).map rowD) → Q (.ref b) H'
section
variable {P : Program} {w : World} {K : PySem.W.Frag} {mg : Str → Option Value} {base : Heap} {f fOr : Addr} {fd fdOr : FuncData}
theorem ok_unfL (F : Fun K "_law_unfolded" "_law_unfolded" (top 68) f fd) (gLs : mg "list" = none)
    (gOr : mg "_law_in_order" = some (.ref fOr)) (kOr : PySem.W.keepIn K (.ref fOr) = true) (GOr : FnOk P w K mg base CX0 1 fOr fdOr ["letters", "words"] (spOrdL K)) (bOr : Binds K fdOr ["letters", "words"] []) : FnOk P w K mg base CX0 2 f fd ["letters", "rules", "root"] (spUnfL K) := by
  have S0 : FnScope ["letters", "rules", "root", "found", "waiting", "place", "name", "mark", "flag", "parts", "letter"] ["letters", "rules", "root"] (defScope (top 68)) := ⟨rfl, rfl, rfl, by decide +kernel, rfl, by decide +kernel, by decide +kernel⟩
  have nd := S0.nd
  refine F.ok S0 (fun vs H Q E h => ?_) (fun cdv A0 outer s H vs Q E hr h => ?_)
  · obtain ⟨D, ls, nm, R, n, root, ord, kvs, A, rfl, _⟩ := h
    rfl
  · obtain ⟨D, ls, nm, R, n, root, ord, kvs, A, rfl, T, hz, own, kk⟩ := h
    have hu := hu_of hr
    have hu1 : _ < cLine := Nat.lt_of_le_of_lt (Nat.le_add_right _ 64) hr.units
    have b1 : (5000 : Nat) < sizeLine := by decide
    have hn1 := T.n1
    have hrt := T.rt
    refine ⟨_, (pss_cons (ps_asg (pe_tup (pa_cons pe_dnewK (pa_cons (pe_lst (pa_cons (pe_tup (pa_cons pe_str (pa_cons (pv 2) pa_nil))) pa_nil)) pa_nil))) (pg_tup rfl (pgs_cons (pg_name (i := 3) nd rfl (Or.inr rfl)) (pgs_cons (pg_name (i := 4) nd rfl (Or.inl rfl)) pgs_nil))))
        (pss_cons (ps_while PassesOwn.never (pt_cmpR (op_neE hu1) (pv 4) (pe_lst pa_nil) (nomark _)) (pss_cons (ps_asg (pe_bm0 PySem.F.plainAttrs_list PySem.F.slot_list_pop PySem.F.type_list_pop mt_pop (pv 4)) (pg_tup rfl (pgs_cons (pg_name (i := 5) nd rfl (Or.inr rfl)) (pgs_cons (pg_name (i := 6) nd rfl (Or.inl rfl)) pgs_nil))))
        (pss_cons (ps_asg (pe_dget hu (pv 1) (pv 6) (fun _ _ => rfl)) (pg_tup rfl (pgs_cons (pg_name (i := 7) nd rfl (Or.inl rfl)) (pgs_cons (pg_name (i := 8) nd rfl (Or.inl rfl)) (pgs_cons (pg_name (i := 9) nd rfl (Or.inr rfl)) pgs_nil)))))
        (pss_cons (ps_dput hu (pv 3) (pv 5) (pe_tup (pa_cons (pv 5) (pa_cons (pv 7) (pa_cons (pv 8) pa_nil)))) rfl)
        (pss_one (ps_set (i := 4) nd rfl (Or.inl rfl) (pe_op op_cat (pv 4) (pe_lock (pe_lc (own := [("letter", 10)]) (g := gName 10) (tt := tYes) rfl nd (pi_keys (pv 9)) (blkOk_by (N := ["letters", "rules", "root", "found", "waiting", "place", "name", "mark", "flag", "parts", "letter"]) (sc := defScope (top 68)) (by decide +kernel)) (fun _ _ _ _ _ => pg_name (i := 10) nd rfl (Or.inl rfl)) (fun _ _ _ _ _ => pts_nil) (fun _ _ _ _ _ => (pe_tup (pa_cons (pe_op op_add_str (pv 5) (pv 10)) (pa_cons (pe_dget hu (pv 9) (pv 10) (fun _ _ => rfl)) pa_nil)))))))))))))
        (pss_one (ps_ret (pe_lc (own := [("place", 5)]) (g := gName 5) (tt := tYes) rfl nd (pi_list (pe_call GOr hr (by rfl) gOr kOr bOr .nil pass0 (pa_cons (pv 0) (pa_cons (pe_callTy (call_list_dK rfl) (by rfl) gLs PyProof.Rows.boot_list (pa_cons (pv 3) pa_nil)) pa_nil)))) (blkOk_by (N := ["letters", "rules", "root", "found", "waiting", "place", "name", "mark", "flag", "parts", "letter"]) (sc := defScope (top 68)) (by decide +kernel)) (fun _ _ _ _ _ => pg_name (i := 5) nd rfl (Or.inl rfl)) (fun _ _ _ _ _ => pts_nil) (fun _ _ _ _ _ => (pe_dget hu (pv 3) (pv 5) (fun _ _ => rfl)))))))), ?_⟩
    intro Fd nFd
    refine ⟨V.str (nm root), rfl, (by show 2 ≤ sizeLine; decide), fun t0 nt0 => ⟨(by show 1 ≤ sizeLine; decide), fun sp nsp => ⟨(by show 2 ≤ sizeLine; decide), fun tt0 ntt0 => ⟨tt0, _, rfl, .inl (.inl upd_same), rfl, _, _, rfl, _, _, rfl, rfl, ?_⟩⟩⟩⟩
    have s1 := upd_new (o := .dK []) nFd
    have c1 : upd H Fd (.dK []) Fd = some (.dK []) := upd_same
    generalize upd H Fd (.dK []) = H1 at s1 c1 nt0 nsp ntt0
    have s2 := upd_new (o := .tup [V.str "", V.str (nm root)]) nt0
    have c2 : upd H1 t0 (.tup [V.str "", V.str (nm root)]) t0 = some (.tup [V.str "", V.str (nm root)]) := upd_same
    have c1 := s2 _ _ c1
    generalize upd H1 t0 (.tup [V.str "", V.str (nm root)]) = H2 at s2 c1 c2 nsp ntt0
    have s3 := upd_new (o := .lst [V.ref t0]) nsp
    have c3 : upd H2 sp (.lst [V.ref t0]) sp = some (.lst [V.ref t0]) := upd_same
    have c1 := s3 _ _ c1
    have c2 := s3 _ _ c2
    have nspH : H sp = none := (s1.trans s2).free nsp
    generalize upd H2 sp (.lst [V.ref t0]) = H3 at s3 c1 c2 c3 ntt0
    have s4 := upd_new (o := .tup [V.ref Fd, V.ref sp]) ntt0
    have c1 := s4 _ _ c1
    have c2 := s4 _ _ c2
    have c3 := s4 _ _ c3
    have s04 := s1.trans (s2.trans (s3.trans s4))
    generalize upd H3 tt0 (.tup [V.ref Fd, V.ref sp]) = H4 at s04 c1 c2 c3
    clear s1 s2 s3 s4 nt0 nsp ntt0
    refine ⟨fun m σ G1 => ∃ (x5 x6 x7 x8 x9 x10 : Option V) (sp : Addr) (vis st : List (List Nat × Nat)) (kv : List (Key × V)) (xs : List V), σ = [some (.str ls), some (.ref D), some (.str (nm root)), some (.ref Fd), some (.ref sp), x5, x6, x7, x8, x9, x10] ∧ m = (rem R st).length ∧ (vis ++ rem R st).Perm (pl R root) ∧ G1 Fd = some (.dK kv) ∧ FoundAt G1 R kv vis ∧ G1 sp = some (.lst xs) ∧ Paired (StR G1 nm) xs st ∧ Same H G1 ∧ H sp = none,
      ⟨_, none, none, none, none, none, none, sp, [], [([], root)], [], [.ref t0], rfl, rfl, rem_root T.g root, c1, ⟨rfl, fun q hq => absurd hq (by simp)⟩, c3, .cons ⟨t0, rfl, c2⟩ .nil, s04, nspH⟩, ?_⟩
    clear c1 c2 c3 s04 nspH
    rintro m σ G1 ⟨x5, x6, x7, x8, x9, x10, sp, vis, st, kv, xs, rfl, rfl, hp, h1, h2, h3, h4, s0, nsp⟩
    have pnd : ((vis ++ rem R st).map Prod.fst).Nodup := (hp.map Prod.fst).nodup_iff.mpr (pl_nodup T.g root)
    have plen : vis.length + (rem R st).length = sz R root := by
      have z := hp.length_eq
      rw [List.length_append] at z
      exact z
    have klen : kv.length = vis.length := by
      have z := congrArg List.length h2.1
      rwa [List.length_map, List.length_map] at z
    refine ⟨V.ref sp, rfl, Nat.zero_le _, fun e0 ne0 => ?_⟩
    have s1 := upd_new (o := .lst []) ne0
    have he1 : upd G1 e0 (.lst []) e0 = some (.lst []) := upd_same
    have h1 := s1 _ _ h1
    have h2 := h2.mono (TupS.of s1)
    have h3 := s1 _ _ h3
    have h4 := StR.mono (TupS.of s1) h4
    have s01 := s0.trans s1
    generalize upd G1 e0 (.lst []) = G2 at s1 he1 h1 h2 h3 h4 s01
    refine ⟨sp, e0, xs, rfl, rfl, .inl (.inl h3), .inl (.inl he1), _, rfl, ?_⟩
    rcases List.eq_nil_or_concat st with rfl | ⟨st', q, rfl⟩
    · cases h4
      have hvis : vis.Perm (pl R root) := by
        have z := hp
        rw [show rem R [] = [] from rfl, List.append_nil] at z
        exact z
      have ekv : (kv.map fun kv => kV kv.1) = (vis.map fun q => toS q.1).map V.str := by
        have z := congrArg (List.map kV) h2.1
        rw [List.map_map, List.map_map] at z
        rw [List.map_map]
        exact z
      have ewp : (vis.map fun q => toS q.1).Perm (plS R root) := hvis.map _
      have eso : sortW ls (vis.map fun q => toS q.1) = sortW ls (plS R root) := sortW_congr ewp fun y hy => plS_over T (ewp.mem_iff.mp hy)
      refine ⟨V.str ls, rfl, V.ref Fd, rfl, Fd, kv, rfl, h1, fun q nq => ⟨ls, q, vis.map fun q => toS q.1, rfl, .inl (.inl (by rw [← ekv]; exact upd_same)), fun y hy => plS_over T (ewp.mem_iff.mp hy), ?_, fun G3 p s3 np hp3 => ?_⟩⟩
      · rw [List.length_map]
        omega
      have s13 := (upd_new (o := .lst (kv.map fun kv => kV kv.1)) nq).trans s3
      rw [eso] at hp3
      have hFd3 := s13 _ _ h1
      have h23 := h2.mono (TupS.of s13)
      have s03 := s01.trans s13
      have srt_len : (sortW ls (plS R root)).length ≤ 2000 := by
        rw [(sortW_perm ls (plS R root)).length_eq]
        unfold plS
        rw [List.length_map]
        exact hz
      refine ⟨p, rfl, ⟨_, .inl (.inl hp3)⟩, fun Dn nD => lcF_list (K := K) (ws := sortW ls (plS R root)) V.str nD (fun p => (valV kv (.inr p)).getD .non) (fun _ => true) (.inl (.inl hp3)) (by omega) (fun j y G hy sG A' B kA kB => ?_) fun G sG hDn => ?_⟩
      · have hm := (sortW_perm ls (plS R root)).mem_iff.mp (List.mem_of_getElem? hy)
        have hm2 := ewp.mem_iff.mpr hm
        obtain ⟨q0, hq0, rfl⟩ := List.mem_map.mp hm2
        obtain ⟨t, e1, e2⟩ := h23.2 q0 hq0
        have dg := DGet.k (k := (.inr (toS q0.1) : Key)) (sG _ _ hFd3)
        have z := kA rfl
        rw [e1] at dg z
        exact ⟨rfl, V.ref Fd, rfl, V.str (toS q0.1), rfl, Fd, _, rfl, dg, z⟩
      · rw [filt_all] at hDn
        refine kk G Dn _ (s03.trans sG) (s03.free nD) hDn ?_
        have hG := h23.mono (TupS.of sG)
        have all : ∀ l : List Str, (∀ y ∈ l, y ∈ plS R root) → DeAll K G (l.map fun p => (valV kv (.inr p)).getD V.non) ((l.map (spotAt R root)).map rowD) := by
          intro l
          induction l with
          | nil => exact fun _ => .nil
          | cons y l ih =>
            intro hl
            refine .cons ?_ (ih fun u hu => hl u (List.mem_cons_of_mem _ hu))
            obtain ⟨q0, hq0, rfl⟩ := List.mem_map.mp (ewp.mem_iff.mpr (hl y (by simp)))
            obtain ⟨t, e1, e2⟩ := hG.2 q0 hq0
            have es : spotAt R root (toS q0.1) = spotOf R q0 := by
              unfold spotAt spotOf
              rw [toS_list, (mem_pl T.g).mp (show (q0.1, q0.2) ∈ pl R root from hvis.mem_iff.mp hq0)]
            show De K G ((valV kv (.inr (toS q0.1))).getD V.non) _
            rw [es, e1]
            exact .tup e2 (.cons (.str _) (.cons (.bl _) (.cons (.bl _) .nil)))
        exact all _ fun y hy => (sortW_perm ls (plS R root)).mem_iff.mp hy
    rw [List.concat_eq_append] at hp h4 pnd plen ⊢
    obtain ⟨w, i⟩ := q
    obtain ⟨ys, v, rfl, g1, ⟨t1, rfl, g2⟩⟩ := paired_last h4
    have hwk := rem_mem T.g hp
    have hin : i < n := wk_lt T hwk
    have hwl := (wk_len T.g hwk).1
    rw [rem_append, rem_one T.g, List.length_append, List.length_cons] at plen
    have hyl : ys.length = st'.length := g1.length
    have hrl := rem_ge T.g st'
    have hnv : ∀ q ∈ vis, q.1 ≠ w := fun q hq e => by
      rw [List.map_append, List.nodup_append] at pnd
      refine pnd.2.2 q.1 (List.mem_map.mpr ⟨q, hq, rfl⟩) w (List.mem_map.mpr ⟨(w, i), ?_, rfl⟩) e
      rw [rem_append, rem_one T.g]
      simp
    have hne : (!(ys ++ [V.ref t1]).isEmpty) = true := by simp
    rw [hne]
    refine ⟨_, fun σ' H' q => q, ?_⟩
    have eL : (ys ++ [V.ref t1])[(ys ++ [V.ref t1]).length - 1]? = some (.ref t1) := by simp
    have eD : (ys ++ [V.ref t1]).dropLast = ys := by simp
    have tu1 : TupS G2 (upd G2 sp (.lst ys)) := .upd h3
    refine ⟨V.ref sp, rfl, .inl ⟨rfl, _, .inl (.inl h3)⟩, sp, _, _, rfl, rfl, h3, eL, ?_⟩
    rw [eD]
    have nFs : Fd ≠ sp := ne_of h1 h3 (by intro z; cases z)
    have s03 : Same H (upd G2 sp (.lst ys)) := fun b o e => by
      rw [upd_ne (ne_of_none e nsp)]
      exact s01 _ _ e
    have hsp3 : upd G2 sp (.lst ys) sp = some (.lst ys) := upd_same
    have hFd3 : upd G2 sp (.lst ys) Fd = some (.dK kv) := by
      rw [upd_ne nFs]
      exact h1
    have hg3 := tu1 _ _ g2
    have hX3 := h2.mono tu1
    have hS3 := StR.mono tu1 g1
    generalize upd G2 sp (.lst ys) = G3 at s03 hsp3 hFd3 hg3 hX3 hS3
    have own3 := own.keep (Kp.of s03)
    obtain ⟨tt, d, q1, q2, q3, _, q5, _⟩ := own3.vs i hin
    have dgi := DGet.k (k := (.inr (nm i) : Key)) own3.dc
    rw [q1] at dgi
    have hpl := parts_few T.L T.g i
    refine ⟨t1, _, rfl, .inl (.inl hg3), rfl, _, _, rfl, _, _, rfl, rfl, V.ref D, rfl, V.str (nm i), rfl, D, _, rfl, dgi, tt, _, rfl, .inl (.inl q2), rfl, _, _, rfl, _, _, rfl, _, _, rfl, rfl, ?_⟩
    refine ⟨V.str (toS w), rfl, V.bl (R i).mark, rfl, V.bl (R i).flag, rfl, (by show 3 ≤ sizeLine; decide), fun t2 nt2 => ?_⟩
    have s4 := upd_new (o := .tup [V.str (toS w), V.bl (R i).mark, V.bl (R i).flag]) nt2
    have ht4 : upd G3 t2 (.tup [V.str (toS w), V.bl (R i).mark, V.bl (R i).flag]) t2 = some (.tup [V.str (toS w), V.bl (R i).mark, V.bl (R i).flag]) := upd_same
    generalize upd G3 t2 (.tup [V.str (toS w), V.bl (R i).mark, V.bl (R i).flag]) = G4 at s4 ht4
    have hFd4 := s4 _ _ hFd3
    refine ⟨V.ref Fd, rfl, V.str (toS w), rfl, Fd, _, rfl, DPut.k (k := .inr (toS w)) hFd4 (by omega), ?_⟩
    have tu5 : TupS G4 (upd G4 Fd (.dK (putK kv (.inr (toS w)) (.ref t2)))) := fun b xs e => by
      rw [upd_ne (ne_of e hFd4 (by intro z; cases z))]
      exact e
    have hFd5 : upd G4 Fd (.dK (putK kv (.inr (toS w)) (.ref t2))) Fd = some (.dK (putK kv (.inr (toS w)) (.ref t2))) := upd_same
    have hX5 := (hX3.mono ((TupS.of s4).trans tu5)).put (i := i) hnv (tu5 _ _ ht4)
    have hS5 := StR.mono ((TupS.of s4).trans tu5) hS3
    have s05 : Same H (upd G4 Fd (.dK (putK kv (.inr (toS w)) (.ref t2)))) := fun b o e => by
      rw [upd_ne (ne_of_none e nFd)]
      exact s4 _ _ (s03 _ _ e)
    have hsp5 : upd G4 Fd (.dK (putK kv (.inr (toS w)) (.ref t2))) sp = some (.lst ys) := by
      rw [upd_ne (Ne.symm nFs)]
      exact s4 _ _ hsp3
    have ndF : d ≠ Fd := fun z => by
      obtain ⟨o, e2, _⟩ := own.lv d q5
      rw [z, nFd] at e2
      cases e2
    have hd5 : upd G4 Fd (.dK (putK kv (.inr (toS w)) (.ref t2))) d = some (.dK (encP nm (R i))) := by
      rw [upd_ne ndF]
      exact s4 _ _ q3
    clear hX3 hS3 tu5 hFd4 s4 ht4 own3
    generalize upd G4 Fd (.dK (putK kv (.inr (toS w)) (.ref t2))) = G5 at hFd5 hX5 hS5 s05 hsp5 hd5
    refine ⟨V.ref sp, rfl, d, .dK (encP nm (R i)), hd5, trivial, fun od => ⟨V.ref d, rfl, d, od, rfl, .inl ⟨_, upd_same, fun Dn nD => lc_it (walk_keys (d := d) (o := od) (kvs := encP nm (R i))) (fun q G6 => Same (upd G5 d (.frz od (.dK (encP nm (R i))))) G6 ∧ ∃ acc, G6 Dn = some (.lst acc) ∧ Paired (StR G6 nm) acc (((R i).parts.take q).map fun p => (w ++ [p.1], p.2)))
      ⟨upd_new nD, [], upd_same, .nil⟩ (fun q G6 _ p => p.1 _ _ upd_same) ?_ ?_⟩⟩⟩
    · rintro q y G6 G7 hq ⟨s6, acc, hDn, hacc⟩ ⟨rfl, k, vv, hkv, rfl⟩
      obtain ⟨p, hpq, rfl, rfl⟩ := encP_at hkv
      have hm := List.mem_of_getElem? hpq
      have gv : valV (encP nm (R i)) (.inr (sg p.1)) = some (.str (nm p.2)) := by
        rw [encP_get, (lookup_iff (T.g.nd i)).mpr (show (p.1, p.2) ∈ _ from hm)]
        rfl
      have hal : acc.length ≤ 26 := by
        rw [hacc.length, List.length_map, List.length_take]
        omega
      refine ⟨rfl, V.str (toS w), rfl, V.str (sg p.1), rfl, _, _, rfl, rfl, ?_, V.ref d, rfl, V.str (sg p.1), rfl, d, .str (nm p.2), rfl, .inl ⟨_, .inr (sg p.1), .inr ⟨od, s6 _ _ upd_same⟩, rfl, gv.symm⟩, (by show 2 ≤ sizeLine; decide), fun t6 nt6 => ?_⟩
      · show w.toArray.size + 1 ≤ sizeLine
        rw [List.size_toArray]
        omega
      rw [toS_snoc]
      have s7 := upd_new (o := .tup [V.str (toS (w ++ [p.1])), V.str (nm p.2)]) nt6
      have ht7 : upd G7 t6 (.tup [V.str (toS (w ++ [p.1])), V.str (nm p.2)]) t6 = some (.tup [V.str (toS (w ++ [p.1])), V.str (nm p.2)]) := upd_same
      generalize upd G7 t6 (.tup [V.str (toS (w ++ [p.1])), V.str (nm p.2)]) = G8 at s7 ht7
      have hD8 := s7 _ _ hDn
      have tu : TupS G8 (upd G8 Dn (.lst (acc ++ [V.ref t6]))) := .upd hD8
      refine ⟨acc, hD8, by omega, fun b o e => ?_, acc ++ [V.ref t6], upd_same, ?_⟩
      · rw [upd_ne (ne_of_none e nD)]
        exact s7 _ _ (s6 _ _ e)
      · rw [take_snoc hpq, List.map_append]
        exact paired_app (StR.mono ((TupS.of s7).trans tu) hacc) (.cons ⟨t6, rfl, tu _ _ ht7⟩ .nil)
    rintro G6 ⟨s6, acc, hDn, hacc⟩
    have nDd : Dn ≠ d := fun z => by
      rw [z, upd_same] at nD
      cases nD
    have hel : (encP nm (R i)).length = (R i).parts.length := List.length_map _
    rw [hel, List.take_length] at hacc
    have s56 : Same G5 (upd G6 d (.dK (encP nm (R i)))) := unlock_same hd5 s6
    have tu6 : TupS G6 (upd G6 d (.dK (encP nm (R i)))) := fun b xs e => by
      rw [upd_ne (fun z => by rw [z, s6 _ _ upd_same] at e; cases e)]
      exact e
    have hacc7 := StR.mono tu6 hacc
    have hDn7 : upd G6 d (.dK (encP nm (R i))) Dn = some (.lst acc) := by
      rw [upd_ne nDd]
      exact hDn
    refine ⟨s6 _ _ upd_same, ?_⟩
    generalize upd G6 d (.dK (encP nm (R i))) = G7 at s56 hacc7 hDn7
    have hal : acc.length ≤ 26 := by
      rw [hacc.length, List.length_map]
      omega
    refine ⟨sp, Dn, ys, acc, rfl, rfl, s56 _ _ hsp5, hDn7, by omega, fun sp2 nsp2 => ?_⟩
    have s8 := upd_new (o := .lst (ys ++ acc)) nsp2
    have s08 := s05.trans (s56.trans s8)
    refine ⟨(rem R (st' ++ kidsOf R w i)).length, ?_, _, _, _, _, _, _, sp2, vis ++ [(w, i)], st' ++ kidsOf R w i, _, ys ++ acc, rfl, rfl, rem_step T.g hp, s8 _ _ (s56 _ _ hFd5), hX5.mono (TupS.of (s56.trans s8)), upd_same, ?_, s08, (s05.trans s56).free nsp2⟩
    · rw [rem_append, rem_append, rem_one T.g, List.length_append, List.length_append, List.length_cons]
      omega
    · exact paired_app (StR.mono (TupS.of (s56.trans s8)) hS5) (StR.mono (TupS.of s8) hacc7)
end
end SK
namespace SK
open PySem PySem.Spec PyProof.Rows L2 LamX NdefX
open K0 (De DeAll XCl spX withX)
/-! ### kept words in order -/
theorem add_lt {k : Nat} : ∀ {a b : List Nat}, (a.map (k + ·) < b.map (k + ·)) ↔ a < b
  | [], [] => by simp
  | [], b :: bs => by simp
  | a :: as, [] => by simp
  | a :: as, b :: bs => by
    rw [List.map_cons, List.map_cons, List.cons_lt_cons_iff, List.cons_lt_cons_iff, add_lt]
    constructor
    · rintro (h | ⟨h, h2⟩)
      · exact .inl (by omega)
      · exact .inr ⟨by omega, h2⟩
    · rintro (h | ⟨h, h2⟩)
      · exact .inl (by omega)
      · exact .inr ⟨by omega, h2⟩
def kyW (ls y : Str) : List Nat := rk ls.cps.toList y.cps.toList
theorem kyW_eq (ls y : Str) : (keyW ls y).cps.toList = (kyW ls y).map (97 + ·) := by
  unfold keyW kyW rk rankOf
  rw [List.toList_toArray, List.map_map]
  rfl
theorem kyW_le (ls x y : Str) : (keyW ls x).cps.toList ≤ (keyW ls y).cps.toList ↔ kyW ls x ≤ kyW ls y := by
  rw [kyW_eq, kyW_eq]
  constructor
  · intro h z
    exact h (add_lt.mpr z)
  · intro h z
    exact h (add_lt.mp z)
theorem kyW_inj {ls x y : Str} (hx : OverL ls x) (hy : OverL ls y) (h : kyW ls x = kyW ls y) : x = y := keyW_inj hx hy (by rw [kyW_eq, kyW_eq, h])
theorem sort_kyW (ls : Str) (ws : List Str) : (sortW ls ws).Pairwise fun a b => kyW ls a ≤ kyW ls b := (sortW_pw ls ws).imp fun h => (kyW_le ls _ _).mp h
def marksQ (R : RuleT) (r : Nat) : List Str := ((pl R r).filter fun q => (R q.2).mark).map fun q => toS q.1
/-- the kept words, in order -/
def keptW (ls : Str) (R : RuleT) (r : Nat) : List Str := ((spots ls R r).filter fun s => s.2.1).map fun s => s.1
section
variable {ls : Str} {nm : Nat → Str} {R : RuleT} {n root : Nat}
theorem spotAt_mark (R : RuleT) (r : Nat) (p : Str) : (spotAt R r p).2.1 = true ↔ ∃ j, wk R r p.cps.toList = some j ∧ (R j).mark = true := by
  unfold spotAt
  cases e : wk R r p.cps.toList with
  | none => simp
  | some j => simp
theorem kept_mem (T : Told ls nm R n root) {p : Str} : p ∈ keptW ls R root ↔ ∃ j, wk R root p.cps.toList = some j ∧ (R j).mark = true := by
  unfold keptW spots
  constructor
  · intro h
    obtain ⟨s, hs, rfl⟩ := List.mem_map.mp h
    obtain ⟨h1, h2⟩ := List.mem_filter.mp hs
    obtain ⟨p, _, rfl⟩ := List.mem_map.mp h1
    have z := (spotAt_mark R root p).mp h2
    rwa [← spotAt_fst R root p] at z
  · rintro ⟨j, h1, h2⟩
    refine List.mem_map.mpr ⟨spotAt R root p, List.mem_filter.mpr ⟨List.mem_map.mpr ⟨p, (sortW_perm ls _).mem_iff.mpr ((plS_mem T.g).mpr (by rw [h1]; rfl)), rfl⟩, (spotAt_mark R root p).mpr ⟨j, h1, h2⟩⟩, spotAt_fst R root p⟩
theorem kept_perm (T : Told ls nm R n root) : (keptW ls R root).Perm (marksQ R root) := by
  have p := ((spots_perm T.g ls root).filter (fun s : Spot => s.2.1)).map fun s : Spot => s.1
  refine p.trans (.of_eq ?_)
  unfold marksQ
  rw [List.filter_map, List.map_map]
  rfl
theorem kept_len (T : Told ls nm R n root) : (keptW ls R root).length = mn R root := by
  rw [(kept_perm T).length_eq]
  unfold marksQ mn
  rw [List.length_map, List.countP_eq_length_filter]
theorem kept_over (T : Told ls nm R n root) {p : Str} (h : p ∈ keptW ls R root) : OverL ls p := by
  obtain ⟨j, h1, _⟩ := (kept_mem T).mp h
  exact plS_over T ((plS_mem T.g).mpr (by rw [h1]; rfl))
theorem kept_sub (ls : Str) (R : RuleT) (r : Nat) : (keptW ls R r).Sublist (sortW ls (plS R r)) := by
  have z : (keptW ls R r).Sublist ((spots ls R r).map fun s => s.1) := List.Sublist.map _ List.filter_sublist
  have e : ((spots ls R r).map fun s => s.1) = sortW ls (plS R r) := plc_spots ls R r
  rwa [e] at z
theorem kept_pw (ls : Str) (R : RuleT) (r : Nat) : (keptW ls R r).Pairwise fun a b => kyW ls a ≤ kyW ls b := (sort_kyW ls _).sublist (kept_sub ls R r)
theorem kept_cnt (T : Told ls nm R n root) (y : Str) : (keptW ls R root).countP (fun x => decide (kyW ls x < kyW ls y)) = cnt ls.cps.toList R root y.cps.toList := by
  rw [(kept_perm T).countP_eq]
  unfold marksQ cnt
  rw [List.countP_map, List.countP_filter]
  refine List.countP_congr fun q _ => ?_
  show ((decide (rk ls.cps.toList (toS q.1).cps.toList < _) && (R q.2).mark) = true) ↔ _
  rw [toS_list, Bool.and_comm]
  rfl
theorem kept_rank (T : Told ls nm R n root) {y : Str} (h : y ∈ keptW ls R root) : (keptW ls R root)[cnt ls.cps.toList R root y.cps.toList]? = some y := by
  have z := sorted_idx (kyW ls) (kept_pw ls R root) (fun a ha e => kyW_inj (kept_over T ha) (kept_over T h) e) h
  rw [kept_cnt T] at z
  rw [← z]
  have q := List.idxOf_lt_length_of_mem h
  rw [List.getElem?_eq_getElem q, List.getElem_idxOf q]
/-- words put in order beside the kept ones -/
theorem order_idx (T : Told ls nm R n root) {y : Str} (o : OverL ls y) : (sortW ls (keptW ls R root ++ [y])).idxOf y = cnt ls.cps.toList R root y.cps.toList := by
  have pm := sortW_perm ls (keptW ls R root ++ [y])
  have z := sorted_idx (kyW ls) (w := y) (sort_kyW ls (keptW ls R root ++ [y])) (fun a ha e => by
    rcases List.mem_append.mp (pm.mem_iff.mp ha) with h | h
    · exact kyW_inj (kept_over T h) o e
    · simpa using h) (pm.mem_iff.mpr (by simp))
  rw [z, pm.countP_eq, List.countP_append, kept_cnt T, List.countP_singleton]
  have q : ¬ kyW ls y < kyW ls y := List.lt_irrefl _
  simp [q]
theorem kept_beg (T : Told ls nm R n root) {y : Str} (o : OverL ls y) : ((keptW ls R root).filter fun x => decide (x.cps.toList.take y.cps.size = y.cps.toList)).length = beg R root y.cps.toList := by
  rw [← List.countP_eq_length_filter, (kept_perm T).countP_eq]
  unfold marksQ
  rw [List.countP_map, List.countP_filter, ← beg_count T.L.nd T.g o.2]
  refine List.countP_congr fun q _ => ?_
  show ((decide ((toS q.1).cps.toList.take _ = _) && (R q.2).mark) = true) ↔ _
  rw [toS_list, Bool.and_comm, Array.length_toList]
theorem places_mem (T : Told ls nm R n root) {p : Str} : p ∈ plc (spots ls R root) ↔ (wk R root p.cps.toList).isSome = true := by
  rw [plc_spots, (sortW_perm ls _).mem_iff]
  exact plS_mem T.g
theorem spot_wk (T : Told ls nm R n root) {s : Spot} (h : s ∈ spots ls R root) : ∃ j, wk R root s.1.cps.toList = some j ∧ s.2.1 = (R j).mark ∧ s.2.2 = (R j).flag := by
  unfold spots at h
  obtain ⟨p, hp, rfl⟩ := List.mem_map.mp h
  have z := (plS_mem T.g).mp ((sortW_perm ls _).mem_iff.mp hp)
  rw [spotAt_fst]
  cases e : wk R root p.cps.toList with
  | none =>
    rw [e] at z
    cases z
  | some j =>
    refine ⟨j, rfl, ?_, ?_⟩
    · unfold spotAt
      rw [e]
    · unfold spotAt
      rw [e]
theorem bel_eq (T : Told ls nm R n root) {p : Str} {j : Nat} (h : wk R root p.cps.toList = some j) : (ls.cps.toList.filter fun c => decide ((p ++ (⟨#[c]⟩ : Str)) ∈ plc (spots ls R root))) = ls.cps.toList.filter fun c => ((R j).parts.lookup c).isSome := by
  refine List.filter_congr fun c _ => ?_
  have e : wk R root (p ++ (⟨#[c]⟩ : Str)).cps.toList = (R j).parts.lookup c := by
    have z : (p ++ (⟨#[c]⟩ : Str)).cps.toList = p.cps.toList ++ [c] := by
      show (p.cps ++ #[c]).toList = _
      simp
    rw [z]
    exact wk_snoc h
  cases q : ((R j).parts.lookup c).isSome with
  | true =>
    rw [decide_eq_true_eq]
    exact (places_mem T).mpr (by rw [e]; exact q)
  | false =>
    rw [decide_eq_false_iff_not]
    intro m
    have z := (places_mem T).mp m
    rw [e, q] at z
    cases z
theorem spots_over (T : Told ls nm R n root) {s : Spot} (h : s ∈ spots ls R root) : OverL ls s.1 := by
  have m : s.1 ∈ plc (spots ls R root) := List.mem_map.mpr ⟨s, h, rfl⟩
  rw [plc_spots] at m
  exact plS_over T ((sortW_perm ls _).mem_iff.mp m)
end
end SK
namespace SK
open PySem PySem.Spec PyProof.Rows L2 LamX NdefX
open K0 (De DeAll XCl spX withX)
/-! ### whether a grove tells its rows -/
theorem fls {b : Bool} (h : b = true) {A B : Prop} (k : B) : if (!b) = true then A else B := by
  rw [h]
  exact iteF k
theorem eqv_self {d : PyData} (h : SeqAt.shaped d = true) : PyData.eqv d d = true := SeqAt.eqv_refl d (SeqAt.canLay_of_shaped h)
theorem zip_both {S : List Spot} {xs : List V} (h : xs.length = S.length) : (S.zip xs).map (fun p => p.2) = xs ∧ (S.zip xs).map (fun p => p.1) = S := ⟨List.map_snd_zip (by omega), List.map_fst_zip (by omega)⟩
theorem zip_pos {K : PySem.W.Frag} {H : Hp} {S : List Spot} {xs : List V} {i : Nat} {p : Spot × V} (h : DeAll K H xs (S.map rowD)) (hp : (S.zip xs)[i]? = some p) : S[i]? = some p.1 ∧ xs[i]? = some p.2 ∧ ∃ t, p.2 = .ref t ∧ H t = some (.tup [.str p.1.1, .bl p.1.2.1, .bl p.1.2.2]) := by
  have hxl : xs.length = S.length := by
    have z := deAll_len h
    rwa [List.length_map] at z
  obtain ⟨e2, e1⟩ := zip_both hxl
  have hv : xs[i]? = some p.2 := by
    have z := congrArg (fun l : List V => l[i]?) e2
    simp only [List.getElem?_map, hp, Option.map_some] at z
    exact z.symm
  have hs : S[i]? = some p.1 := by
    have z := congrArg (fun l : List Spot => l[i]?) e1
    simp only [List.getElem?_map, hp, Option.map_some] at z
    exact z.symm
  obtain ⟨d, hd, hde⟩ := deAll_at h hv
  rw [List.getElem?_map, hs] at hd
  obtain rfl := Option.some.inj hd
  exact ⟨hs, hv, de_row (s := p.1) hde⟩
theorem row_fit {s : Spot} (h : PyData.strOk s.1 = true) : SeqAt.shaped (rowD s) = true := by
  unfold SeqAt.shaped rowD
  rw [Bool.and_eq_true, decide_eq_true_eq]
  refine ⟨by simp [PyData.canLay0, PyData.canLayAll0, h], ?_⟩
  simp [PyData.depth, PyData.depthAll]
theorem ok_str {ls y : Str} (h : OkL ls) (o : OverL ls y) : PyData.strOk y = true := by
  unfold PyData.strOk
  rw [← Array.all_toList, List.all_eq_true]
  intro c hc
  have z := h.al c (o.2 c hc)
  exact decide_eq_true (by omega)
theorem cut_to (xs : List V) (n : Nat) : cutV xs none (some (n : Int)) = xs.take n := by
  unfold cutV
  rw [HT.sIx_none, HT.sIx_nat, List.drop_zero, Nat.sub_zero, ← List.take_take, List.take_length]
theorem flat_txt (ws : List Str) : (ws.map V.str).all flatV = true := by
  rw [List.all_map, List.all_eq_true]
  exact fun _ _ => rfl
theorem in_txt (x : Str) (ws : List Str) : inV (.str x) (ws.map V.str) = decide (x ∈ ws) := by
  unfold inV
  rw [List.any_map]
  induction ws with
  | nil => simp
  | cons w r ih =>
    rw [List.any_cons, ih]
    have e : ((fun y => eqV y (V.str x)) ∘ V.str) w = decide (w = x) := by
      show (w == x) = _
      by_cases h : w = x
      · rw [decide_eq_true h, h]
        exact beq_self_eq_true x
      · rw [decide_eq_false h]
        exact beq_false_of_ne h
    rw [e]
    by_cases h : w = x
    · subst h
      simp
    · have h2 : ¬ x = w := fun z => h z.symm
      simp [h, h2]
theorem tree_ins {K : PySem.W.Frag} {CT : Addr} {G : Hp} {y : V} {l2 : Str} {S2 : List Spot} (h : TreeF K CT G y l2 S2) : Ins CT G y := by
  obtain ⟨a', dx', _, _, _, fs', _, _, _, _, e, T'⟩ := h
  exact ⟨a', dx', fs', e, T'.ins⟩
def spReadG (K : PySem.W.Frag) (CG CT : Addr) (T0 : List (Addr × Str)) : Sp := fun vs H Q _ => ∃ (x : V) (ls : Str) (nm : Nat → Str) (R : RuleT) (n root : Nat) (A : List Addr) (b : Addr) (xs : List V), vs = [x, .str ls, .ref b] ∧ GroveF K CG H x ls nm R n root A ∧ Told ls nm R n root ∧ sz R root ≤ 2000 ∧ H b = some (.lst xs) ∧ DeAll K H xs ((spots ls R root).map rowD) ∧ Tabs T0 H ∧
  ∀ H', ExtN H H' → Tabs T0 H' → Q (.bl true) H'
section
variable {P : Program} {w : World} {K : PySem.W.Frag} {mg : Str → Option Value} {base : Heap} {f fUn fWo fRw fBe fHs fI fEq CG CT CN : Addr} {fd fdUn fdWo fdRw fdBe fdHs fdI fdEq : FuncData} {C : Cs} {T0 : List (Addr × Str)}
theorem ok_readG (F : Fun K "_law_is_read" "_law_is_read" (top 69) f fd) (R0 : GroveK K CG) (R : TreeK K CT) (gN : mg "len" = none) (gE : mg "enumerate" = none)
    (gT : mg "Tree" = some (.ref CT)) (M : Mk K CT fI) (GI : FnOk P w K mg base (L2.CX P w) 6 fI fdI ["self", "letters", "rows"] (spInit K CT C T0)) (bI : Binds K fdI ["self", "letters", "rows"] [])
    (ME : Has K CT "__eq__" fEq) (GEq : FnOk P w K mg base (L2.CX P w) 1 fEq fdEq ["self", "other"] (spEqT K CT)) (bEq : Binds K fdEq ["self", "other"] [])
    (MUn : Meth K CG "unfolded" fUn) (GUn : FnOk P w K mg base CX0 8 fUn fdUn ["self"] (spUnf K CG CT T0)) (bUn : Binds K fdUn ["self"] [])
    (MWo : Meth K CG "word_of" fWo) (GWo : FnOk P w K mg base CX0 2 fWo fdWo ["self", "rank"] (spWordOf K CG)) (bWo : Binds K fdWo ["self", "rank"] [])
    (MRw : Meth K CG "row" fRw) (GRw : FnOk P w K mg base (L2.CX P w) 4 fRw fdRw ["self", "place"] (spRowG K CG CN)) (bRw : Binds K fdRw ["self", "place"] [])
    (MBe : Meth K CG "below" fBe) (GBe : FnOk P w K mg base (L2.CX P w) 4 fBe fdBe ["self", "place"] (spBelG K CG CN)) (bBe : Binds K fdBe ["self", "place"] [])
    (MHs : Meth K CG "has" fHs) (GHs : FnOk P w K mg base CX0 2 fHs fdHs ["self", "place"] (spHasG K CG)) (bHs : Binds K fdHs ["self", "place"] []) : FnOk P w K mg base CX0 9 f fd ["grove", "letters", "rows"] (spReadG K CG CT T0) := by
  have S0 : FnScope ["grove", "letters", "rows", "row", "places", "kept", "rank", "word", "below", "letter"] ["grove", "letters", "rows"] (defScope (top 69)) := ⟨rfl, rfl, rfl, by decide +kernel, rfl, by decide +kernel, by decide +kernel⟩
  have nd := S0.nd
  refine F.ok S0 (fun vs H Q E h => ?_) (fun cdv A0 outer s H vs Q E hr h => ?_)
  · obtain ⟨x, ls, nm, R1, n, root, A, b, xs, rfl, _⟩ := h
    rfl
  · obtain ⟨x, ls, nm, R1, n, root, A, b, xs, rfl, hG, T, hz, hb, hda, hTab, kk⟩ := h
    obtain ⟨ord, a, dx, D, Sz, My, fs, kvs, ksz, kmy, rfl, G⟩ := id hG
    have hu64 := hr.units
    have hr2 : Room 2 _ := hr.mono (by decide)
    have hr4 : Room 4 _ := hr.mono (by decide)
    have hr7 : Room 7 _ := hr.mono (by decide)
    have b1 : (5000 : Nat) < sizeLine := by decide
    have ps0 : Passes (L2.CX P w) (cxOf CX0 P w K mg base ["grove", "letters", "rows", "row", "places", "kept", "rank", "word", "below", "letter"] "_law_is_read" (defScope (top 69)) f cdv A0 outer s H E).nox (fun _ _ _ => False) := passes_call LamX.takes0 (fun _ _ _ _ h => h)
    refine ⟨_, (pss_cons (ps_asg (pe_tup (pa_cons (pe_lc (own := [("row", 3)]) (g := gName 3) (tt := tYes) rfl nd (pi_list (pv 2)) (blkOk_by (N := ["grove", "letters", "rows", "row", "places", "kept", "rank", "word", "below", "letter"]) (sc := defScope (top 69)) (by decide +kernel)) (fun _ _ _ _ _ => pg_name (i := 3) nd rfl (Or.inl rfl)) (fun _ _ _ _ _ => pts_nil) (fun _ _ _ _ _ => (pe_ix (r := rIxT K) ix_tup (pv 3) pe_int (fun _ _ => rfl)))) (pa_cons (pe_lc (own := [("row", 3)]) (g := gName 3) rfl nd (pi_list (pv 2)) (blkOk_by (N := ["grove", "letters", "rows", "row", "places", "kept", "rank", "word", "below", "letter"]) (sc := defScope (top 69)) (by decide +kernel)) (fun _ _ _ _ _ => pg_name (i := 3) nd rfl (Or.inl rfl)) (fun _ _ _ _ _ => (pts_one (pt_val (pe_ix (r := rIxT K) ix_tup (pv 3) pe_int (fun _ _ => rfl))))) (fun _ _ _ _ _ => (pe_ix (r := rIxT K) ix_tup (pv 3) pe_int (fun _ _ => rfl)))) pa_nil))) (pg_tup rfl (pgs_cons (pg_name (i := 4) nd rfl (Or.inr rfl)) (pgs_cons (pg_name (i := 5) nd rfl (Or.inl rfl)) pgs_nil))))
        (pss_cons (ps_if (PW.pt (pw_or (pt_cmpR (op_neA hu64) (pe_tup (pa_cons (pe_fld (pv 0) rfl) (pa_cons (pe_fld (pv 0) rfl) pa_nil))) (pe_tup (pa_cons (pe_callB call_len_seq (by rfl) gN PySem.boot_len (pa_cons (pv 2) pa_nil)) (pa_cons (pe_callB call_len_seq (by rfl) gN PySem.boot_len (pa_cons (pv 5) pa_nil)) pa_nil))) (nomark _)) (pw_or1 (pt_cmpR (op_ownNe R.own R.ne R.oo ME GEq hr2 bEq ps0) (pe_meth0 (pv 0) R0.cl MUn GUn hr bUn .nil pass0) (pe_make M GI hr7 (by rfl) gT bI .nil ps0 (pa_cons (pv 1) (pa_cons (pv 2) pa_nil))) (nomark _))))) (pss_one (ps_ret pe_bl)) pss_nil)
        (pss_cons (ps_for PassesOwn.never rfl (pi_enum (by rfl) gE (pa_cons (pv 5) pa_nil)) (pg_tup rfl (pgs_cons (pg_name (i := 6) nd rfl (Or.inl rfl)) (pgs_cons (pg_name (i := 7) nd rfl (Or.inl rfl)) pgs_nil))) (pss_one (ps_if (pt_cmpR op_ne (pe_meth (pv 0) R0.cl MWo GWo hr2 bWo .nil pass0 (pa_cons (pv 6) pa_nil)) (pv 7) (nomark _)) (pss_one (ps_ret pe_bl)) pss_nil)))
        (pss_cons (ps_for PassesOwn.never rfl (pi_list (pe_slice sl_list (pv 2) po_none (po_some pe_int))) (pg_name (i := 3) nd rfl (Or.inr rfl)) (pss_cons (ps_set (i := 8) nd rfl (Or.inl rfl) (pe_bm PySem.F.plainAttrs_str PySem.F.slot_str_join PySem.F.type_str_join mt_join pe_str (pa_cons (pe_lc (own := [("letter", 9)]) (g := gName 9) rfl nd (pi_str (pv 1)) (blkOk_by (N := ["grove", "letters", "rows", "row", "places", "kept", "rank", "word", "below", "letter"]) (sc := defScope (top 69)) (by decide +kernel)) (fun _ _ _ _ _ => pg_name (i := 9) nd rfl (Or.inl rfl)) (fun _ _ _ _ _ => (pts_one (pt_cmpR (r := rIn K false) op_in_seq (pe_op op_add_str (pe_ix (r := rIxT K) ix_tup (pv 3) pe_int (fun _ _ => rfl)) (pv 9)) (pv 4) (by rfl)))) (fun _ _ _ _ _ => (pv 9))) pa_nil)))
        (pss_one (ps_if (PW.pt (pw_or (pt_cmpR (op_neD hu64) (pe_meth (pv 0) R0.cl MRw GRw hr4 bRw .nil ps0 (pa_cons (pe_ix (r := rIxT K) ix_tup (pv 3) pe_int (fun _ _ => rfl)) pa_nil)) (pv 3) (nomark _)) (pw_or (pt_cmpR op_ne (pe_meth (pv 0) R0.cl MBe GBe hr4 bBe .nil ps0 (pa_cons (pe_ix (r := rIxT K) ix_tup (pv 3) pe_int (fun _ _ => rfl)) pa_nil)) (pv 8) (nomark _)) (pw_or1 (pt_not (pt_val (pe_meth (pv 0) R0.cl MHs GHs hr2 bHs .nil pass0 (pa_cons (pe_ix (r := rIxT K) ix_tup (pv 3) pe_int (fun _ _ => rfl)) pa_nil)))))))) (pss_one (ps_ret pe_bl)) pss_nil))))
        (pss_one (ps_ret pe_bl)))))), ?_⟩
    have g := spots_good T hz
    have hSl := spots_len T.g ls root
    have hok : StrsOk (spots ls R1 root) := fun s hs => ok_str T.L (spots_over T hs)
    have hxl : xs.length = (spots ls R1 root).length := by
      have z := deAll_len hda
      rwa [List.length_map] at z
    obtain ⟨e2, e1⟩ := zip_both hxl
    refine ⟨V.ref b, rfl, b, rfl, ⟨_, .inl (.inl hb)⟩, fun P1 nP => lcF_list (K := K) (ws := (spots ls R1 root).zip xs) (fun p => p.2) nP (fun p => V.str p.1.1) (fun _ => true) (by rw [e2]; exact .inl (.inl hb)) (by rw [List.length_zip]; omega) (fun i p G hp sG A B kA kB => ?_) fun G1 s1 hP => ?_⟩
    · obtain ⟨s0, v⟩ := p
      obtain ⟨_, _, t, et, ht⟩ := zip_pos hda hp
      have et : v = .ref t := et
      subst et
      exact ⟨rfl, V.ref t, rfl, t, _, 0, .str s0.1, rfl, rfl, .inl (.inl (sG _ _ ht)), rfl, kA rfl⟩
    have eP : (((spots ls R1 root).zip xs).filter (fun _ => true)).map (fun p => V.str p.1.1) = (plc (spots ls R1 root)).map V.str := by
      rw [List.filter_eq_self.mpr (fun _ _ => rfl)]
      unfold plc
      rw [← e1, List.map_map, List.map_map, e1]
      rfl
    rw [eP] at hP
    refine ⟨V.ref b, rfl, b, rfl, ⟨_, .inl (.inl (s1 _ _ hb))⟩, fun K1 nK => lcF_list (K := K) (ws := (spots ls R1 root).zip xs) (fun p => p.2) nK (fun p => V.str p.1.1) (fun p => p.1.2.1) (by rw [e2]; exact .inl (.inl (s1 _ _ hb))) (by rw [List.length_zip]; omega) (fun i p G hp sG A B kA kB => ?_) fun G2 s2 hK => ?_⟩
    · obtain ⟨⟨y, mk, fl⟩, v⟩ := p
      obtain ⟨_, _, t, et, ht⟩ := zip_pos hda hp
      have et : v = .ref t := et
      subst et
      have ht7 := sG _ _ (s1 _ _ ht)
      refine ⟨rfl, V.ref t, rfl, t, _, 1, .bl mk, rfl, rfl, .inl (.inl ht7), rfl, mk, rfl, ?_⟩
      cases mk with
      | true => exact iteT ⟨V.ref t, rfl, t, _, 0, .str y, rfl, rfl, .inl (.inl ht7), rfl, kA rfl⟩
      | false => exact iteF (kB rfl)
    have eK : (((spots ls R1 root).zip xs).filter (fun p => p.1.2.1)).map (fun p => V.str p.1.1) = (keptW ls R1 root).map V.str := by
      unfold keptW
      conv => rhs; rw [← e1, List.filter_map, List.map_map, List.map_map]
      rfl
    rw [eK] at hK
    have hP2 := s2 _ _ hP
    have s12 := s1.trans s2
    refine ⟨(by show 2 ≤ sizeLine; decide), fun t0 nt0 => ⟨t0, _, rfl, .inl (.inl upd_same), rfl, _, _, rfl, _, _, rfl, rfl, ?_⟩⟩
    have s3 := s12.trans (upd_new (o := .tup [V.ref P1, V.ref K1]) nt0)
    have hP3 := upd_new (o := .tup [V.ref P1, V.ref K1]) nt0 _ _ hP2
    have hK3 := upd_new (o := .tup [V.ref P1, V.ref K1]) nt0 _ _ hK
    generalize upd G2 t0 (.tup [V.ref P1, V.ref K1]) = G3 at s3 hP3 hK3
    have g3 := G.keep (Kp.of s3)
    refine ⟨V.ref a, rfl, a, CG, dx, _, _, rfl, g3.ins, R0.cl, R0.na _ (by simp [sev7]), G.f6, V.ref a, rfl, a, CG, dx, _, _, rfl, g3.ins, R0.cl, R0.na _ (by simp [sev7]), G.f7, (by show 2 ≤ sizeLine; decide), fun t1 nt1 => ?_⟩
    have s4 := s3.trans (upd_new (o := .tup [V.int (sz R1 root : Nat), V.int (mn R1 root : Nat)]) nt1)
    have hP4 := upd_new (o := .tup [V.int (sz R1 root : Nat), V.int (mn R1 root : Nat)]) nt1 _ _ hP3
    have hK4 := upd_new (o := .tup [V.int (sz R1 root : Nat), V.int (mn R1 root : Nat)]) nt1 _ _ hK3
    have ht4 : upd G3 t1 (.tup [V.int (sz R1 root : Nat), V.int (mn R1 root : Nat)]) t1 = some (.tup [V.int (sz R1 root : Nat), V.int (mn R1 root : Nat)]) := upd_same
    generalize upd G3 t1 (.tup [V.int (sz R1 root : Nat), V.int (mn R1 root : Nat)]) = G4 at s4 hP4 hK4 ht4
    refine ⟨V.ref b, rfl, b, xs, rfl, .inl (.inl (.inl (s4 _ _ hb))), V.ref K1, rfl, K1, _, rfl, .inl (.inl (.inl hK4)), (by show 2 ≤ sizeLine; decide), fun t2 nt2 => ?_⟩
    have ek : ((keptW ls R1 root).map V.str).length = mn R1 root := by rw [List.length_map, kept_len T]
    rw [ek, hxl, hSl]
    have s5 := s4.trans (upd_new (o := .tup [V.int (sz R1 root : Nat), V.int (mn R1 root : Nat)]) nt2)
    have hP5 := upd_new (o := .tup [V.int (sz R1 root : Nat), V.int (mn R1 root : Nat)]) nt2 _ _ hP4
    have hK5 := upd_new (o := .tup [V.int (sz R1 root : Nat), V.int (mn R1 root : Nat)]) nt2 _ _ hK4
    have ht5 := upd_new (o := .tup [V.int (sz R1 root : Nat), V.int (mn R1 root : Nat)]) nt2 _ _ ht4
    have hu5 : upd G4 t2 (.tup [V.int (sz R1 root : Nat), V.int (mn R1 root : Nat)]) t2 = some (.tup [V.int (sz R1 root : Nat), V.int (mn R1 root : Nat)]) := upd_same
    generalize upd G4 t2 (.tup [V.int (sz R1 root : Nat), V.int (mn R1 root : Nat)]) = G5 at s5 hP5 hK5 ht5 hu5
    refine ⟨0, by decide, .inl ⟨t1, t2, _, _, rfl, rfl, .inl (.inl ht5), .inl (.inl hu5), .cons ⟨rfl, rfl⟩ (.cons ⟨rfl, rfl⟩ .nil)⟩, false, rfl, iteF ?_⟩
    have g5 := G.keep (Kp.of s5)
    have T5 := hTab.ext s5
    refine ⟨V.ref a, rfl, a, dx, fs, rfl, g5.ins, G.no _ (by simp only [sev7]; decide), V.ref a, ls, nm, R1, n, root, A, rfl, hG.keep (Kp.of s5), T, hz, T5, fun G6 y1 x6 T6 hT1 => ⟨V.str ls, rfl, V.ref b, rfl, ?_⟩⟩
    have hb5 := s5 _ _ hb
    have hda5 := de_monoAll s5 _ _ hda
    refine mk_tree T.lb T.asc (.inl (x6 _ _ hb5 (fun _ z => nomatch z))) (de_extAll x6 hda5) g (rowsD_of (.refl _)) T6 fun G7 y2 x7 T7 hT2 => ?_
    have hT1' := hT1.kx g.root (Kx.ext x7)
    refine ⟨tree_ins hT1', tree_ins hT2, .ref y1, .ref y2, ls, spots ls R1 root, rfl, hT1', hok, .inl ⟨ls, _, hT2, hok, _, rfl, _, rfl, ?_⟩⟩
    rw [decide_eq_true (show ls = ls ∧ spots ls R1 root = spots ls R1 root from ⟨rfl, rfl⟩)]
    refine iteF ?_
    have x57 : ExtN G5 G7 := x6.trans x7
    have x07 : ExtN H G7 := (ExtN.of s5).trans x57
    have hb7 := x57 _ _ hb5 (fun _ z => nomatch z)
    have hda7 := de_extAll x57 hda5
    have hP7 := x57 _ _ hP5 (fun _ z => nomatch z)
    have hK7 := x57 _ _ hK5 (fun _ z => nomatch z)
    have g7 := G.keep (Kp.ext x07)
    have hG7 := hG.keep (Kp.ext x07)
    have hml : mn R1 root ≤ 2000 := by
      have z : mn R1 root ≤ sz R1 root := List.countP_le_length
      omega
    refine ⟨V.ref K1, rfl, K1, (keptW ls R1 root).map V.str, rfl, .inl (.inl hK7), for_it (walk_enum (K := K) (xs := (keptW ls R1 root).map V.str)) (fun i σ H1 => ∃ (x3 x6 x7 x8 x9 : Option V), σ = [some (.ref a), some (.str ls), some (.ref b), x3, some (.ref P1), some (.ref K1), x6, x7, x8, x9] ∧ Same G7 H1)
      ⟨_, _, _, _, _, rfl, Same.refl _⟩ (fun i σ H1 _ q => ?_) ?_ ?_⟩
    · obtain ⟨_, _, _, _, _, _, s1⟩ := q
      exact .inl (.inl (s1 _ _ hK7))
    · rintro i x σ H1 H2 hi ⟨x3, x6, x7, x8, x9, rfl, s1⟩ ⟨T1, x1, y1, rfl, nT1, rfl, ex, ey⟩
      obtain rfl : V.int (i : Nat) = x1 := Option.some.inj ex
      have s3 : Same H1 (upd H1 T1 (.tup [.int (i : Nat), y1])) := upd_new nT1
      refine ⟨T1, _, rfl, .inl (.inl upd_same), rfl, _, _, rfl, _, _, rfl, rfl, ?_⟩
      generalize upd H1 T1 (.tup [.int (i : Nat), y1]) = H2 at s3
      have s13 := s1.trans s3
      have g8 := g7.keep (Kp.of s13)
      have him : i < mn R1 root := by
        rw [List.length_map, kept_len T] at hi
        exact hi
      refine ⟨V.ref a, rfl, a, dx, fs, rfl, g8.ins, G.no _ (by simp only [sev7]; decide), V.int (i : Nat), rfl, V.ref a, i, ls, nm, R1, n, root, A, rfl, hG7.keep (Kp.of s13), T, him, fun H3 w j s4 w1 w2 w3 => ⟨y1, rfl, ?_⟩⟩
      have m : toS w ∈ keptW ls R1 root := (kept_mem T).mpr ⟨j, by rw [toS_list]; exact w1, w2⟩
      have z := kept_rank T m
      rw [toS_list, w3] at z
      have ey2 : ((keptW ls R1 root).map V.str)[i]? = some (.str (toS w)) := by
        rw [List.getElem?_map, z]
        rfl
      obtain rfl : V.str (toS w) = y1 := Option.some.inj (ey2.symm.trans ey)
      exact ⟨rfl, _, rfl, neT rfl ⟨_, _, _, _, _, rfl, s13.trans s4⟩⟩
    rintro σ H1 ⟨x3, x6, x7, x8, x9, rfl, s8⟩
    have hb8 := s8 _ _ hb7
    refine ⟨V.ref b, rfl, ((50 : Nat) : Int), rfl, b, xs, rfl, .inl (.inl hb8), fun q nq => ?_⟩
    rw [cut_to]
    have s9 := s8.trans (upd_new (o := .lst (xs.take 50)) nq)
    have hq9 : upd H1 q (.lst (xs.take 50)) q = some (.lst (xs.take 50)) := upd_same
    generalize upd H1 q (.lst (xs.take 50)) = G9 at s9 hq9
    refine ⟨q, rfl, ⟨_, .inl (.inl hq9)⟩, for_it (walk_list (K := K) (xs := xs.take 50)) (fun i σ G => ∃ (x3 x6 x7 x8 x9 : Option V), σ = [some (.ref a), some (.str ls), some (.ref b), x3, some (.ref P1), some (.ref K1), x6, x7, x8, x9] ∧ Same G9 G)
      ⟨_, _, _, _, _, rfl, Same.refl _⟩ (fun i σ G _ q => ?_) ?_ ?_⟩
    · obtain ⟨_, _, _, _, _, _, sG⟩ := q
      exact .inl (.inl (sG _ _ hq9))
    · rintro i v σ G1 G' hi ⟨x3, x6, x7, x8, x9, rfl, sG⟩ ⟨rfl, hv⟩
      have s4 := s9.trans sG
      have hv2 : xs[i]? = some v := by
        rw [List.getElem?_take] at hv
        split at hv
        · exact hv
        · cases hv
      have hil : i < xs.length := (List.getElem?_eq_some_iff.mp hv2).1
      obtain ⟨s0, hs0⟩ : ∃ s0, (spots ls R1 root)[i]? = some s0 := ⟨_, List.getElem?_eq_getElem (by omega)⟩
      have hm0 : s0 ∈ spots ls R1 root := List.mem_of_getElem? hs0
      obtain ⟨d, hd, hde⟩ := deAll_at hda7 hv2
      rw [List.getElem?_map, hs0] at hd
      obtain rfl := Option.some.inj hd
      obtain ⟨t, rfl, ht⟩ := de_row (s := s0) hde
      have ho := spots_over T hm0
      have hsz := ho.1
      have h26 := T.L.hi
      obtain ⟨j, wj, mj, fj⟩ := spot_wk T hm0
      refine ⟨rfl, V.str ls, rfl, ls, rfl, fun D3 nD3 => lcF_str nD3 (fun c => V.str (sg c)) (fun c => decide ((s0.1 ++ (⟨#[c]⟩ : Str)) ∈ plc (spots ls R1 root))) (by omega) (fun m c G2 hc sG2 A B kA kB => ?_) fun G2 sG2 hD3 => ?_⟩
      · have hb1 : s0.1.length + (⟨#[c]⟩ : Str).length ≤ sizeLine := by
          show s0.1.cps.size + 1 ≤ sizeLine
          omega
        have hP8 := sG2 _ _ (s4 _ _ hP7)
        refine ⟨rfl, V.ref t, rfl, t, _, 0, .str s0.1, rfl, rfl, .inl (.inl (sG2 _ _ (s4 _ _ ht))), rfl, V.str ⟨#[c]⟩, rfl, s0.1, ⟨#[c]⟩, rfl, rfl, hb1, V.ref P1, rfl, P1, _, rfl, .inl (.inl (.inl hP8)), rfl, flat_txt _, _, rfl, ?_⟩
        rw [in_txt]
        by_cases cm : (s0.1 ++ (⟨#[c]⟩ : Str)) ∈ plc (spots ls R1 root)
        · rw [decide_eq_true cm]
          exact iteT ⟨V.str (sg c), rfl, kA (decide_eq_true cm)⟩
        · rw [decide_eq_false cm]
          exact iteF (kB (decide_eq_false cm))
      rw [bel_eq T wj] at hD3
      have em : ((ls.cps.toList.filter fun c => ((R1 j).parts.lookup c).isSome).map fun c => V.str (sg c)) = ((ls.cps.toList.filter fun c => ((R1 j).parts.lookup c).isSome).map fun c => (⟨#[c]⟩ : Str)).map V.str := by
        rw [List.map_map]
        rfl
      rw [em] at hD3
      refine ⟨"", D3, _, rfl, rfl, .inl (.inl (.inl hD3)), ?_, ?_⟩
      · rw [sum_ones]
        have z := List.length_filter_le (fun c => ((R1 j).parts.lookup c).isSome) ls.cps.toList
        have z3 : ls.cps.toList.length = ls.cps.size := Array.length_toList
        have z2 : (Str.ofString "").length = 0 := by decide
        rw [z2, Nat.mul_zero, Nat.add_zero]
        omega
      rw [txt_join_chars]
      have s5 := s4.trans sG2
      have ht5 := s5 _ _ ht
      have g10 := g7.keep (Kp.of s5)
      have hG10 := hG7.keep (Kp.of s5)
      have shr := row_fit (s := s0) (hok s0 hm0)
      have hy1 : s0.1.cps.size ≤ 1000 := by omega
      refine ⟨V.ref a, rfl, a, dx, fs, rfl, g10.ins, G.no _ (by simp only [sev7]; decide), V.ref t, rfl, t, _, 0, .str s0.1, rfl, rfl, .inl (.inl ht5), rfl, V.ref a, s0.1, ls, nm, R1, n, root, A, rfl, hG10, T, hy1, fun j' wj' G11 t' s11 ht' => ?_, fun z => ?_⟩
      · rw [wj] at wj'
        obtain rfl := Option.some.inj wj'
        rw [← mj, ← fj] at ht'
        refine ⟨V.ref t, rfl, rowD s0, rowD s0, .tup (.inl (.inl ht')) (.cons (.str _) (.cons (.bl _) (.cons (.bl _) .nil))), .tup (.inl (.inl (s11 _ _ ht5))) (.cons (.str _) (.cons (.bl _) (.cons (.bl _) .nil))), shr, shr, _, rfl, fls (eqv_self shr) ?_⟩
        have s6 := s5.trans s11
        refine ⟨V.ref a, rfl, a, dx, fs, rfl, (g7.keep (Kp.of s6)).ins, G.no _ (by simp only [sev7]; decide), V.ref t, rfl, t, _, 0, .str s0.1, rfl, rfl, .inl (.inl (s11 _ _ ht5)), rfl, V.ref a, s0.1, ls, nm, R1, n, root, A, rfl, hG7.keep (Kp.of s6), T, hy1, fun j2 wj2 G12 s12 => ?_, fun z => ?_⟩
        · rw [wj] at wj2
          obtain rfl := Option.some.inj wj2
          refine ⟨_, rfl, rfl, _, rfl, neT rfl ?_⟩
          have s7 := s6.trans s12
          refine ⟨V.ref a, rfl, a, dx, fs, rfl, (g7.keep (Kp.of s7)).ins, G.no _ (by simp only [sev7]; decide), V.ref t, rfl, t, _, 0, .str s0.1, rfl, rfl, .inl (.inl (s12 _ _ (s11 _ _ ht5))), rfl, V.ref a, s0.1, ls, nm, R1, n, root, A, rfl, hG7.keep (Kp.of s7), T, hy1, fun G13 s13 => ⟨_, rfl, ?_⟩⟩
          rw [wj]
          exact iteF ⟨_, _, _, _, _, rfl, sG.trans (sG2.trans (s11.trans (s12.trans s13)))⟩
        · rw [wj] at z
          cases z
      · rw [wj] at z
        cases z
    rintro σ G10 ⟨x3, x6, x7, x8, x9, rfl, sG⟩
    have s10 := s9.trans sG
    exact kk _ (x07.trans (ExtN.of s10)) (T7.ext s10)
end
end SK
namespace SK
open PySem PySem.Spec PyProof.Rows L2 LamX NdefX
open K0 (De DeAll XCl spX withX)
/-! ### whether a grove places a word -/
def dueN (y : Str) : PyData := .tuple [.str "place", .str y]
theorem iteT' {b : Bool} (h : b = true) {A B : Prop} (k : A) : if b = true then A else B := by
  rw [h]
  exact iteT k
theorem iteF' {b : Bool} (h : b = false) {A B : Prop} (k : B) : if b = true then A else B := by
  rw [h]
  exact iteF k
theorem dueN_ok {y : Str} (h : PyData.strOk y = true) : SeqAt.shaped (dueN y) = true := by
  have e : PyData.strOk (Str.ofString "place") = true := by decide +kernel
  unfold SeqAt.shaped dueN
  rw [Bool.and_eq_true, decide_eq_true_eq]
  exact ⟨by simp [PyData.canLay0, PyData.canLayAll0, e, h], by simp [PyData.depth, PyData.depthAll]⟩
theorem dueN_dp {K : PySem.W.Frag} {G : Hp} {u : Addr} {y : Str} (hu : G u = some (.tup [.str "place", .str y])) : Dp K G (.ref u) (dueN y) := .tup (.inl (.inl hu)) (.cons (.str _) (.cons (.str _) .nil))
theorem idx_txt {ws : List Str} {y : Str} (h : y ∈ ws) : (ws.map V.str)[ws.idxOf y]? = some (.str y) ∧ ∀ (m : Nat) (z : V), m < ws.idxOf y → (ws.map V.str)[m]? = some z → eqV z (.str y) = false := by
  have q := List.idxOf_lt_length_of_mem h
  refine ⟨by rw [List.getElem?_map, List.getElem?_eq_getElem q, List.getElem_idxOf q]; rfl, fun m z hm hz => ?_⟩
  rw [List.getElem?_map, List.getElem?_eq_getElem (Nat.lt_trans hm q)] at hz
  obtain rfl := Option.some.inj hz
  have ne : ws[m]'(Nat.lt_trans hm q) ≠ y := fun e => by
    have z := List.not_of_lt_findIdx hm
    simp [e] at z
  show (ws[m]'(Nat.lt_trans hm q) == y) = false
  exact beq_false_of_ne ne
def spPlacedG (K : PySem.W.Frag) (CG : Addr) (T0 : List (Addr × Str)) : Sp := fun vs H Q _ => ∃ (x : V) (y ls : Str) (nm : Nat → Str) (R : RuleT) (n root : Nat) (A : List Addr) (b : Addr) (xs : List V), vs = [x, .str ls, .ref b, .str y] ∧ GroveF K CG H x ls nm R n root A ∧ Told ls nm R n root ∧ sz R root ≤ 2000 ∧ H b = some (.lst xs) ∧ DeAll K H xs ((spots ls R root).map rowD) ∧ OverL ls y ∧ Tabs T0 H ∧
  ∀ H', ExtN H H' → Tabs T0 H' → Q (.bl true) H'
section
variable {P : Program} {w : World} {K : PySem.W.Frag} {mg : Str → Option Value} {base : Heap} {f c Pt fOr fRk fBg fRw fBe fHs fM CG CN : Addr} {fd fdOr fdRk fdBg fdRw fdBe fdHs fdM : FuncData} {T0 : List (Addr × Str)}
theorem ok_placed (F : FunT K "_law_is_placed" "_law_is_placed" (top 70) f fd c) (TB : TabB base mg c Pt) (hmT : (Pt, ("_law_is_placed" : Str) ++ ".<locals>." ++ "<lambda>") ∈ T0) (hu : ∀ p ∈ T0, p.1 = Pt → p.2 = ("_law_is_placed" : Str) ++ ".<locals>." ++ "<lambda>") (R0 : GroveK K CG) (gN : mg "len" = none)
    (D0 : XR P w K mg base "NoPlace" CN ["place"]) (nn : PySem.W.exmOne K (.ref CN) (.ref CN) = some true)
    (gM : mg "_law_met" = some (.ref fM)) (FM : Fun K "_law_met" "_law_met" (top 66) fM fdM) (bM : Binds K fdM ["call"] [])
    (gOr : mg "_law_in_order" = some (.ref fOr)) (kOr : PySem.W.keepIn K (.ref fOr) = true) (GOr : FnOk P w K mg base CX0 1 fOr fdOr ["letters", "words"] (spOrdL K)) (bOr : Binds K fdOr ["letters", "words"] [])
    (MRk : Meth K CG "rank" fRk) (GRk : FnOk P w K mg base CX0 3 fRk fdRk ["self", "word"] (spRankG K CG)) (bRk : Binds K fdRk ["self", "word"] [])
    (MBg : Meth K CG "begins" fBg) (GBg : FnOk P w K mg base CX0 3 fBg fdBg ["self", "word"] (spBegG K CG)) (bBg : Binds K fdBg ["self", "word"] [])
    (MRw : Meth K CG "row" fRw) (GRw : FnOk P w K mg base (L2.CX P w) 4 fRw fdRw ["self", "place"] (spRowG K CG CN)) (bRw : Binds K fdRw ["self", "place"] [])
    (MBe : Meth K CG "below" fBe) (GBe : FnOk P w K mg base (L2.CX P w) 4 fBe fdBe ["self", "place"] (spBelG K CG CN)) (bBe : Binds K fdBe ["self", "place"] [])
    (MHs : Meth K CG "has" fHs) (GHs : FnOk P w K mg base CX0 2 fHs fdHs ["self", "place"] (spHasG K CG)) (bHs : Binds K fdHs ["self", "place"] []) : FnOk P w K mg base CX0 7 f fd ["grove", "letters", "rows", "word"] (spPlacedG K CG T0) := by
  have S0 : FnScope ["grove", "letters", "rows", "word", "kept", "places", "order", "row", "one"] ["grove", "letters", "rows", "word"] (defScope (top 70)) := ⟨rfl, rfl, rfl, by decide +kernel, rfl, by decide +kernel, by decide +kernel⟩
  have nd := S0.nd
  obtain ⟨ocM, odM, kVM, docM, pmM, anM, cdvM, ctM, oslM, rfl, lkM, hcdM⟩ := FM.ex
  refine FunT.ok F S0 (fun vs H Q E h => ?_) (fun A0 outer s H vs Q E hr h => ?_)
  · obtain ⟨x, y, ls, nm, R1, n, root, A, b, xs, rfl, _⟩ := h
    rfl
  · obtain ⟨x, y, ls, nm, R1, n, root, A, b, xs, rfl, hG, T, hz, hb, hda, ho, hTab, kk⟩ := h
    obtain ⟨ord, a, dx, D, Sz, My, fs, kvs, ksz, kmy, rfl, G⟩ := id hG
    have hu64 := hr.units
    have hr1 : Room 1 _ := hr.mono (by decide)
    have hr2 : Room 2 _ := hr.mono (by decide)
    have hr3 : Room 3 _ := hr.mono (by decide)
    have b1 : (5000 : Nat) < sizeLine := by decide
    refine ⟨_, (pss_cons (ps_par (i := 4) (j := 5) rfl nd rfl rfl (by decide) rfl rfl (pa_cons (pe_lc (own := [("row", 7)]) (g := gName 7) rfl nd (pi_list (pv 2)) (blkOk_by (N := ["grove", "letters", "rows", "word", "kept", "places", "order", "row", "one"]) (sc := defScope (top 70)) (by decide +kernel)) (fun _ _ _ _ _ => pg_name (i := 7) nd rfl (Or.inl rfl)) (fun _ _ _ _ _ => (pts_one (pt_val (pe_ix (r := rIxT K) ix_tup (pv 7) pe_int (fun _ _ => rfl))))) (fun _ _ _ _ _ => (pe_ix (r := rIxT K) ix_tup (pv 7) pe_int (fun _ _ => rfl)))) (pa_cons (pe_lc (own := [("row", 7)]) (g := gName 7) (tt := tYes) rfl nd (pi_list (pv 2)) (blkOk_by (N := ["grove", "letters", "rows", "word", "kept", "places", "order", "row", "one"]) (sc := defScope (top 70)) (by decide +kernel)) (fun _ _ _ _ _ => pg_name (i := 7) nd rfl (Or.inl rfl)) (fun _ _ _ _ _ => pts_nil) (fun _ _ _ _ _ => (pe_ix (r := rIxT K) ix_tup (pv 7) pe_int (fun _ _ => rfl)))) pa_nil)) rfl)
        (pss_cons (ps_set (i := 6) nd rfl (Or.inl rfl) (pe_call GOr hr1 (by rfl) gOr kOr bOr .nil pass0 (pa_cons (pv 1) (pa_cons (pe_op op_cat (pv 4) (pe_lst (pa_cons (pv 3) pa_nil))) pa_nil))))
        (pss_cons (ps_if (pt_cmpR op_ne (pe_meth (pv 0) R0.cl MRk GRk hr3 bRk .nil pass0 (pa_cons (pv 3) pa_nil)) (pe_bm PySem.F.plainAttrs_list PySem.F.slot_list_index PySem.F.type_list_index mt_index (pv 6) (pa_cons (pv 3) pa_nil)) (nomark _)) (pss_one (ps_ret pe_bl)) pss_nil)
        (pss_cons (ps_if (pt_cmpR op_ne (pe_meth (pv 0) R0.cl MBg GBg hr3 bBg .nil pass0 (pa_cons (pv 3) pa_nil)) (pe_callB call_len_seq (by rfl) gN PySem.boot_len (pa_cons (pe_lc (own := [("one", 8)]) (g := gName 8) rfl nd (pi_list (pv 4)) (blkOk_by (N := ["grove", "letters", "rows", "word", "kept", "places", "order", "row", "one"]) (sc := defScope (top 70)) (by decide +kernel)) (fun _ _ _ _ _ => pg_name (i := 8) nd rfl (Or.inl rfl)) (fun _ _ _ _ _ => (pts_one (pt_cmpR op_eq (pe_slice sl_str (pv 8) po_none (po_some (pe_callB call_len_str (by rfl) gN PySem.boot_len (pa_cons (pv 3) pa_nil)))) (pv 3) (nomark _)))) (fun _ _ _ _ _ => (pv 8))) pa_nil)) (nomark _)) (pss_one (ps_ret pe_bl)) pss_nil)
        (pss_cons (ps_if (pt_cmpR (r := rIn K false) op_in_seq (pv 3) (pv 5) (by rfl)) (pss_one (ps_ret (pe_meth (pv 0) R0.cl MHs GHs hr2 bHs .nil pass0 (pa_cons (pv 3) pa_nil)))) pss_nil)
        (pss_cons (ps_if (PW.pt (pw_or (pt_val (pe_meth (pv 0) R0.cl MHs GHs hr2 bHs .nil pass0 (pa_cons (pv 3) pa_nil))) (pw_or1 (pt_cmpR (op_neD hu64) (pe_lamcall (T := T0) (a := "call") (Ng := ["call", "e"]) (k := 4) (t := fun E => tMeth CG "row" (spRowG K CG CN) [] E (tVar 0) (tCons (tVar 3) tNil)) (by rfl) gM FM.kp lkM hcdM bM scMet rfl (.inl rfl) (met_givesN D0 nn hr2) TB rfl hmT hu hr (lamS_by (show lamSB (defScope (top 70)) _ = true by decide +kernel)) rfl (fun _ _ _ _ _ => rfl) (fun A outer s H E f c' hrk => (pe_meth (pv 0) R0.cl MRw GRw hrk bRw .nil (passes_call (takes_of rfl rfl rfl rfl) (fun _ _ _ _ h => h)) (pa_cons (pv 3) pa_nil)))) (pe_tup (pa_cons pe_str (pa_cons (pv 3) pa_nil))) (nomark _))))) (pss_one (ps_ret pe_bl)) pss_nil)
        (pss_one (ps_ret (pe_cmpR (op_eqD hu64) (pe_lamcall (T := T0) (a := "call") (Ng := ["call", "e"]) (k := 4) (t := fun E => tMeth CG "below" (spBelG K CG CN) [] E (tVar 0) (tCons (tVar 3) tNil)) (by rfl) gM FM.kp lkM hcdM bM scMet rfl (.inl rfl) (met_givesN D0 nn hr2) TB rfl hmT hu hr (lamS_by (show lamSB (defScope (top 70)) _ = true by decide +kernel)) rfl (fun _ _ _ _ _ => rfl) (fun A outer s H E f c' hrk => (pe_meth (pv 0) R0.cl MBe GBe hrk bBe .nil (passes_call (takes_of rfl rfl rfl rfl) (fun _ _ _ _ h => h)) (pa_cons (pv 3) pa_nil)))) (pe_tup (pa_cons pe_str (pa_cons (pv 3) pa_nil))) (nomark _)))))))))), ?_⟩
    have hSl := spots_len T.g ls root
    have hxl : xs.length = (spots ls R1 root).length := by
      have z := deAll_len hda
      rwa [List.length_map] at z
    obtain ⟨e2, e1⟩ := zip_both hxl
    have hys : y.cps.size ≤ 200 := ho.1
    have hml : mn R1 root ≤ 2000 := by
      have z : mn R1 root ≤ sz R1 root := List.countP_le_length
      omega
    refine ⟨V.ref b, rfl, b, rfl, ⟨_, .inl (.inl hb)⟩, fun K1 nK => lcF_list (K := K) (ws := (spots ls R1 root).zip xs) (fun p => p.2) nK (fun p => V.str p.1.1) (fun p => p.1.2.1) (by rw [e2]; exact .inl (.inl hb)) (by rw [List.length_zip]; omega) (fun i p G hp sG A B kA kB => ?_) fun G1 s1 hK => ?_⟩
    · obtain ⟨⟨z, mk, fl⟩, v⟩ := p
      obtain ⟨_, _, t, et, ht⟩ := zip_pos hda hp
      have et : v = .ref t := et
      subst et
      have ht7 := sG _ _ ht
      refine ⟨rfl, V.ref t, rfl, t, _, 1, .bl mk, rfl, rfl, .inl (.inl ht7), rfl, mk, rfl, ?_⟩
      cases mk with
      | true => exact iteT ⟨V.ref t, rfl, t, _, 0, .str z, rfl, rfl, .inl (.inl ht7), rfl, kA rfl⟩
      | false => exact iteF (kB rfl)
    have eK : (((spots ls R1 root).zip xs).filter (fun p => p.1.2.1)).map (fun p => V.str p.1.1) = (keptW ls R1 root).map V.str := by
      unfold keptW
      conv => rhs; rw [← e1, List.filter_map, List.map_map, List.map_map]
      rfl
    rw [eK] at hK
    refine ⟨V.ref b, rfl, b, rfl, ⟨_, .inl (.inl (s1 _ _ hb))⟩, fun P1 nP => lcF_list (K := K) (ws := (spots ls R1 root).zip xs) (fun p => p.2) nP (fun p => V.str p.1.1) (fun _ => true) (by rw [e2]; exact .inl (.inl (s1 _ _ hb))) (by rw [List.length_zip]; omega) (fun i p G hp sG A B kA kB => ?_) fun G2 s2 hP => ?_⟩
    · obtain ⟨s0, v⟩ := p
      obtain ⟨_, _, t, et, ht⟩ := zip_pos hda hp
      have et : v = .ref t := et
      subst et
      exact ⟨rfl, V.ref t, rfl, t, _, 0, .str s0.1, rfl, rfl, .inl (.inl (sG _ _ (s1 _ _ ht))), rfl, kA rfl⟩
    have eP : (((spots ls R1 root).zip xs).filter (fun _ => true)).map (fun p => V.str p.1.1) = (plc (spots ls R1 root)).map V.str := by
      rw [List.filter_eq_self.mpr (fun _ _ => rfl)]
      unfold plc
      rw [← e1, List.map_map, List.map_map, e1]
      rfl
    rw [eP] at hP
    have hK2 := s2 _ _ hK
    have s12 := s1.trans s2
    have hP3 := hP
    have hK3 := hK2
    have s3 := s12
    refine ⟨_, _, rfl, ?_⟩
    -- in order
    refine ⟨V.str ls, rfl, V.ref K1, rfl, V.str y, rfl, (by show 1 ≤ sizeLine; decide), fun w1 nw1 => ?_⟩
    have s4 := s3.trans (upd_new (o := .lst [V.str y]) nw1)
    have hP4 := upd_new (o := .lst [V.str y]) nw1 _ _ hP3
    have hK4 := upd_new (o := .lst [V.str y]) nw1 _ _ hK3
    have hw4 : upd G2 w1 (.lst [V.str y]) w1 = some (.lst [V.str y]) := upd_same
    generalize upd G2 w1 (.lst [V.str y]) = G4 at s4 hP4 hK4 hw4
    have ekl : (keptW ls R1 root).length = mn R1 root := kept_len T
    refine ⟨K1, w1, _, _, rfl, rfl, hK4, hw4, by rw [List.length_map, ekl]; show _ + 1 ≤ sizeLine; omega, fun c1 nc1 => ?_⟩
    rw [show (keptW ls R1 root).map V.str ++ [V.str y] = (keptW ls R1 root ++ [y]).map V.str from by rw [List.map_append]; rfl]
    have s5 := s4.trans (upd_new (o := .lst ((keptW ls R1 root ++ [y]).map V.str)) nc1)
    have hP5 := upd_new (o := .lst ((keptW ls R1 root ++ [y]).map V.str)) nc1 _ _ hP4
    have hK5 := upd_new (o := .lst ((keptW ls R1 root ++ [y]).map V.str)) nc1 _ _ hK4
    have hc5 : upd G4 c1 (.lst ((keptW ls R1 root ++ [y]).map V.str)) c1 = some (.lst ((keptW ls R1 root ++ [y]).map V.str)) := upd_same
    generalize upd G4 c1 (.lst ((keptW ls R1 root ++ [y]).map V.str)) = G5 at s5 hP5 hK5 hc5
    refine ⟨ls, c1, keptW ls R1 root ++ [y], rfl, .inl (.inl hc5), fun u hu => ?_, by rw [List.length_append, ekl]; show _ + 1 ≤ 5000; omega, fun G6 O1 s56 nO hO => ?_⟩
    · rcases List.mem_append.mp hu with h | h
      · exact kept_over T h
      · obtain rfl : u = y := by simpa using h
        exact ho
    have s6 := s5.trans s56
    have hP6 := s56 _ _ hP5
    have hK6 := s56 _ _ hK5
    have g6 := G.keep (Kp.of s6)
    refine ⟨V.ref a, rfl, a, dx, fs, rfl, g6.ins, G.no _ (by simp only [sev7]; decide), V.str y, rfl, V.ref a, y, ls, nm, R1, n, root, A, rfl, hG.keep (Kp.of s6), T, ho, fun G7 s67 => ?_⟩
    have s7 := s6.trans s67
    have hO7 := s67 _ _ hO
    obtain ⟨q1, q2⟩ := idx_txt (ws := sortW ls (keptW ls R1 root ++ [y])) (y := y) ((sortW_perm ls _).mem_iff.mpr (by simp))
    refine ⟨V.ref O1, rfl, .inl ⟨rfl, _, .inl (.inl hO7)⟩, V.str y, rfl, O1, _, V.str y, _, V.str y, rfl, rfl, .inl (.inl hO7), rfl, flat_txt _, q1, (by show (y == y) = true; exact beq_self_eq_true y), q2, ?_⟩
    rw [order_idx T ho]
    refine ⟨rfl, _, rfl, neT rfl ?_⟩
    have hP7 := s67 _ _ hP6
    have hK7 := s67 _ _ hK6
    have g7 := G.keep (Kp.of s7)
    refine ⟨V.ref a, rfl, a, dx, fs, rfl, g7.ins, G.no _ (by simp only [sev7]; decide), V.str y, rfl, V.ref a, y, ls, nm, R1, n, root, A, rfl, hG.keep (Kp.of s7), T, ho, fun G8 s78 => ?_⟩
    have s8 := s7.trans s78
    have hP8 := s78 _ _ hP7
    have hK8 := s78 _ _ hK7
    refine ⟨V.ref K1, rfl, K1, rfl, ⟨_, .inl (.inl hK8)⟩, fun B1 nB => lcF_list (K := K) (ws := keptW ls R1 root) V.str nB V.str (fun u => decide (u.cps.toList.take y.cps.size = y.cps.toList)) (.inl (.inl hK8)) (by omega) (fun i u G9 hp sG A B kA kB => ?_) fun G9 s89 hB => ?_⟩
    · have hou := kept_over T (List.mem_of_getElem? hp)
      have hu1 := hou.1
      have e : u.length = u.cps.size := rfl
      have e3 : y.length = y.cps.size := rfl
      refine ⟨rfl, V.str u, rfl, V.str y, rfl, y, rfl, by omega, _, rfl, u, rfl, by omega, V.str y, rfl, rfl, _, rfl, ?_⟩
      by_cases cm : V.str (cutS u none (some (y.length : Nat))) = V.str y
      · refine iteT' (decide_eq_true cm) ⟨V.str u, rfl, kA (decide_eq_true ?_)⟩
        injection cm with cm
        rw [← cut_take, ← e3, cm]
      · refine iteF' (decide_eq_false cm) (kB (decide_eq_false fun z => cm (congrArg V.str (str_ext ?_))))
        rw [e3, cut_take]
        exact z
    refine ⟨B1, _, rfl, .inl (.inl (.inl hB)), ?_⟩
    rw [List.length_map, kept_beg T ho]
    refine ⟨rfl, _, rfl, neT rfl ?_⟩
    have s9 := s8.trans s89
    have hP9 := s89 _ _ hP8
    have g9 := G.keep (Kp.of s9)
    have hG9 := hG.keep (Kp.of s9)
    have hy1 : y.cps.size ≤ 1000 := by omega
    have T9 := hTab.ext s9
    refine ⟨V.str y, rfl, V.ref P1, rfl, P1, _, rfl, .inl (.inl (.inl hP9)), rfl, flat_txt _, _, rfl, ?_⟩
    rw [in_txt]
    by_cases cp : y ∈ plc (spots ls R1 root)
    · rw [decide_eq_true cp]
      refine iteT ⟨V.ref a, rfl, a, dx, fs, rfl, g9.ins, G.no _ (by simp only [sev7]; decide), V.str y, rfl, V.ref a, y, ls, nm, R1, n, root, A, rfl, hG9, T, hy1, fun G10 s10 => ?_⟩
      rw [(places_mem T).mp cp]
      exact kk _ (ExtN.of (s9.trans s10)) (hTab.ext (s9.trans s10))
    rw [decide_eq_false cp]
    refine iteF ?_
    have wn : wk R1 root y.cps.toList = none := by
      cases e : wk R1 root y.cps.toList with
      | none => rfl
      | some j => exact absurd ((places_mem T).mpr (by rw [e]; rfl)) cp
    refine ⟨V.ref a, rfl, a, dx, fs, rfl, g9.ins, G.no _ (by simp only [sev7]; decide), V.str y, rfl, V.ref a, y, ls, nm, R1, n, root, A, rfl, hG9, T, hy1, fun G10 s10 => ⟨_, rfl, ?_⟩⟩
    rw [wn]
    refine iteF ?_
    have s010 := s9.trans s10
    have sh := dueN_ok (ok_str T.L ho)
    refine ⟨hTab.ext s010, fun G11 e11 T11 => ?_⟩
    have x11 : ExtN H G11 := (ExtN.of s010).trans e11
    refine ⟨V.ref a, rfl, a, dx, fs, rfl, (G.keep (Kp.ext x11)).ins, G.no _ (by simp only [sev7]; decide), V.str y, rfl, V.ref a, y, ls, nm, R1, n, root, A, rfl, hG.keep (Kp.ext x11), T, hy1, fun j e => absurd (e.symm.trans wn) (fun z => nomatch z), fun _ H' dx' sH nH hx => ⟨dx', V.str y, rfl, rfl, hx, fun r nr => ?_⟩⟩
    have s12 := sH.trans (upd_new (o := .tup [V.str "place", V.str y]) nr)
    have hr12 : upd H' r (.tup [V.str "place", V.str y]) r = some (.tup [V.str "place", V.str y]) := upd_same
    generalize upd H' r (.tup [V.str "place", V.str y]) = G12 at s12 hr12
    refine ⟨V.str y, rfl, (by show 2 ≤ sizeLine; decide), fun u0 nu0 => ?_⟩
    have s13 := upd_new (o := .tup [V.str "place", V.str y]) nu0
    have hu13 : upd G12 u0 (.tup [V.str "place", V.str y]) u0 = some (.tup [V.str "place", V.str y]) := upd_same
    generalize upd G12 u0 (.tup [V.str "place", V.str y]) = G13 at s13 hu13
    refine ⟨dueN y, dueN y, dueN_dp (s13 _ _ hr12), dueN_dp hu13, sh, sh, _, rfl, fls (eqv_self sh) ?_⟩
    have T13 := T11.ext (s12.trans s13)
    have x13 : ExtN H G13 := x11.trans (ExtN.of (s12.trans s13))
    refine ⟨T13, fun G14 e14 T14 => ?_⟩
    have x14 : ExtN H G14 := x13.trans e14
    refine ⟨V.ref a, rfl, a, dx, fs, rfl, (G.keep (Kp.ext x14)).ins, G.no _ (by simp only [sev7]; decide), V.str y, rfl, V.ref a, y, ls, nm, R1, n, root, A, rfl, hG.keep (Kp.ext x14), T, hy1, fun j e => absurd (e.symm.trans wn) (fun z => nomatch z), fun _ H' dx' sH nH hx => ⟨dx', V.str y, rfl, rfl, hx, fun r nr => ?_⟩⟩
    have s15 := sH.trans (upd_new (o := .tup [V.str "place", V.str y]) nr)
    have hr15 : upd H' r (.tup [V.str "place", V.str y]) r = some (.tup [V.str "place", V.str y]) := upd_same
    generalize upd H' r (.tup [V.str "place", V.str y]) = G15 at s15 hr15
    refine ⟨V.str y, rfl, (by show 2 ≤ sizeLine; decide), fun u1 nu1 => ?_⟩
    have s16 := upd_new (o := .tup [V.str "place", V.str y]) nu1
    have hu16 : upd G15 u1 (.tup [V.str "place", V.str y]) u1 = some (.tup [V.str "place", V.str y]) := upd_same
    generalize upd G15 u1 (.tup [V.str "place", V.str y]) = G16 at s16 hu16
    refine ⟨dueN y, dueN y, dueN_dp (s16 _ _ hr15), dueN_dp hu16, sh, sh, ?_⟩
    rw [eqv_self sh]
    exact kk _ (x14.trans (ExtN.of (s15.trans s16))) (T14.ext (s15.trans s16))
end
end SK
namespace SK
open PySem PySem.Spec PyProof.Rows L2 LamX NdefX
open K0 (De DeAll XCl spX withX)
/-! ### what stands while the law runs -/
theorem Tabs.fr {T : List (Addr × Str)} {H H' : Hp} (t : Tabs T H) (m : ∀ b o, H b = some o → (∀ ks, o ≠ .dK ks) → (∀ C dx fs, o ≠ .ins C dx fs) → H' b = some o) : Tabs T H' := fun q hq => by
  obtain ⟨ps, h1, h2, h3⟩ := t q hq
  refine ⟨ps, m _ _ h1 (fun _ z => nomatch z) (fun _ _ _ z => nomatch z), h2, fun pos cv hc => ?_⟩
  obtain ⟨c, e1, e2⟩ := h3 pos cv hc
  refine ⟨c, e1, m _ _ e2 (fun ks z => ?_) (fun C dx fs z => ?_)⟩
  · unfold CodeO at z
    cases z
  · unfold CodeO at z
    cases z
theorem Tabs.pen {T : List (Addr × Str)} {H H' : Hp} {p l : Addr} {ns : List Int} {k lf : Int} (t : Tabs T H) (hp : PenAt H p l ns k lf) (e : SameBut p H H') : Tabs T H' := Tabs.fr t fun b o h n _ => e b o (fun z => by rw [z, hp.dc] at h; exact n _ (Option.some.inj h).symm) h
theorem DeAll.pen {K : PySem.W.Frag} {H H' : Hp} {p l : Addr} {ns : List Int} {k lf : Int} (hp : PenAt H p l ns k lf) (e : SameBut p H H') {xs : List V} {ds : List PyData} (h : DeAll K H xs ds) : DeAll K H' xs ds := de_kxAll (Kx.but hp e) h
theorem valV_here {kvs : List (Key × V)} (nd : (kvs.map Prod.fst).Nodup) {p : Key × V} (h : p ∈ kvs) : valV kvs p.1 = some p.2 := by
  obtain ⟨i, hi, e⟩ := List.mem_iff_getElem.mp h
  exact valV_at (i := i) nd (by rw [List.getElem?_eq_getElem hi, e])
theorem own_nd {H : Hp} {nm : Nat → Str} {R : RuleT} {n : Nat} {ord : List Nat} {O : Addr} {kvs : List (Key × V)} {A : List Addr} (r : OwnR H nm R n ord O kvs A) : (kvs.map Prod.fst).Nodup := by
  rw [r.ks]
  refine List.Pairwise.map _ (R := fun a b => a ∈ ord ∧ b ∈ ord ∧ a ≠ b) (fun a b h z => h.2.2 ?_) ?_
  · injection z with z
    exact r.inj a ((r.mem a).mp h.1) b ((r.mem b).mp h.2.1) z
  · exact List.Pairwise.imp_of_mem (fun ha hb h => ⟨ha, hb, h⟩) r.nd
theorem own_len {H : Hp} {nm : Nat → Str} {R : RuleT} {n : Nat} {ord : List Nat} {O : Addr} {kvs : List (Key × V)} {A : List Addr} (r : OwnR H nm R n ord O kvs A) : kvs.length = n := by
  rw [r.rules.len, r.rules.olen]
/-- rules told twice are alike -/
theorem own_alike {K : PySem.W.Frag} {al : List Nat} {H : Hp} {nm : Nat → Str} {R : RuleT} {n : Nat} {ord ord2 : List Nat} {O O2 : Addr} {kvs kv2 : List (Key × V)} {A A2 : List Addr} (g : GoodR al R) (r : OwnR H nm R n ord O kvs A) (r2 : OwnR H nm R n ord2 O2 kv2 A2) : AlikeR K H (Alike K H 2) (.ref O) (.ref O2) := by
  refine .inr ⟨O, O2, kvs, kv2, rfl, rfl, r.dc, r2.dc, by rw [own_len r, own_len r2], fun p hp => ?_⟩
  have m : p.1 ∈ kvs.map Prod.fst := List.mem_map.mpr ⟨p, hp, rfl⟩
  rw [r.ks] at m
  obtain ⟨i, hi, e⟩ := List.mem_map.mp m
  have hin := (r.mem i).mp hi
  obtain ⟨t, d, h1, h2, h3, _⟩ := r.vs i hin
  obtain ⟨t2, d2, g1, g2, g3, _⟩ := r2.vs i hin
  have hv := valV_here (own_nd r) hp
  rw [← e, h1] at hv
  rw [← e]
  refine ⟨_, g1, ?_⟩
  rw [← Option.some.inj hv]
  refine .inr (.inl ⟨t, t2, _, _, rfl, rfl, .inl (.inl h2), .inl (.inl g2), .cons (.inl ⟨rfl, rfl⟩) (.cons (.inl ⟨rfl, rfl⟩) (.cons (.inr (.inr ⟨d, d2, _, _, rfl, rfl, h3, g3, rfl, fun q hq => ?_⟩)) .nil))⟩)
  unfold encP at hq
  obtain ⟨x, hx, rfl⟩ := List.mem_map.mp hq
  refine ⟨V.str (nm x.2), ?_, rfl, rfl⟩
  show valV (encP nm (R i)) (.inr (sg x.1)) = _
  rw [encP_get, (lookup_iff (g.nd i)).mpr (show (x.1, x.2) ∈ (R i).parts from hx)]
  rfl
/-- the pen, the tables, the rules and the grove -/
structure LawI (K : PySem.W.Frag) (CG : Addr) (T0 : List (Addr × Str)) (p l : Addr) (ns : List Int) (ls : Str) (R : RuleT) (n root : Nat) (D : Addr) (kvs : List (Key × V)) (A : List Addr) (x : V) (B : List Addr) (k lf : Int) (G : Hp) : Prop where
  pen : PenAt G p l ns k lf
  tab : Tabs T0 G
  own : OwnR G nmL R n (List.range n) D kvs A
  pA : p ∉ A
  gr : GroveF K CG G x ls nmL R n root B
  pB : p ∉ B
section
variable {K : PySem.W.Frag} {CG : Addr} {T0 : List (Addr × Str)} {p l : Addr} {ns : List Int} {ls : Str} {R : RuleT} {n root : Nat} {D : Addr} {kvs : List (Key × V)} {A : List Addr} {x : V} {B : List Addr} {k lf : Int} {G : Hp}
theorem LawI.ext {G' : Hp} (h : LawI K CG T0 p l ns ls R n root D kvs A x B k lf G) (e : ExtN G G') (t : Tabs T0 G') : LawI K CG T0 p l ns ls R n root D kvs A x B k lf G' :=
  ⟨⟨e _ _ h.pen.dc (fun _ z => nomatch z), e _ _ h.pen.ls (fun _ z => nomatch z)⟩, t, h.own.keep (Kp.ext e), h.pA, h.gr.keep (Kp.ext e), h.pB⟩
theorem LawI.same {G' : Hp} (h : LawI K CG T0 p l ns ls R n root D kvs A x B k lf G) (e : Same G G') : LawI K CG T0 p l ns ls R n root D kvs A x B k lf G' := h.ext (ExtN.of e) (h.tab.ext e)
theorem LawI.draw {G' : Hp} {k' lf' : Int} (h : LawI K CG T0 p l ns ls R n root D kvs A x B k lf G) (e : SameBut p G G') (P : PenAt G' p l ns k' lf') : LawI K CG T0 p l ns ls R n root D kvs A x B k' lf' G' :=
  ⟨P, Tabs.pen h.tab h.pen e, h.own.keep (Kp.but e h.pA), h.pA, h.gr.keep (Kp.but e h.pB), h.pB⟩
end
/-- names with few places -/
def fitN (R : RuleT) (n : Nat) : List Nat := (List.range n).filter fun i => decide (sz R i ≤ 150)
theorem fit_zero {al : List Nat} {R : RuleT} (g : GoodR al R) {n : Nat} (hn : 1 ≤ n) : 0 < (fitN R n).length := by
  refine List.length_pos_of_mem (a := 0) (List.mem_filter.mpr ⟨List.mem_range.mpr hn, decide_eq_true ?_⟩)
  have e : (R 0).parts = [] := List.eq_nil_iff_forall_not_mem.mpr fun p hp => by
    have := g.dn 0 p hp
    omega
  rw [sz_eq g, e]
  simp
theorem fit_len (R : RuleT) (n : Nat) : (fitN R n).length ≤ n := by
  have z := List.length_filter_le (fun i => decide (sz R i ≤ 150)) (List.range n)
  rwa [List.length_range] at z
theorem fit_back {R : RuleT} {n : Nat} {d : Int} (h0 : 0 ≤ d) (h1 : d < (fitN R n).length) : ∃ i, i < n ∧ sz R i ≤ 150 ∧ atI (nmV nmL (fitN R n)) (-1 - d) = some (.str (nmL i)) := by
  obtain ⟨m, rfl⟩ : ∃ m : Nat, d = (m : Int) := ⟨d.toNat, (Int.toNat_of_nonneg h0).symm⟩
  have hm : m < (fitN R n).length := by omega
  have hj : (fitN R n).length - 1 - m < (fitN R n).length := by omega
  have hmem := List.mem_filter.mp (List.getElem_mem hj)
  refine ⟨(fitN R n)[(fitN R n).length - 1 - m], List.mem_range.mp hmem.1, of_decide_eq_true hmem.2, ?_⟩
  unfold atI ixN
  have el : (nmV nmL (fitN R n)).length = (fitN R n).length := by unfold nmV; rw [List.length_map]
  rw [if_neg (by omega), if_pos (by rw [el]; omega), el]
  show (nmV nmL (fitN R n))[(-1 - (m : Int) + ((fitN R n).length : Nat)).toNat]? = _
  have e : (-1 - (m : Int) + ((fitN R n).length : Nat)).toNat = (fitN R n).length - 1 - m := by omega
  rw [e]
  unfold nmV
  rw [List.getElem?_map, List.getElem?_eq_getElem hj]
  rfl
theorem nmV_perm {ys : List V} {n : Nat} (p : ys.Perm ((List.range n).map fun i => V.str (nmL i))) : ∃ cs : List Nat, cs.Perm (List.range n) ∧ ys = cs.map fun i => V.str (nmL i) := perm_of_map p rfl
end SK
namespace SK
open PySem PySem.Spec PyProof.Rows L2 LamX NdefX
open K0 (De DeAll XCl spX withX)
/-! ### rules handed in and cleared -/
theorem rows_nodict {H : Hp} {a : Addr} {xs : List V} (h : Rows H a xs) {d : Addr} {ks : List (Key × V)} (hd : H d = some (.dK ks)) : a ≠ d := fun z => by
  rw [z] at h
  rcases h with h | h
  · rw [h] at hd
    cases hd
  · rw [h] at hd
    cases hd
structure HandI (p hd : Addr) (Gs : Hp) (R : RuleT) (cs : List Nat) (hk : List (Key × V)) (G : Hp) : Prop where
  dc : G hd = some (.dK hk)
  ks : hk.map Prod.fst = cs.map fun i => (Sum.inr (nmL i) : Key)
  vs : ∀ i ∈ cs, ∃ a d, valV hk (.inr (nmL i)) = some (.ref a) ∧ Rows G a [.bl (R i).mark, .bl (R i).flag, .ref d] ∧ G d = some (.dK (encP nmL (R i))) ∧ Gs d = none ∧ d ≠ hd
  fr : ∀ b o, b ≠ p → Gs b = some o → G b = some o
  nh : Gs hd = none
theorem HandI.step {p hd : Addr} {Gs : Hp} {R : RuleT} {cs : List Nat} {hk : List (Key × V)} {G G' : Hp} (h : HandI p hd Gs R cs hk G) {l : Addr} {ns : List Int} {k lf : Int} (P0 : PenAt Gs p l ns k lf) {k' lf' : Int} (P : PenAt G p l ns k' lf') (s : SameBut p G G') : HandI p hd Gs R cs hk G' := by
  have nhp : hd ≠ p := fun z => by
    have e := P0.dc
    rw [← z, h.nh] at e
    cases e
  refine ⟨s _ _ nhp h.dc, h.ks, fun i hi => ?_, fun b o nb e => s _ _ nb (h.fr _ _ nb e), h.nh⟩
  obtain ⟨a, d, h1, h2, h3, h4, h5⟩ := h.vs i hi
  have nap : a ≠ p := rows_nodict h2 P.dc
  have ndp : d ≠ p := fun z => by
    have e := P0.dc
    rw [← z, h4] at e
    cases e
  exact ⟨a, d, h1, h2.elim (fun h => .inl (s _ _ nap h)) (fun h => .inr (s _ _ nap h)), s _ _ ndp h3, h4, h5⟩
theorem HandI.put {p hd : Addr} {Gs : Hp} {R : RuleT} {cs : List Nat} {hk : List (Key × V)} {G : Hp} (h : HandI p hd Gs R cs hk G) {i : Nat} (inj : ∀ j ∈ cs, nmL j = nmL i → j = i) (hn : i ∉ cs) {a d : Addr} (h2 : Rows G a [.bl (R i).mark, .bl (R i).flag, .ref d]) (h3 : G d = some (.dK (encP nmL (R i)))) (h4 : Gs d = none) (h5 : d ≠ hd) :
    HandI p hd Gs R (cs ++ [i]) (putK hk (.inr (nmL i)) (.ref a)) (upd G hd (.dK (putK hk (.inr (nmL i)) (.ref a)))) := by
  have none_ : valV hk (.inr (nmL i)) = none := by
    cases e : valV hk (.inr (nmL i)) with
    | none => rfl
    | some u =>
      obtain ⟨x, hm, e1, _⟩ := valV_key e
      have m : x.1 ∈ hk.map Prod.fst := List.mem_map.mpr ⟨x, hm, rfl⟩
      rw [h.ks] at m
      obtain ⟨j, hj, e2⟩ := List.mem_map.mp m
      rw [e1] at e2
      injection e2 with e2
      have := inj j hj e2
      subst this
      exact absurd hj hn
  have mR : ∀ {a : Addr} {xs : List V}, Rows G a xs → Rows (upd G hd (.dK (putK hk (.inr (nmL i)) (.ref a)))) a xs := fun {a xs} h' => by
    have ne := rows_nodict h' h.dc
    rcases h' with h' | h'
    · exact .inl (by rw [upd_ne ne]; exact h')
    · exact .inr (by rw [upd_ne ne]; exact h')
  refine ⟨upd_same, ?_, fun j hj => ?_, fun b o nb e => ?_, h.nh⟩
  · rw [putK_new _ none_, List.map_append, List.map_append, h.ks]
    rfl
  · rw [valV_put]
    rcases List.mem_append.mp hj with hj | hj
    · obtain ⟨a', d', g1, g2, g3, g4, g5⟩ := h.vs j hj
      have ne : ¬ (Sum.inr (nmL j) : Key) = .inr (nmL i) := fun z => by
        injection z with z
        have e := inj j hj z
        rw [e] at hj
        exact hn hj
      rw [if_neg ne]
      refine ⟨a', d', g1, ?_, by rw [upd_ne g5]; exact g3, g4, g5⟩
      have ne2 := rows_nodict g2 h.dc
      exact g2.elim (fun h => .inl (by rw [upd_ne ne2]; exact h)) (fun h => .inr (by rw [upd_ne ne2]; exact h))
    · obtain rfl : j = i := by simpa using hj
      rw [if_pos rfl]
      have ne2 := rows_nodict h2 h.dc
      exact ⟨a, d, rfl, h2.elim (fun h => .inl (by rw [upd_ne ne2]; exact h)) (fun h => .inr (by rw [upd_ne ne2]; exact h)), by rw [upd_ne h5]; exact h3, h4, h5⟩
  · rw [upd_ne (ne_of_none e h.nh)]
    exact h.fr _ _ nb e
theorem HandI.rules {p hd : Addr} {Gs : Hp} {R : RuleT} {n : Nat} {cs : List Nat} {hk : List (Key × V)} {G : Hp} (h : HandI p hd Gs R cs hk G) (pm : cs.Perm (List.range n)) (hn : n ≤ 7) : RulesAt G nmL R n cs hd hk :=
  ⟨h.ks, pm.nodup_iff.mpr List.nodup_range, fun i => by rw [pm.mem_iff, List.mem_range], fun i hi j hj => nmL_inj i (by omega) j (by omega), fun i hi => by
    obtain ⟨a, d, h1, h2, h3, h4, h5⟩ := h.vs i (pm.mem_iff.mpr (List.mem_range.mpr hi))
    exact ⟨_, h1, a, d, rfl, h2, h3, h5⟩⟩
/-- while the rules handed in are cleared -/
structure ClrI (p l hd : Addr) (ns : List Int) (k lf : Int) (Gs Gc : Hp) (n : Nat) (hk : List (Key × V)) (B : List Addr) (G : Hp) : Prop where
  dc : G hd = some (.dK hk)
  vs : ∀ i < n, ∃ a d m1 m2, valV hk (.inr (nmL i)) = some (.ref a) ∧ Rows G a [m1, m2, .ref d] ∧ (∃ ks, G d = some (.dK ks)) ∧ Gs d = none ∧ d ∉ B ∧ d ≠ hd
  fr : ∀ b o, b ≠ p → Gs b = some o → G b = some o
  nd : ∀ b o, Gc b = some o → (∀ ks, o ≠ .dK ks) → G b = some o
  gB : ∀ b ∈ B, ∀ o, Gc b = some o → G b = some o
  pen : PenAt G p l ns k lf
theorem ClrI.same {p l hd : Addr} {ns : List Int} {k lf : Int} {Gs Gc : Hp} {n : Nat} {hk : List (Key × V)} {B : List Addr} {G G' : Hp} (h : ClrI p l hd ns k lf Gs Gc n hk B G) (s : Same G G') : ClrI p l hd ns k lf Gs Gc n hk B G' :=
  ⟨s _ _ h.dc, fun i hi => by
    obtain ⟨a, d, m1, m2, h1, h2, ⟨ks, h3⟩, h4, h5, h6⟩ := h.vs i hi
    exact ⟨a, d, m1, m2, h1, h2.elim (fun h => .inl (s _ _ h)) (fun h => .inr (s _ _ h)), ⟨ks, s _ _ h3⟩, h4, h5, h6⟩, fun b o nb e => s _ _ (h.fr b o nb e), fun b o e n => s _ _ (h.nd b o e n), fun b hb o e => s _ _ (h.gB b hb o e), ⟨s _ _ h.pen.dc, s _ _ h.pen.ls⟩⟩
theorem ClrI.clear {p l hd : Addr} {ns : List Int} {k lf k0 lf0 : Int} {Gs Gc : Hp} {n : Nat} {hk : List (Key × V)} {B : List Addr} {G : Hp} (h : ClrI p l hd ns k lf Gs Gc n hk B G) (P0 : PenAt Gs p l ns k0 lf0) {d : Addr} {ks : List (Key × V)} (h3 : G d = some (.dK ks)) (h4 : Gs d = none) (h5 : d ∉ B) (h6 : d ≠ hd) : ClrI p l hd ns k lf Gs Gc n hk B (upd G d (.dK [])) := by
  have ndp : p ≠ d := ne_of_none P0.dc h4
  have ndl : l ≠ d := ne_of_none P0.ls h4
  refine ⟨by rw [upd_ne (Ne.symm h6)]; exact h.dc, fun i hi => ?_, fun b o nb e => ?_, fun b o e n => ?_, fun b hb o e => ?_, ⟨by rw [upd_ne ndp]; exact h.pen.dc, by rw [upd_ne ndl]; exact h.pen.ls⟩⟩
  · obtain ⟨a, d', m1, m2, g1, g2, ⟨ks', g3⟩, g4, g5, g6⟩ := h.vs i hi
    have ne := rows_nodict g2 h3
    refine ⟨a, d', m1, m2, g1, g2.elim (fun h => .inl (by rw [upd_ne ne]; exact h)) (fun h => .inr (by rw [upd_ne ne]; exact h)), ?_, g4, g5, g6⟩
    by_cases c : d' = d
    · exact ⟨[], by rw [c]; exact upd_same⟩
    · exact ⟨ks', by rw [upd_ne c]; exact g3⟩
  · rw [upd_ne (ne_of_none e h4)]
    exact h.fr b o nb e
  · have z := h.nd b o e n
    rw [upd_ne (fun c => by rw [c, h3] at z; exact n _ (Option.some.inj z).symm)]
    exact z
  · rw [upd_ne (fun c : b = d => h5 (by rw [← c]; exact hb))]
    exact h.gB b hb o e
end SK
namespace SK
open PySem PySem.Spec PyProof.Rows L2 LamX NdefX
open K0 (De DeAll XCl spX withX)
/-! ### the law -/
theorem six_okb : ∀ x ∈ six, okLb x = true := by decide +kernel
theorem six_lo {x : Str} (h : x ∈ six) : OkL x := okL_of (six_okb x h)
theorem six_ascii : ∀ x ∈ six, x.cps.all (· < 128) = true ∧ x.cps.size ≤ 1000 := by decide +kernel
def spLaw (K : PySem.W.Frag) (T : List (Addr × Str)) : Sp := fun vs H Q _ => ∃ (a : Addr) (ns : List Int), vs = [.ref a] ∧ SqL K H a (ns.map V.int) ∧ ns.length ≤ 63 ∧ Tabs T H ∧ ∀ H', Q (.bl true) H'
section
variable {P : Program} {w : World} {K : PySem.W.Frag} {mg : Str → Option Value} {base : Heap} {f fG fRu fPen fD fP fSix fSh fTol fUnf fRd fPl pR CG CT : Addr} {fd fdG fdRu fdPen fdD fdP fdSix fdSh fdTol fdUnf fdRd fdPl : FuncData} {T0 : List (Addr × Str)}
theorem ok_law25 (F : Fun K "law" "law" (top 71) f fd) (R0 : GroveK K CG) (gRg : mg "range" = none) (gLs : mg "list" = none) (gDi : mg "dict" = none) (gTu : mg "tuple" = none) (gN : mg "len" = none) (gMn : mg "min" = none)
    (gGr : mg "Grove" = some (.ref CG)) (MG : Mk K CG fG) (GG : FnOk P w K mg base CX0 4 fG fdG ["self", "letters", "rules", "root"] (spInitG K CG)) (bG : Binds K fdG ["self", "letters", "rules", "root"] [])
    (PR : PropOf K CG "rules" pR fRu) (GRu : FnOk P w K mg base CX0 2 fRu fdRu ["self"] (spRulesM K CG)) (bRu : Binds K fdRu ["self"] [])
    (gPen : mg "_law_pen_of" = some (.ref fPen)) (kPen : PySem.W.keepIn K (.ref fPen) = true) (GPen : FnOk P w K mg base CX0 1 fPen fdPen ["script"] (spPen K)) (bPen : Binds K fdPen ["script"] [])
    (gD : mg "_law_draw" = some (.ref fD)) (kD : PySem.W.keepIn K (.ref fD) = true) (GD : FnOk P w K mg base CX0 1 fD fdD ["pen", "many"] spDraw) (bD : Binds K fdD ["pen", "many"] [])
    (gP : mg "_law_pick" = some (.ref fP)) (kP : PySem.W.keepIn K (.ref fP) = true) (GP : FnOk P w K mg base CX0 2 fP fdP ["pen", "items"] spPick) (bP : Binds K fdP ["pen", "items"] [])
    (gSix : mg "_law_letters_of" = some (.ref fSix)) (kSix : PySem.W.keepIn K (.ref fSix) = true) (GSix : FnOk P w K mg base CX0 3 fSix fdSix ["pen"] spSix) (bSix : Binds K fdSix ["pen"] [])
    (gSh : mg "_law_shuffled" = some (.ref fSh)) (kSh : PySem.W.keepIn K (.ref fSh) = true) (GSh : FnOk P w K mg base CX0 2 fSh fdSh ["pen", "items"] (spShufA K)) (bSh : Binds K fdSh ["pen", "items"] [])
    (gTol : mg "_law_told_rules" = some (.ref fTol)) (kTol : PySem.W.keepIn K (.ref fTol) = true) (GTol : FnOk P w K mg base CX0 3 fTol fdTol ["pen", "letters"] (spToldL K)) (bTol : Binds K fdTol ["pen", "letters"] [])
    (gUnf : mg "_law_unfolded" = some (.ref fUnf)) (kUnf : PySem.W.keepIn K (.ref fUnf) = true) (GUnf : FnOk P w K mg base CX0 2 fUnf fdUnf ["letters", "rules", "root"] (spUnfL K)) (bUnf : Binds K fdUnf ["letters", "rules", "root"] [])
    (gRd : mg "_law_is_read" = some (.ref fRd)) (kRd : PySem.W.keepIn K (.ref fRd) = true) (GRd : FnOk P w K mg base CX0 9 fRd fdRd ["grove", "letters", "rows"] (spReadG K CG CT T0)) (bRd : Binds K fdRd ["grove", "letters", "rows"] [])
    (gPl : mg "_law_is_placed" = some (.ref fPl)) (kPl : PySem.W.keepIn K (.ref fPl) = true) (GPl : FnOk P w K mg base CX0 7 fPl fdPl ["grove", "letters", "rows", "word"] (spPlacedG K CG T0)) (bPl : Binds K fdPl ["grove", "letters", "rows", "word"] []) : FnOk P w K mg base CX0 10 f fd ["script"] (spLaw K T0) := by
  have S0 : FnScope ["script", "pen", "turn", "letters", "rules", "fit", "root", "handed", "name", "row", "grove", "rows", "told", "lap", "place", "word", "k"] ["script"] (defScope (top 71)) := ⟨rfl, rfl, rfl, by decide +kernel, rfl, by decide +kernel, by decide +kernel⟩
  have nd := S0.nd
  refine F.ok S0 (fun vs H Q E h => ?_) (fun cdv A0 outer s H vs Q E hr h => ?_)
  · obtain ⟨a, ns, rfl, _⟩ := h
    rfl
  · obtain ⟨a, ns, rfl, hS, hn, hTab, kk⟩ := h
    have hu64 := hr.units
    have hu := hu_of hr
    have hr1 : Room 1 _ := hr.mono (by decide)
    have hr2 : Room 2 _ := hr.mono (by decide)
    have hr3 : Room 3 _ := hr.mono (by decide)
    have hr5 : Room 5 _ := hr.mono (by decide)
    have hr7 : Room 7 _ := hr.mono (by decide)
    have b1 : (5000 : Nat) < sizeLine := by decide
    refine ⟨_, (pss_cons (ps_set (i := 1) nd rfl (Or.inr rfl) (pe_call GPen hr1 (by rfl) gPen kPen bPen .nil pass0 (pa_cons (pv 0) pa_nil)))
        (pss_cons (ps_for PassesOwn.never rfl (pi_range1 (by rfl) gRg (pa_cons pe_int pa_nil)) (pg_name (i := 2) nd rfl (Or.inl rfl)) (pss_cons (ps_set (i := 3) nd rfl (Or.inr rfl) (pe_call GSix hr3 (by rfl) gSix kSix bSix .nil pass0 (pa_cons (pv 1) pa_nil)))
        (pss_cons (ps_asg (pe_call GTol hr3 (by rfl) gTol kTol bTol .nil pass0 (pa_cons (pv 1) (pa_cons (pv 3) pa_nil))) (pg_tup rfl (pgs_cons (pg_name (i := 4) nd rfl (Or.inl rfl)) (pgs_cons (pg_name (i := 5) nd rfl (Or.inl rfl)) pgs_nil))))
        (pss_cons (ps_par (i := 6) (j := 7) rfl nd rfl rfl (by decide) rfl rfl (pa_cons (pe_ix ix_list (pv 5) (pe_op op_sub (pe_un un_neg pe_int) (pe_call GD hr1 (by rfl) gD kD bD .nil pass0 (pa_cons (pv 1) (pa_cons (pe_callB (call_min2 rfl) (by rfl) gMn PyProof.Rows.boot_min (pa_cons pe_int (pa_cons (pe_callB call_len_seq (by rfl) gN PySem.boot_len (pa_cons (pv 5) pa_nil)) pa_nil))) pa_nil)))) (fun _ _ => rfl)) (pa_cons pe_dnewK pa_nil)) rfl)
        (pss_cons (ps_for PassesOwn.never rfl (pi_list (pe_call GSh hr2 (by rfl) gSh kSh bSh .nil pass0 (pa_cons (pv 1) (pa_cons (pe_callTy (call_list_dK rfl) (by rfl) gLs PyProof.Rows.boot_list (pa_cons (pv 4) pa_nil)) pa_nil)))) (pg_name (i := 8) nd rfl (Or.inl rfl)) (pss_cons (ps_set (i := 9) nd rfl (Or.inl rfl) (pe_lst (pa_cons (pe_ix ix_seq (pe_dget hu (pv 4) (pv 8) (fun _ _ => rfl)) pe_int (fun _ _ => rfl)) (pa_cons (pe_ix ix_seq (pe_dget hu (pv 4) (pv 8) (fun _ _ => rfl)) pe_int (fun _ _ => rfl)) (pa_cons (pe_callTy cr_dictC (by rfl) gDi boot_dict0 (pa_cons (pe_ix ix_seq (pe_dget hu (pv 4) (pv 8) (fun _ _ => rfl)) pe_int (fun _ _ => rfl)) pa_nil)) pa_nil)))))
        (pss_one (ps_dput hu (pv 7) (pv 8) (pe_ifExp (pt_cmpR op_eq (pe_call GD hr1 (by rfl) gD kD bD .nil pass0 (pa_cons (pv 1) (pa_cons pe_int pa_nil))) pe_int (nomark _)) (pv 9) (pe_callTy call_tuple_of (by rfl) gTu PyProof.Rows.boot_tuple (pa_cons (pv 9) pa_nil))) rfl))))
        (pss_cons (ps_set (i := 10) nd rfl (Or.inl rfl) (pe_make MG GG hr5 (by rfl) gGr bG .nil pass0 (pa_cons (pv 3) (pa_cons (pv 7) (pa_cons (pv 6) pa_nil)))))
        (pss_cons (ps_for PassesOwn.never rfl (pi_list (pe_callTy (call_list_dK rfl) (by rfl) gLs PyProof.Rows.boot_list (pa_cons (pv 7) pa_nil))) (pg_name (i := 8) nd rfl (Or.inl rfl)) (pss_one (ps_expr (pe_dclear (pe_ix ix_seq (pe_dget hu (pv 7) (pv 8) (fun _ _ => rfl)) pe_int (fun _ _ => rfl))))))
        (pss_cons (ps_expr (pe_dclear (pv 7)))
        (pss_cons (ps_set (i := 11) nd rfl (Or.inl rfl) (pe_call GUnf hr2 (by rfl) gUnf kUnf bUnf .nil pass0 (pa_cons (pv 3) (pa_cons (pv 4) (pa_cons (pv 6) pa_nil)))))
        (pss_cons (ps_if (pt_cmpR (op_neA hu64) (pe_tup (pa_cons (pe_fld (pv 10) rfl) (pa_cons (pe_fld (pv 10) rfl) (pa_cons (pe_prop (pv 10) R0.cl PR GRu hr3 bRu .nil pass0 rfl) pa_nil)))) (pe_tup (pa_cons (pv 3) (pa_cons (pv 6) (pa_cons (pv 4) pa_nil)))) (nomark _)) (pss_one (ps_ret pe_bl)) pss_nil)
        (pss_cons (ps_set (i := 12) nd rfl (Or.inl rfl) (pe_prop (pv 10) R0.cl PR GRu hr3 bRu .nil pass0 rfl))
        (pss_cons (ps_expr (pe_dclear (pe_ix ix_seq (pe_dget hu (pv 12) (pv 6) (fun _ _ => rfl)) pe_int (fun _ _ => rfl))))
        (pss_cons (ps_expr (pe_dclear (pv 12)))
        (pss_cons (ps_if (PW.pt (pw_or (pt_cmpR (op_neA hu64) (pe_prop (pv 10) R0.cl PR GRu hr3 bRu .nil pass0 rfl) (pv 4) (nomark _)) (pw_or1 (pt_not (pt_val (pe_call GRd hr (by rfl) gRd kRd bRd .nil pass0 (pa_cons (pv 10) (pa_cons (pv 3) (pa_cons (pv 11) pa_nil))))))))) (pss_one (ps_ret pe_bl)) pss_nil)
        (pss_one (ps_for PassesOwn.never rfl (pi_range1 (by rfl) gRg (pa_cons pe_int pa_nil)) (pg_name (i := 13) nd rfl (Or.inl rfl)) (pss_cons (ps_set (i := 14) nd rfl (Or.inl rfl) (pe_slice sl_str (pe_ix (r := rIxT K) ix_tup (pe_call GP hr2 (by rfl) gP kP bP .nil pass0 (pa_cons (pv 1) (pa_cons (pv 11) pa_nil))) pe_int (fun _ _ => rfl)) po_none (po_some (pe_call GD hr1 (by rfl) gD kD bD .nil pass0 (pa_cons (pv 1) (pa_cons pe_int pa_nil))))))
        (pss_cons (ps_set (i := 15) nd rfl (Or.inl rfl) (pe_op op_add_str (pv 14) (pe_bm PySem.F.plainAttrs_str PySem.F.slot_str_join PySem.F.type_str_join mt_join pe_str (pa_cons (pe_lc (own := [("k", 16)]) (g := gName 16) (tt := tYes) rfl nd (pi_range1 (by rfl) gRg (pa_cons (pe_call GD hr1 (by rfl) gD kD bD .nil pass0 (pa_cons (pv 1) (pa_cons pe_int pa_nil))) pa_nil)) (blkOk_by (N := ["script", "pen", "turn", "letters", "rules", "fit", "root", "handed", "name", "row", "grove", "rows", "told", "lap", "place", "word", "k"]) (sc := defScope (top 71)) (by decide +kernel)) (fun _ _ _ _ _ => pg_name (i := 16) nd rfl (Or.inl rfl)) (fun _ _ _ _ _ => pts_nil) (fun _ _ _ _ _ => (pe_call GP hr2 (by rfl) gP kP bP .nil pass0 (pa_cons (pv 1) (pa_cons (pv 3) pa_nil))))) pa_nil))))
        (pss_one (ps_if (pt_not (pt_val (pe_call GPl hr7 (by rfl) gPl kPl bPl .nil pass0 (pa_cons (pv 10) (pa_cons (pv 3) (pa_cons (pv 11) (pa_cons (pv 15) pa_nil))))))) (pss_one (ps_ret pe_bl)) pss_nil))))))))))))))))))))
        (pss_one (ps_ret pe_bl)))), ?_⟩
    refine ⟨V.ref a, rfl, a, ns, rfl, hS, hn, fun H1 p l s1 P1 => ?_⟩
    have T1 := Tabs.ext hTab s1
    refine ⟨3, rfl, by decide, by decide, for_it walk_range (fun i σ G => ∃ (x2 x3 x4 x5 x6 x7 x8 x9 x10 x11 x12 x13 x14 x15 x16 : Option V) (k1 lf1 : Int), σ = [some (.ref a), some (.ref p), x2, x3, x4, x5, x6, x7, x8, x9, x10, x11, x12, x13, x14, x15, x16] ∧ k1 ≤ 4000 * i ∧ 0 ≤ k1 ∧ 0 ≤ lf1 ∧ PenAt G p l ns k1 lf1 ∧ Tabs T0 G)
      ⟨none, none, none, none, none, none, none, none, none, none, none, none, none, none, none, 0, 0, rfl, by omega, Int.le_refl _, Int.le_refl _, P1, T1⟩ (fun _ _ _ _ _ => trivial) ?_ ?_⟩
    case refine_2 =>
      rintro σ G ⟨x2, x3, x4, x5, x6, x7, x8, x9, x10, x11, x12, x13, x14, x15, x16, k1, lf1, rfl, f1, f2, f3, PG, TG⟩
      exact kk G
    rintro i x σ G G2 hi ⟨x2, x3, x4, x5, x6, x7, x8, x9, x10, x11, x12, x13, x14, x15, x16, k1, lf1, rfl, f1, f2, f3, PG, TG⟩ ⟨rfl, rfl⟩
    have hi' : i < 3 := hi
    refine ⟨V.ref p, rfl, p, l, ns, k1, lf1, rfl, PG, hn, f2, by omega, f3, fun G3 k3 lf3 ls g1 g2 g3 h6 s3 P3 => ?_⟩
    have T3 := Tabs.pen TG PG s3
    have hL := six_lo h6
    refine ⟨V.ref p, rfl, V.str ls, rfl, p, l, ns, k3, lf3, ls, rfl, P3, hn, g2, by omega, g3, hL, fun G4 k4 lf4 t D Ft R n kvs A m1 m2 m3 s4 P4 ht n1 n7 gd own fA nFt hFt => ?_⟩
    have T4 := Tabs.pen T3 P3 s4
    have pA : p ∉ A := fun z => by
      have e := fA p z
      rw [P3.dc] at e
      cases e
    refine ⟨t, _, rfl, .inl (.inl ht), rfl, _, _, rfl, _, _, rfl, rfl, ?_⟩
    have hFt : G4 Ft = some (.lst (nmV nmL (fitN R n))) := hFt
    have fl0 := fit_zero gd n1
    have fl1 := fit_len R n
    have efl : (nmV nmL (fitN R n)).length = (fitN R n).length := by unfold nmV; rw [List.length_map]
    have hb2 : ∀ m : Nat, 0 < m → m ≤ 7 → (0 : Int) < (if (m : Int) < 2 then (m : Int) else 2) ∧ (if (m : Int) < 2 then (m : Int) else 2) ≤ 1000 ∧ (if (m : Int) < 2 then (m : Int) else 2) ≤ m := fun m h0 h7 => by
      split <;> omega
    obtain ⟨q1, q2, q3⟩ := hb2 (nmV nmL (fitN R n)).length (by omega) (by omega)
    refine ⟨V.ref Ft, rfl, 1, rfl, V.ref p, rfl, V.ref Ft, rfl, Ft, _, rfl, .inl (.inl (.inl hFt)), 2, _, rfl, p, l, ns, k4, lf4, _, rfl, P4, hn, m2, by omega, m3, q1, q2, fun G5 k5 lf5 d e1 e2 e3 e4 e5 s5 P5 => ?_⟩
    obtain ⟨root, hrt, hz, hat⟩ := fit_back (R := R) (n := n) e4 (by omega)
    have nFp : Ft ≠ p := ne_of hFt P4.dc (by intro z; cases z)
    have hFt5 := s5 _ _ nFp hFt
    have T5 := Tabs.pen T4 P4 s5
    have own5 := own.keep (Kp.but s5 pA)
    refine ⟨-1, d, rfl, rfl, Ft, _, _, _, rfl, rfl, .inl (.inl hFt5), hat, fun hd nhd => ⟨_, _, rfl, ?_⟩⟩
    -- the rules are handed in
    have s6 := upd_new (o := .dK []) nhd
    have hd6 : upd G5 hd (.dK []) hd = some (.dK []) := upd_same
    generalize upd G5 hd (.dK []) = G6 at s6 hd6
    have P6 : PenAt G6 p l ns k5 lf5 := ⟨s6 _ _ P5.dc, s6 _ _ P5.ls⟩
    have nhp : hd ≠ p := Ne.symm (ne_of_none P5.dc nhd)
    have ekv : (kvs.map fun kv => kV kv.1) = (List.range n).map fun i => V.str (nmL i) := by
      have z := congrArg (List.map kV) own.ks
      rw [List.map_map, List.map_map] at z
      exact z
    have ekl : (kvs.map fun kv => kV kv.1).length = n := by rw [ekv, List.length_map, List.length_range]
    refine ⟨V.ref p, rfl, V.ref D, rfl, D, kvs, rfl, s6 _ _ own5.dc, fun q nq => ?_⟩
    have s7 := upd_new (o := .lst (kvs.map fun kv => kV kv.1)) nq
    have hq7 : upd G6 q (.lst (kvs.map fun kv => kV kv.1)) q = some (.lst (kvs.map fun kv => kV kv.1)) := upd_same
    generalize upd G6 q (.lst (kvs.map fun kv => kV kv.1)) = G7 at s7 hq7
    have P7 : PenAt G7 p l ns k5 lf5 := ⟨s7 _ _ P6.dc, s7 _ _ P6.ls⟩
    refine ⟨p, l, q, ns, k5, lf5, _, rfl, P7, hn, e2, by omega, e3, .inl (.inl hq7), by omega, fun G8 k8 lf8 b8 ys j1 j2 j3 hperm s8 P8 hb8 nb8 => ?_⟩
    rw [ekl] at j1
    rw [ekv] at hperm
    obtain ⟨cs, hcs, rfl⟩ := nmV_perm hperm
    have hcl : cs.length = n := by rw [hcs.length_eq, List.length_range]
    have csl : ∀ i ∈ cs, i < n := fun i hi => List.mem_range.mp (hcs.mem_iff.mp hi)
    have csn : cs.Nodup := hcs.nodup_iff.mpr List.nodup_range
    have s68 : SameBut p G6 G8 := (SameBut.of s7).trans s8
    have hd8 := s68 _ _ nhp hd6
    refine ⟨b8, rfl, ⟨_, .inl (.inl hb8)⟩, for_it (walk_list (K := K) (xs := cs.map fun i => V.str (nmL i))) (fun j σ G => ∃ (x8 x9 : Option V) (k9 lf9 : Int) (hk : List (Key × V)), σ = [some (.ref a), some (.ref p), some (.int (0 + i)), some (.str ls), some (.ref D), some (.ref Ft), some (.str (nmL root)), some (.ref hd), x8, x9, x10, x11, x12, x13, x14, x15, x16] ∧ k9 ≤ k8 + j ∧ 0 ≤ k9 ∧ 0 ≤ lf9 ∧ PenAt G p l ns k9 lf9 ∧ HandI p hd G5 R (cs.take j) hk G ∧ ∀ b o, b ≠ p → b ≠ hd → G8 b = some o → G b = some o)
      ⟨_, _, k8, lf8, [], rfl, by omega, j2, j3, P8, ⟨hd8, rfl, fun i hi => absurd hi (by simp), fun b o nb e => s68 _ _ nb (s6 _ _ e), nhd⟩, fun _ _ _ _ e => e⟩ (fun j σ G _ q => ?_) ?_ ?_⟩
    · obtain ⟨_, _, _, _, _, _, _, _, _, _, _, fr⟩ := q
      exact .inl (.inl (fr _ _ (ne_of hb8 P8.dc (by intro z; cases z)) (ne_of hb8 hd8 (by intro z; cases z)) hb8))
    · rintro j y σ G9 G' hj ⟨x8, x9, k9, lf9, hk, rfl, c1, c2, c3, P9, H9, fr⟩ ⟨rfl, hy⟩
      have hjl : j < cs.length := by rwa [List.length_map] at hj
      obtain ⟨c, hc⟩ : ∃ c, cs[j]? = some c := ⟨_, List.getElem?_eq_getElem hjl⟩
      have ey : y = V.str (nmL c) := by
        rw [List.getElem?_map, hc] at hy
        exact (Option.some.inj hy).symm
      subst ey
      have hcn := csl c (List.mem_of_getElem? hc)
      have own9 : OwnR G' nmL R n (List.range n) D kvs A := own5.keep fun b hb o e _ => H9.fr b o (fun z => pA (z ▸ hb)) e
      obtain ⟨tt, d, v1, v2, v3, _⟩ := own9.vs c hcn
      have dgc := DGet.k (k := (.inr (nmL c) : Key)) own9.dc
      rw [v1] at dgc
      refine ⟨V.ref D, rfl, V.str (nmL c), rfl, D, _, rfl, dgc, rIx_rows (j := 0) (.inr v2) rfl ⟨V.ref D, rfl, V.str (nmL c), rfl, D, _, rfl, dgc, rIx_rows (j := 1) (.inr v2) rfl ⟨V.ref D, rfl, V.str (nmL c), rfl, D, _, rfl, dgc, rIx_rows (j := 2) (.inr v2) rfl ⟨d, _, rfl, .inl v3, fun e0 ne0 => ⟨(by show 3 ≤ sizeLine; decide), fun r0 nr0 => ?_⟩⟩⟩⟩⟩
      have s10 := upd_new (o := .dK (encP nmL (R c))) ne0
      have he10 : upd G' e0 (.dK (encP nmL (R c))) e0 = some (.dK (encP nmL (R c))) := upd_same
      have ne5 : G5 e0 = none := by
        cases z : G5 e0 with
        | none => rfl
        | some o =>
          have nep : e0 ≠ p := fun w => by
            rw [w, P9.dc] at ne0
            cases ne0
          rw [H9.fr _ _ nep z] at ne0
          cases ne0
      have neh : e0 ≠ hd := fun w => by
        rw [w, H9.dc] at ne0
        cases ne0
      generalize upd G' e0 (.dK (encP nmL (R c))) = G10 at s10 he10 nr0
      have s11 := upd_new (o := .lst [V.bl (R c).mark, V.bl (R c).flag, V.ref e0]) nr0
      have hr11 : upd G10 r0 (.lst [V.bl (R c).mark, V.bl (R c).flag, V.ref e0]) r0 = some (.lst [V.bl (R c).mark, V.bl (R c).flag, V.ref e0]) := upd_same
      have he11 := s11 _ _ he10
      generalize upd G10 r0 (.lst [V.bl (R c).mark, V.bl (R c).flag, V.ref e0]) = G11 at s11 hr11 he11
      have s911 := s10.trans s11
      have P11 : PenAt G11 p l ns k9 lf9 := ⟨s911 _ _ P9.dc, s911 _ _ P9.ls⟩
      refine ⟨V.ref p, rfl, p, l, ns, k9, lf9, 2, rfl, P11, hn, c2, by omega, c3, by decide, by decide, fun G12 k12 lf12 d12 u1 u2 u3 u4 u5 s12 P12 => ?_⟩
      have nep : e0 ≠ p := fun w => by
        rw [w, P9.dc] at ne0
        cases ne0
      have nrp : r0 ≠ p := ne_of hr11 P11.dc (by intro z; cases z)
      have hr12 := s12 _ _ nrp hr11
      have he12 := s12 _ _ nep he11
      have s912 : SameBut p G' G12 := (SameBut.of s911).trans s12
      have H12 := H9.step P5 P9 s912
      have hni : c ∉ cs.take j := fun z => by
        obtain ⟨m, hm, em⟩ := List.mem_iff_getElem.mp z
        rw [List.length_take] at hm
        rw [List.getElem_take] at em
        have hmj : cs[m]? = some c := by
          rw [List.getElem?_eq_getElem (by omega), em]
        exact absurd ((List.getElem?_inj (List.getElem?_eq_some_iff.mp hmj).1 csn).mp (hmj.trans hc.symm)) (by omega)
      have hinj : ∀ m ∈ cs.take j, nmL m = nmL c → m = c := fun m hm e => nmL_inj m (by have := csl m (List.mem_of_mem_take hm); omega) c (by omega) e
      have hkl : hk.length ≤ 7 := by
        have z := congrArg List.length H9.ks
        rw [List.length_map, List.length_map, List.length_take] at z
        omega
      have fin : ∀ (G13 : Hp) (z : Addr), Same G12 G13 → Rows G13 z [V.bl (R c).mark, V.bl (R c).flag, V.ref e0] → HandI p hd G5 R (cs.take (j + 1)) (putK hk (.inr (nmL c)) (.ref z)) (upd G13 hd (.dK (putK hk (.inr (nmL c)) (.ref z)))) ∧ PenAt (upd G13 hd (.dK (putK hk (.inr (nmL c)) (.ref z)))) p l ns k12 lf12 ∧ ∀ b o, b ≠ p → b ≠ hd → G8 b = some o → upd G13 hd (.dK (putK hk (.inr (nmL c)) (.ref z))) b = some o := fun G13 z s13 hz13 => by
        have P13 : PenAt G13 p l ns k12 lf12 := ⟨s13 _ _ P12.dc, s13 _ _ P12.ls⟩
        refine ⟨?_, ⟨?_, ?_⟩, fun b o n1 n2 e => ?_⟩
        · rw [take_snoc hc]
          exact (H12.step P5 P12 (SameBut.of s13)).put hinj hni hz13 (s13 _ _ he12) ne5 neh
        · rw [upd_ne (Ne.symm nhp)]
          exact P13.dc
        · rw [upd_ne (ne_of_none P5.ls nhd)]
          exact P13.ls
        · rw [upd_ne n2]
          exact s13 _ _ (s912 _ _ n1 (fr b o n1 n2 e))
      refine ⟨rfl, _, rfl, ite2 (fun cc => ?_) (fun cc => ?_)⟩
      · obtain ⟨w1, w2, w3⟩ := fin G12 r0 (Same.refl _) (.inl hr12)
        exact ⟨V.ref r0, rfl, V.ref hd, rfl, V.str (nmL c), rfl, hd, _, rfl, DPut.k (k := .inr (nmL c)) H12.dc (by omega), _, _, k12, lf12, _, rfl, by omega, u2, u3, w2, w1, w3⟩
      · refine ⟨V.ref r0, rfl, r0, _, rfl, .inl ⟨.inl (.inl hr12), fun z nz => ?_⟩⟩
        obtain ⟨w1, w2, w3⟩ := fin _ z (upd_new nz) (.inr upd_same)
        exact ⟨V.ref hd, rfl, V.str (nmL c), rfl, hd, _, rfl, DPut.k (k := .inr (nmL c)) (upd_new nz _ _ H12.dc) (by omega), _, _, k12, lf12, _, rfl, by omega, u2, u3, w2, w1, w3⟩
    rintro σ G9 ⟨x8, x9, k9, lf9, hk, rfl, c1, c2, c3, P9, H9, fr⟩
    rw [List.length_map, List.take_length] at H9
    rw [List.length_map] at c1
    clear fr
    -- the grove
    have T9 : Tabs T0 G9 := Tabs.pen T5 P5 H9.fr
    have hTold : Told ls nmL R n root := ⟨hL, six_okb ls h6, six_ascii ls h6, gd, n1, by omega, fun i hi => nmL_ok i (by omega), hrt⟩
    refine ⟨V.str ls, rfl, V.ref hd, rfl, V.str (nmL root), rfl, ?_⟩
    refine fun x dx nx ndx nxd => ?_
    have s10 : Same G9 (upd (upd G9 dx (.own x)) x (.ins CG dx [])) := fun b o e => by
      rw [upd_ne (ne_of_none e nx), upd_ne (ne_of_none e ndx)]
      exact e
    have hx10 : upd (upd G9 dx (.own x)) x (.ins CG dx []) x = some (.ins CG dx []) := upd_same
    generalize upd (upd G9 dx (.own x)) x (.ins CG dx []) = G10 at s10 hx10
    refine ⟨x, dx, hd, ls, nmL, R, n, root, cs, hk, rfl, hx10, hTold, s10 _ _ H9.dc, (H9.rules hcs n7).mono s10, fun Gc B frc fB gr => ⟨rfl, ?_⟩⟩
    have fB9 : ∀ b ∈ B, G9 b = none := fun b hb => by
      rcases fB b hb with e | e
      · rw [e]
        exact nx
      · cases z : G9 b with
        | none => rfl
        | some o =>
          rw [s10 _ _ z] at e
          cases e
    have s9c : Same G9 Gc := fun b o e => frc b o (ne_of_none e nx) (s10 _ _ e)
    have Tc : Tabs T0 Gc := Tabs.ext T9 s9c
    have Pc : PenAt Gc p l ns k9 lf9 := ⟨s9c _ _ P9.dc, s9c _ _ P9.ls⟩
    have pB : p ∉ B := fun z => by
      have e := fB9 p z
      rw [P9.dc] at e
      cases e
    have nhB : hd ∉ B := fun z => by
      have e := fB9 hd z
      rw [H9.dc] at e
      cases e
    have hdc := s9c _ _ H9.dc
    have C0 : ClrI p l hd ns k9 lf9 G5 Gc n hk B Gc := ⟨hdc, fun i hi => by
      obtain ⟨a, d, h1, h2, h3, h4, h5⟩ := H9.vs i (hcs.mem_iff.mpr (List.mem_range.mpr hi))
      exact ⟨a, d, _, _, h1, h2.elim (fun h => .inl (s9c _ _ h)) (fun h => .inr (s9c _ _ h)), ⟨_, s9c _ _ h3⟩, h4, (fun z => by
        have e := fB9 d z
        rw [h3] at e
        cases e), h5⟩, fun b o nb e => s9c _ _ (H9.fr b o nb e), fun _ _ e _ => e, fun _ _ _ e => e, Pc⟩
    -- the rules handed in are cleared
    refine ⟨V.ref hd, rfl, hd, hk, rfl, hdc, fun q2 nq2 => ?_⟩
    have ehk : (hk.map fun kv => kV kv.1) = cs.map fun i => V.str (nmL i) := by
      have z := congrArg (List.map kV) H9.ks
      rw [List.map_map, List.map_map] at z
      exact z
    rw [ehk]
    have C1 := C0.same (upd_new (o := .lst (cs.map fun i => V.str (nmL i))) nq2)
    have hq2 : upd Gc q2 (.lst (cs.map fun i => V.str (nmL i))) q2 = some (.lst (cs.map fun i => V.str (nmL i))) := upd_same
    generalize upd Gc q2 (.lst (cs.map fun i => V.str (nmL i))) = Gd at C1 hq2
    refine ⟨q2, rfl, ⟨_, .inl (.inl hq2)⟩, for_it (walk_list (K := K) (xs := cs.map fun i => V.str (nmL i))) (fun j σ G => ∃ (x8 : Option V), σ = [some (.ref a), some (.ref p), some (.int (0 + i)), some (.str ls), some (.ref D), some (.ref Ft), some (.str (nmL root)), some (.ref hd), x8, x9, some (.ref x), x11, x12, x13, x14, x15, x16] ∧ ClrI p l hd ns k9 lf9 G5 Gc n hk B G ∧ G q2 = some (.lst (cs.map fun i => V.str (nmL i))))
      ⟨_, rfl, C1, hq2⟩ (fun j σ G _ q => ?_) ?_ ?_⟩
    · obtain ⟨_, _, _, e⟩ := q
      exact .inl (.inl e)
    · rintro j y σ G G' hj ⟨x8, rfl, C, eq⟩ ⟨rfl, hy⟩
      have hjl : j < cs.length := by rwa [List.length_map] at hj
      obtain ⟨c, hc⟩ : ∃ c, cs[j]? = some c := ⟨_, List.getElem?_eq_getElem hjl⟩
      have ey : y = V.str (nmL c) := by
        rw [List.getElem?_map, hc] at hy
        exact (Option.some.inj hy).symm
      subst ey
      have hcn := csl c (List.mem_of_getElem? hc)
      obtain ⟨a1, d1, m1, m2, h1, h2, ⟨ks, h3⟩, h4, h5, h6⟩ := C.vs c hcn
      have dgc := DGet.k (k := (.inr (nmL c) : Key)) C.dc
      rw [h1] at dgc
      refine ⟨V.ref hd, rfl, V.str (nmL c), rfl, hd, _, rfl, dgc, rIx_rows (j := 2) h2 rfl ⟨.inr (.inr (.inl ⟨rfl, .inl ⟨_, h3⟩⟩)), d1, ks, rfl, rfl, h3, ?_⟩⟩
      exact ⟨_, rfl, C.clear P5 h3 h4 h5 h6, by rw [upd_ne (ne_of eq h3 (by intro z; cases z))]; exact eq⟩
    rintro σ G11 ⟨x8, rfl, C, _⟩
    refine ⟨V.ref hd, rfl, .inr (.inr (.inl ⟨rfl, .inl ⟨_, C.dc⟩⟩)), hd, hk, rfl, rfl, C.dc, ?_⟩
    have I12 : LawI K CG T0 p l ns ls R n root D kvs A (.ref x) B k9 lf9 (upd G11 hd (.dK [])) := by
      refine ⟨⟨by rw [upd_ne (Ne.symm nhp)]; exact C.pen.dc, by rw [upd_ne (ne_of_none P5.ls nhd)]; exact C.pen.ls⟩, ?_, ?_, pA, ?_, pB⟩
      · exact Tabs.fr Tc fun b o e n _ => by
          rw [upd_ne (fun z => by rw [z, hdc] at e; exact n _ (Option.some.inj e).symm)]
          exact C.nd b o e n
      · exact own5.keep fun b hb o e _ => by
          rw [upd_ne (ne_of_none e nhd)]
          exact C.fr b o (fun z => pA (z ▸ hb)) e
      · exact gr.keep fun b hb o e _ => by
          rw [upd_ne (fun z : b = hd => nhB (by rw [← z]; exact hb))]
          exact C.gB b hb o e
    clear C C0 C1 hq2 H9 s9c frc gr hdc Tc Pc
    generalize upd G11 hd (.dK []) = G12 at I12
    -- the rows
    refine ⟨V.str ls, rfl, V.ref D, rfl, V.str (nmL root), rfl, D, ls, nmL, R, n, root, List.range n, kvs, A, rfl, hTold, by omega, I12.own, fun G13 b xs s13 nb hb hda => ?_⟩
    have I13 := I12.same s13
    obtain ⟨og, xg, dxg, Dg, Szg, Myg, fsg, kg, ksg, kmg, exg, Gg⟩ := id I13.gr
    cases exg
    refine ⟨V.ref x, rfl, x, CG, dxg, _, _, rfl, Gg.ins, R0.cl, R0.na _ (by simp [sev7]), Gg.f4, V.ref x, rfl, x, CG, dxg, _, _, rfl, Gg.ins, R0.cl, R0.na _ (by simp [sev7]), Gg.f5, V.ref x, rfl, x, dxg, fsg, rfl, Gg.ins, .ref x, ls, nmL, R, n, root, B, rfl, I13.gr, hTold, fun G14 ord2 O2 kv2 A2 s14 _ own2 => ⟨(by show 3 ≤ sizeLine; decide), fun t1 nt1 => ?_⟩⟩
    have s15 := upd_new (o := .tup [V.str ls, V.str (nmL root), V.ref O2]) nt1
    have ht1 : upd G14 t1 (.tup [V.str ls, V.str (nmL root), V.ref O2]) t1 = some (.tup [V.str ls, V.str (nmL root), V.ref O2]) := upd_same
    generalize upd G14 t1 (.tup [V.str ls, V.str (nmL root), V.ref O2]) = G15 at s15 ht1
    refine ⟨V.str ls, rfl, V.str (nmL root), rfl, V.ref D, rfl, (by show 3 ≤ sizeLine; decide), fun t2 nt2 => ?_⟩
    have s16 := upd_new (o := .tup [V.str ls, V.str (nmL root), V.ref D]) nt2
    have ht2 : upd G15 t2 (.tup [V.str ls, V.str (nmL root), V.ref D]) t2 = some (.tup [V.str ls, V.str (nmL root), V.ref D]) := upd_same
    have ht1 := s16 _ _ ht1
    generalize upd G15 t2 (.tup [V.str ls, V.str (nmL root), V.ref D]) = G16 at s16 ht1 ht2
    have s1316 := s14.trans (s15.trans s16)
    have I16 := I13.same s1316
    have own16 := own2.keep (Kp.of (s15.trans s16))
    refine ⟨3, by decide, .inl ⟨t1, t2, _, _, rfl, rfl, .inl (.inl ht1), .inl (.inl ht2), .cons (.inl ⟨rfl, rfl⟩) (.cons (.inl ⟨rfl, rfl⟩) (.cons (.inr (own_alike gd own16 I16.own)) .nil))⟩, false, rfl, iteF ?_⟩
    -- told rules are the caller's own
    have g16 := Gg.keep (Kp.of s1316)
    refine ⟨V.ref x, rfl, x, dxg, fsg, rfl, g16.ins, .ref x, ls, nmL, R, n, root, B, rfl, I16.gr, hTold, fun G17 ord3 O3 kv3 A3 s17 fA3 own3 => ?_⟩
    obtain ⟨t3, d3, w1, w2, w3, w4, w5, w6⟩ := own3.vs root hrt
    have dg3 := DGet.k (k := (.inr (nmL root) : Key)) own3.dc
    rw [w1] at dg3
    refine ⟨V.ref O3, rfl, V.str (nmL root), rfl, O3, _, rfl, dg3, rIx_rows (j := 2) (.inr w2) rfl ⟨.inr (.inr (.inl ⟨rfl, .inl ⟨_, w3⟩⟩)), d3, _, rfl, rfl, w3, ?_⟩⟩
    have hO3 : upd G17 d3 (.dK []) O3 = some (.dK kv3) := by
      rw [upd_ne (Ne.symm w6)]
      exact own3.dc
    refine ⟨V.ref O3, rfl, .inr (.inr (.inl ⟨rfl, .inl ⟨_, hO3⟩⟩)), O3, kv3, rfl, rfl, hO3, ?_⟩
    have s18 : Same G16 (upd (upd G17 d3 (.dK [])) O3 (.dK [])) := fun b' o e => by
      rw [upd_ne (ne_of_none e (fA3 _ own3.oa)), upd_ne (ne_of_none e (fA3 _ w5))]
      exact s17 _ _ e
    generalize upd (upd G17 d3 (.dK [])) O3 (.dK []) = G18 at s18
    have s1318 := s1316.trans s18
    have I18 := I13.same s1318
    refine ⟨V.ref x, rfl, x, dxg, fsg, rfl, (Gg.keep (Kp.of s1318)).ins, .ref x, ls, nmL, R, n, root, B, rfl, I18.gr, hTold, fun G19 ord4 O4 kv4 A4 s19 _ own4 => ?_⟩
    have s1319 := s1318.trans s19
    have I19 := I13.same s1319
    refine ⟨V.ref D, rfl, 2, by decide, own_alike gd own4 I19.own, false, rfl, iteF ?_⟩
    have hb19 := s1319 _ _ hb
    have hda19 := de_monoAll s1319 _ _ hda
    refine ⟨V.ref x, rfl, V.str ls, rfl, V.ref b, rfl, .ref x, ls, nmL, R, n, root, B, b, xs, rfl, I19.gr, hTold, by omega, hb19, hda19, I19.tab, fun G20 e20 T20 => ⟨_, rfl, iteF ?_⟩⟩
    have I20 := I19.ext e20 T20
    have hb20 := e20 _ _ hb19 (fun _ z => nomatch z)
    have hda20 := de_extAll e20 hda19
    have hxl : xs.length = sz R root := by
      have z := deAll_len hda20
      rwa [List.length_map, spots_len gd] at z
    have hx0 : 0 < sz R root := by
      rw [sz_eq gd]
      omega
    -- words
    refine ⟨8, rfl, by decide, by decide, for_it walk_range (fun j σ G => ∃ (x13 x14 x15 : Option V) (k lf : Int), σ = [some (.ref a), some (.ref p), some (.int (0 + i)), some (.str ls), some (.ref D), some (.ref Ft), some (.str (nmL root)), some (.ref hd), x8, x9, some (.ref x), some (.ref b), some (.ref O3), x13, x14, x15, x16] ∧ k ≤ k9 + 10 * j ∧ 0 ≤ k ∧ 0 ≤ lf ∧ LawI K CG T0 p l ns ls R n root D kvs A (.ref x) B k lf G ∧ G b = some (.lst xs) ∧ DeAll K G xs ((spots ls R root).map rowD))
      ⟨_, _, _, k9, lf9, rfl, by omega, c2, c3, I20, hb20, hda20⟩ (fun _ _ _ _ _ => trivial) ?_ ?_⟩
    · rintro j y σ G21 G' hj ⟨x13, x14, x15, kj, lfj, rfl, d1, d2, d3, I, hb, hda⟩ ⟨rfl, rfl⟩
      have hj' : j < 8 := hj
      have nbp : b ≠ p := ne_of hb I.pen.dc (by intro z; cases z)
      refine ⟨V.ref p, rfl, V.ref b, rfl, p, l, .ref b, ns, kj, lfj, xs, rfl, I.pen, hn, d2, by omega, d3, .inl ⟨b, rfl, hb⟩, by omega, by omega, fun G22 k22 lf22 v r1 r2 r3 hv s22 P22 => ?_⟩
      have I22 := I.draw s22 P22
      have hb22 := s22 _ _ nbp hb
      have hda22 := DeAll.pen I.pen s22 hda
      obtain ⟨m, hm⟩ := List.mem_iff_getElem?.mp hv
      obtain ⟨dd, hdd, hde⟩ := deAll_at hda22 hm
      rw [List.getElem?_map] at hdd
      obtain ⟨s0, hs0, rfl⟩ : ∃ s0, (spots ls R root)[m]? = some s0 ∧ dd = rowD s0 := by
        cases e : (spots ls R root)[m]? with
        | none =>
          rw [e] at hdd
          cases hdd
        | some s0 =>
          rw [e] at hdd
          exact ⟨s0, rfl, (Option.some.inj hdd).symm⟩
      obtain ⟨t0, rfl, ht0⟩ := de_row (s := s0) hde
      have ho := spots_over hTold (List.mem_of_getElem? hs0)
      have hsz := ho.1
      refine ⟨t0, _, 0, .str s0.1, rfl, rfl, .inl (.inl ht0), rfl, V.ref p, rfl, p, l, ns, k22, lf22, 6, rfl, P22, hn, r2, by omega, r3, by decide, by decide, fun G23 k23 lf23 d23 v1 v2 v3 v4 v5 s23 P23 => ⟨d23, rfl, s0.1, rfl, (by show s0.1.cps.size ≤ sizeLine; omega), ?_⟩⟩
      obtain ⟨e, rfl⟩ : ∃ e : Nat, d23 = (e : Int) := ⟨d23.toNat, (Int.toNat_of_nonneg v4).symm⟩
      have I23 := I22.draw s23 P23
      have hb23 := s23 _ _ nbp hb22
      have hda23 := DeAll.pen P22 s23 hda22
      have ecut := cut_take s0.1 e
      generalize hpl : cutS s0.1 none (some (e : Int)) = pl at ecut
      have hpz : pl.cps.size ≤ 5 := by
        rw [← Array.length_toList, ecut, List.length_take]
        omega
      have hpm : ∀ c ∈ pl.cps.toList, c ∈ ls.cps.toList := fun c hc => by
        rw [ecut] at hc
        exact ho.2 c (List.mem_of_mem_take hc)
      refine ⟨V.str pl, rfl, rfl, V.ref p, rfl, p, l, ns, k23, lf23, 3, rfl, P23, hn, v2, by omega, v3, by decide, by decide, fun G24 k24 lf24 d24 u1 u2 u3 u4 u5 s24 P24 => ?_⟩
      refine ⟨d24, rfl, by omega, by omega, fun D2 nD2 => lc_it walk_range (fun j G4 => ∃ (k4 lf4 : Int) (cs : List Nat), k4 ≤ k24 + j ∧ 0 ≤ k4 ∧ 0 ≤ lf4 ∧ PenAt G4 p l ns k4 lf4 ∧ SameBut p G24 G4 ∧ G4 D2 = some (.lst ((cs.map fun c => (⟨#[c]⟩ : Str)).map V.str)) ∧ cs.length = j ∧ ∀ c ∈ cs, c ∈ ls.cps.toList)
        ⟨k24, lf24, [], by omega, u2, u3, ⟨upd_new nD2 _ _ P24.dc, upd_new nD2 _ _ P24.ls⟩, .of (upd_new nD2), upd_same, rfl, fun c hc => absurd hc (by simp)⟩ (fun _ _ _ _ => trivial) ?_ ?_⟩
      · rintro jj x G4 G5 hjj ⟨k4, lf4, cs, i1, i2, i3, P4, s4, h4, hcs, hC⟩ ⟨rfl, rfl⟩
        have hlo := hL.lo
        have h26 := hL.hi
        refine ⟨rfl, V.ref p, rfl, V.str ls, rfl, p, l, .str ls, ns, k4, lf4, _, rfl, P4, hn, i2, by omega, i3, .inr ⟨_, rfl, rfl⟩, by rw [List.length_map, Array.length_toList]; omega, by rw [List.length_map, Array.length_toList]; omega, fun G6 k6 lf6 y j1 j2 j3 hy s6 P6 => ?_⟩
        obtain ⟨c, hc, rfl⟩ := List.mem_map.mp hy
        have nDp : D2 ≠ p := ne_of h4 P4.dc (by intro z; cases z)
        have hD6 := s6 _ _ nDp h4
        refine ⟨_, hD6, ?_, k6, lf6, cs ++ [c], ?_, j2, j3, ⟨?_, ?_⟩, ?_, ?_, ?_, ?_⟩
        · rw [List.length_map, List.length_map, hcs]
          omega
        · have z : ((jj + 1 : Nat) : Int) = (jj : Int) + 1 := by omega
          omega
        · rw [upd_ne (Ne.symm nDp)]
          exact P6.dc
        · rw [upd_ne (ne_of_none P24.ls nD2)]
          exact P6.ls
        · intro c o hc e
          rw [upd_ne (ne_of_none e nD2)]
          exact s6 _ _ hc (s4 _ _ hc e)
        · rw [List.map_append, List.map_append]
          exact upd_same
        · rw [List.length_append, hcs]
          rfl
        · intro z hz
          rcases List.mem_append.mp hz with hz | hz
          · exact hC z hz
          · obtain rfl : z = c := by simpa using hz
            exact hc
      · rintro G25 ⟨k25, lf25, ws, i1, i2, i3, P25, s25, h25, hws, hW⟩
        have hc2 : ws.length ≤ 2 := by omega
        refine ⟨"", D2, _, rfl, rfl, .inl (.inl (.inl h25)), ?_, ?_⟩
        · rw [sum_ones]
          have z : (Str.ofString "").length = 0 := by decide
          rw [z]
          omega
        rw [txt_join_chars]
        have I25 := (I23.draw s24 P24).draw s25 P25
        have hb25 := s25 _ _ nbp (s24 _ _ nbp hb23)
        have hda25 := DeAll.pen P24 s25 (DeAll.pen P23 s24 hda23)
        have how : OverL ls (pl ++ ⟨ws.toArray⟩) := by
          refine ⟨?_, fun c hc => ?_⟩
          · show (pl.cps ++ ws.toArray).size ≤ 200
            have z : ws.toArray.size = ws.length := rfl
            rw [Array.size_append]
            omega
          · have hc : c ∈ (pl.cps ++ ws.toArray).toList := hc
            rw [Array.toList_append, List.mem_append] at hc
            rcases hc with hc | hc
            · exact hpm c hc
            · exact hW c (by simpa using hc)
        refine ⟨pl, ⟨ws.toArray⟩, rfl, rfl, (by show pl.cps.size + ws.toArray.size ≤ sizeLine; have z : ws.toArray.size = ws.length := rfl; omega), ?_⟩
        refine ⟨V.ref x, rfl, V.str ls, rfl, V.ref b, rfl, V.str (pl ++ ⟨ws.toArray⟩), rfl, .ref x, _, ls, nmL, R, n, root, B, b, xs, rfl, I25.gr, hTold, by omega, hb25, hda25, how, I25.tab, fun G26 e26 T26 => ⟨_, rfl, iteF ?_⟩⟩
        exact ⟨_, _, _, k25, lf25, rfl, by omega, i2, i3, I25.ext e26 T26, e26 _ _ hb25 (fun _ z => nomatch z), de_extAll e26 hda25⟩
    rintro σ G27 ⟨x13, x14, x15, kj, lfj, rfl, d1, d2, d3, I, _, _⟩
    exact ⟨_, _, _, _, _, _, _, _, _, _, _, _, _, _, _, kj, lfj, rfl, by omega, d2, d3, I.pen, I.tab⟩
end
end SK
namespace SK
open PySem PySem.Spec PyProof.Rows L2 LamX NdefX
/-! ### the law's call, some tables of code objects beside the script -/
abbrev EndOk (h : Heap) (os : OsState) (r : Result) (s' : Shared) : Prop := r = .ok (.ret (.bool true)) ∧ PySem.OldK h s'.heap ∧ s'.os = os ∧ AllBare s'.gens
def tabObj : Obj := { cls := .none, data := .fields #[] }
section
variable {P : Program} {w : World} {K : PySem.W.Frag} {mg mb : Str → Option Value} {fa a : Addr} {s : Shared} {H : Hp} {vs : List Value} {ns : List Int} {lv : Nat} {sp : Sp} {ps : List (Addr × Addr)} {T : List (Addr × Str)}
theorem run_lawA (D : ∀ base : Heap, K.In base → base.Ns mainGlobals mg → (∀ p ∈ ps, TabB base mg p.1 p.2) → ∃ fd, Binds K fd ["script"] [] ∧ FnG P w K mg base CX0 lv fa fd ["script"] sp) (room : Room lv PySem.callerA)
    (hsp : ∀ (H : Hp) (a : Addr) (ns : List Int), SqL K H a (ns.map V.int) → ns.length ≤ 63 → Tabs T H → sp [.ref a] H (fun v _ => v = .bl true) E0)
    (hT : ∀ p ∈ T, p.1 ∈ ps.map (·.2)) (KX : K.In s.heap) (hm : s.heap.Ns mainGlobals mg) (hb : s.heap.Ns builtinsNs mb) (hbb : ∀ x : Str, x ≠ "__name__" → mb x = bootBuiltins x)
    (hlim : s.heap.NoLimit) (hgens : s.gens = #[]) (hPt : ∀ P ∈ ps.map (·.2), s.heap.get? P = some tabObj) (nPt : ∀ P ∈ ps.map (·.2), K.lookup P = none) (hC : ∀ p ∈ ps, PySem.W.CodeHd s.heap p.1 p.2)
    (hbm : ∃ (bm : Addr) (ob : Obj), mg "__builtins__" = some (.ref bm) ∧ bm ≠ builtinsNs ∧ s.heap.get? bm = some ob ∧ ob.cls = .type "module" ∧ ob.dict = some builtinsNs ∧ ob.data = .plain)
    (ha : s.heap.get? a = some { cls := .type "list", data := .seq vs.toArray }) (hn : ns.length ≤ 63) (hS : SqL K H a (ns.map V.int)) (ok : HOk P w H s.heap) (hHP : ∀ P ∈ ps.map (·.2), H P = some (.tbl #[]))
    (hO : ∀ b, H b = none ∨ b ∈ ps.map (·.2) ∨ (b = a ∧ ∃ o xs, H b = some (.frz o (.lst xs)))) (hK : H a ≠ none → K.lookup a = none) :
    codeAny (model P w) PySem.callerA (.call (.ref fa) ⟨[.ref a], []⟩) (EndOk s.heap s.os) s := by
  have free : ∀ {b : Addr} {o : Obj}, s.heap.get? b = some o → (∀ vs n, o.data ≠ .seq vs n) → o.data ≠ .fields #[] → H b = none := fun {b o} e h1 h2 => by
    rcases hO b with z | z | ⟨rfl, _⟩
    · exact z
    · rw [hPt b z] at e
      have e' := Option.some.inj e
      subst e'
      exact absurd rfl h2
    · rw [ha] at e
      have e' := Option.some.inj e
      subst e'
      exact absurd rfl (h1 _ _)
  have dicts : ∀ {b : Addr} {m : Str → Option Value}, s.heap.Ns b m → (hidT s.heap H).Ns b m := fun {b m} ⟨o, es, ep, e, d, r⟩ =>
    ⟨o, es, ep, hidT_get e (free e (fun vs n z => by rw [d] at z; cases z) fun z => by rw [d] at z; cases z), d, r⟩
  have Kb : K.In (hidT s.heap H) := fun b o e => by
    refine hidT_get (KX b o e) ?_
    rcases hO b with z | z | ⟨rfl, o', xs, z⟩
    · exact z
    · rw [nPt b z] at e
      cases e
    · rw [hK (by rw [z]; exact fun z => nomatch z)] at e
      cases e
  have M : Mod K mg (hidT s.heap H) := ⟨Kb, dicts hm, ⟨mb, dicts hb, hbb⟩, by
    obtain ⟨mc, h1, h2⟩ := hlim
    exact ⟨mc, dicts h1, h2⟩⟩
  have noG : ∀ P ∈ ps.map (·.2), mainGlobals ≠ P := fun P hP z => by
    obtain ⟨o, es, ep, e, d, _⟩ := hm
    rw [z, hPt P hP] at e
    have e' := Option.some.inj e
    subst e'
    cases d
  have TB : ∀ p ∈ ps, TabB (hidT s.heap H) mg p.1 p.2 := fun p hp => by
    have hp2 : p.2 ∈ ps.map (·.2) := List.mem_map.mpr ⟨p, hp, rfl⟩
    refine ⟨?_, ?_, noG _ hp2⟩
    · obtain ⟨o, us, file, tf, flags, tg, inF, text, tt, e1, r1, r2, r3, rest⟩ := hC p hp
      refine ⟨o, us, file, tf, flags, tg, inF, text, tt, hidT_get e1 (free e1 (fun vs n z => ?_) fun z => ?_), r1, r2, r3, rest⟩
      · rw [r2] at z
        cases z
      · rw [r2] at z
        injection z with z
        subst z
        simp at r3
    · obtain ⟨bm, ob, b1, b2, b3, b4, b5, b6⟩ := hbm
      refine ⟨bm, ob, b1, b2, fun z => ?_, fun z => ?_, hidT_get b3 (free b3 (fun vs n z => by rw [b6] at z; cases z) fun z => by rw [b6] at z; cases z), b4, b5, b6⟩
      · obtain ⟨o, es, ep, e, d, _⟩ := hm
        rw [z, e] at b3
        have e' := Option.some.inj b3
        subst e'
        rw [d] at b6
        cases b6
      · rw [z, hPt _ hp2] at b3
        have e' := Option.some.inj b3
        subst e'
        cases b6
  have e0 : Env0 P w K mg (hidT s.heap H) PySem.callerA [] s H := ⟨rfl, M, fun b o e => of_hidT e, Nat.le_of_eq (hidT_size _ _), trivial, fun b z => (by cases z), ok, AllBare.of_eq hgens⟩
  have tabs : Tabs T H := fun p hp => TabS.nil (hHP _ (hT p hp))
  obtain ⟨fd, b, G⟩ := D _ Kb (dicts hm) TB
  have back : ∀ b o, (hidT s.heap H).get? b = some o → s.heap.get? b = some o := fun b o e => (e0.bs b o e).1
  have bb := b s [Value.ref a] (e0.mod.kin.keeps back) (by rfl)
  refine codeAny_mono (G.run PySem.callerA [] s H ⟨[.ref a], []⟩ [.ref a] [V.ref a] _ E0 rfl room e0 bb (.cons rfl .nil) (hsp H a ns hS hn tabs)) fun r s' h => ?_
  cases r with
  | error e => exact h.elim
  | ok fl =>
    cases fl with
    | next => exact False.elim h
    | brk => exact False.elim h
    | cont => exact False.elim h
    | ret u =>
      obtain ⟨v, H', os, bare, un, ok', rv, qv⟩ := h
      have qv : v = .bl true := qv
      subst qv
      obtain rfl : u = Value.bool true := rv
      have grown : ∀ P ∈ ps.map (·.2), ∃ more : Array Value, s'.heap.get? P = some { cls := .none, data := .fields more } := fun P hP => by
        obtain ⟨more, z⟩ := un.tbls P #[] (hHP P hP)
        exact ⟨_, ok' P _ z⟩
      have same : ∀ b o, b ∉ ps.map (·.2) → s.heap.get? b = some o → s'.heap.get? b = some o := fun b o nb e => by
        rcases hO b with z | z | ⟨_, ob, xs, z⟩
        · exact un.keep b o e z (fun z => (by cases z)) (fun z => (by cases z))
        · exact absurd z nb
        · obtain ⟨f1, _⟩ := ok b _ z
          obtain ⟨f2, _⟩ := ok' b _ (un.frzs b ob _ z)
          rw [e] at f1
          cases f1
          exact f2
      refine ⟨rfl, ⟨fun b o e => ?_, fun b o e => ?_⟩, os, bare⟩
      · by_cases hbP : b ∈ ps.map (·.2)
        · obtain ⟨p, hp, rfl⟩ := List.mem_map.mp hbP
          rw [hPt _ hbP] at e
          have e' := Option.some.inj e
          subst e'
          obtain ⟨more, hmore⟩ := grown _ hbP
          exact .inr (.inl ⟨((hC p hp).tab (hPt _ hbP)).isCodeTable, rfl, #[], more, rfl, by rw [Array.empty_append]; exact hmore⟩)
        · exact .inl (same b o hbP e)
      · by_cases hbP : b ∈ ps.map (·.2)
        · obtain ⟨more, hmore⟩ := grown _ hbP
          exact ⟨_, hmore⟩
        · exact ⟨o, same b o hbP e⟩
theorem run_lawG (D : ∀ base : Heap, K.In base → base.Ns mainGlobals mg → (∀ p ∈ ps, TabB base mg p.1 p.2) → ∃ fd, Binds K fd ["script"] [] ∧ FnG P w K mg base CX0 lv fa fd ["script"] sp) (room : Room lv PySem.callerA)
    (hsp : ∀ (H : Hp) (a : Addr) (ns : List Int), SqL K H a (ns.map V.int) → ns.length ≤ 63 → Tabs T H → sp [.ref a] H (fun v _ => v = .bl true) E0)
    (hT : ∀ p ∈ T, p.1 ∈ ps.map (·.2)) (KX : K.In s.heap) (hm : s.heap.Ns mainGlobals mg) (hb : s.heap.Ns builtinsNs mb) (hbb : ∀ x : Str, x ≠ "__name__" → mb x = bootBuiltins x)
    (hlim : s.heap.NoLimit) (hgens : s.gens = #[]) (hPt : ∀ P ∈ ps.map (·.2), s.heap.get? P = some tabObj) (nPt : ∀ P ∈ ps.map (·.2), K.lookup P = none) (hC : ∀ p ∈ ps, PySem.W.CodeHd s.heap p.1 p.2)
    (hbm : ∃ (bm : Addr) (ob : Obj), mg "__builtins__" = some (.ref bm) ∧ bm ≠ builtinsNs ∧ s.heap.get? bm = some ob ∧ ob.cls = .type "module" ∧ ob.dict = some builtinsNs ∧ ob.data = .plain)
    (ha : s.heap.get? a = some { cls := .type "list", data := .seq vs.toArray }) (hi : IntsAre vs ns) (hn : ns.length ≤ 63) :
    codeAny (model P w) PySem.callerA (.call (.ref fa) ⟨[.ref a], []⟩) (EndOk s.heap s.os) s := by
  have rv := vals_ints hi
  have lv := hi.length
  have z63 : (63 : Nat) ≤ sizeLine := by decide
  have hz : ns.length ≤ sizeLine := Nat.le_trans hn z63
  have nap : a ∉ ps.map (·.2) := fun z => by
    have e := hPt a z
    rw [ha] at e
    have e := congrArg Obj.data (Option.some.inj e)
    cases e
  let lo : HO := .frz { cls := .type "list", data := .seq vs.toArray } (.lst (ns.map V.int))
  by_cases hk : K.lookup a = none
  · let H0 : Hp := fun b => if b = a then some lo else if b ∈ ps.map (·.2) then some (.tbl #[]) else none
    have ea : H0 a = some lo := if_pos rfl
    have eP : ∀ P ∈ ps.map (·.2), H0 P = some (.tbl #[]) := fun P hP => (if_neg (show ¬ P = a from fun z => nap (by rw [← z]; exact hP))).trans (if_pos hP)
    have en : ∀ b, b ≠ a → b ∉ ps.map (·.2) → H0 b = none := fun b n m => (if_neg n).trans (if_neg m)
    refine run_lawA (H := H0) D room hsp hT KX hm hb hbb hlim hgens hPt nPt hC hbm ha hn (.inl (.inr ⟨_, ea⟩)) (fun b u z => ?_) eP (fun b => ?_) fun _ => hk
    · by_cases h : b = a
      · subst h
        rw [ea] at z
        cases z
        exact ⟨ha, by rw [List.length_map]; exact hz, vs, _, rv, ha⟩
      · by_cases m : b ∈ ps.map (·.2)
        · rw [eP b m] at z
          cases z
          exact hPt b m
        · rw [en b h m] at z
          cases z
    · by_cases h : b = a
      · subst h
        exact .inr (.inr ⟨rfl, _, _, ea⟩)
      · by_cases m : b ∈ ps.map (·.2)
        · exact .inr (.inl m)
        · exact .inl (en b h m)
  · obtain ⟨o, ho⟩ := Option.ne_none_iff_exists'.mp hk
    have e := KX a o ho
    rw [ha] at e
    cases e
    let H1 : Hp := fun b => if b ∈ ps.map (·.2) then some (.tbl #[]) else none
    have eP : ∀ P ∈ ps.map (·.2), H1 P = some (.tbl #[]) := fun P hP => if_pos hP
    have en : ∀ b, b ∉ ps.map (·.2) → H1 b = none := fun b m => if_neg m
    refine run_lawA (H := H1) D room hsp hT KX hm hb hbb hlim hgens hPt nPt hC hbm ha hn (.inr ⟨_, vs.toArray, _, ho, rfl, rfl, rfl, by rw [List.size_toArray, lv]; exact hz, by simpa using rv⟩) (fun b u z => ?_) eP (fun b => ?_) fun z => absurd (en a nap) z
    · by_cases m : b ∈ ps.map (·.2)
      · rw [eP b m] at z
        cases z
        exact hPt b m
      · rw [en b m] at z
        cases z
    · by_cases m : b ∈ ps.map (·.2)
      · exact .inr (.inl m)
      · exact .inl (en b m)
end
end SK
namespace SK
open PySem PySem.Spec PyProof.Rows L2 LamX NdefX
open K0 (De DeAll XCl spX withX)
/-! ### what the top leaves, as one test -/
def clsB (K : PySem.W.Frag) (C : Addr) : Bool := match K.lookup C with
  | some ⟨.type "type", _, .cls cd, sl⟩ => (match cd.mro, sl.toList with
    | .ref D :: bm, [_, _, _, _, some (.builtin n), _] => decide (D = C) && (decide (n = "ValueError.__new__") && (!cd.hasDel && (cd.hasDict && PySem.HandSPX.refsVE bm)))
    | _, _ => false)
  | _ => false
theorem clsB_ok {K : PySem.W.Frag} {C : Addr} (h : clsB K C = true) : ∃ nm q N bs bm sn sub ab col dd k0 k1 k2 k3 k5, K.lookup C = some (excClassObj nm q C N bs bm true sn sub ab col dd k0 k1 k2 k3 k5 "ValueError.__new__") ∧ PySem.HandSPX.refsVE bm = true := by
  unfold clsB at h
  split at h
  · rename_i dd cd sl ho
    split at h
    · rename_i D bm k0 k1 k2 k3 n k5 hm hs
      simp only [Bool.and_eq_true, decide_eq_true_eq, Bool.not_eq_true'] at h
      obtain ⟨rfl, rfl, hdel, hd, hv⟩ := h
      obtain ⟨nm, bs, mro, ns, qn, hdc, sn, sub, ab, col, del⟩ := cd
      dsimp only at hm hdel hd
      subst hm hdel hd
      have e : sl = #[k0, k1, k2, k3, some (.builtin "ValueError.__new__"), k5] := by
        obtain ⟨l⟩ := sl
        simp only at hs
        rw [hs]
      subst e
      exact ⟨nm, qn, ns, bs, bm, sn, sub, ab, col, dd, k0, k1, k2, k3, k5, ho, hv⟩
    · cases h
  · cases h
def xB (K : PySem.W.Frag) (C : Addr) : Bool :=
  clsB K C && (decide (PySem.W.findIn K (.ref C) "__setattr__" = some (some (.builtin "object.__setattr__"))) && (decide (PySem.W.subIn K (.ref C) (.type "BaseException") = some true) && (decide (PySem.W.typeIn K (.ref C) = some (.type "type")) && (PySem.W.keepIn K (.ref C) &&
    (decide (PySem.W.findIn K (.ref C) "__getattribute__" = some (some (.builtin "BaseException.__getattribute__"))) && (decide (PySem.W.findIn K (.ref C) "__getattr__" = some none) && (PySem.W.hasDictIn K C && (decide (PySem.W.findIn K (.ref C) "__class__" = some (some (.builtin "object.__class__"))) &&
      (decide (PySem.W.specialIn K (.builtin "object.__class__") "__get__" = some (some (.builtin "getset_descriptor.__get__"))) && (decide (PySem.W.takesIn K (.builtin "object.__class__") = some true) && decide (PySem.W.mroIn K C (.type "object") = some true)))))))))))
theorem xB_ok {K : PySem.W.Frag} {C : Addr} (h : xB K C = true) : XCl K C := by
  simp only [xB, Bool.and_eq_true, decide_eq_true_eq] at h
  obtain ⟨h1, h2, h3, h4, h5, h6, h7, h8, h9, h10, h11, h12⟩ := h
  exact ⟨⟨clsB_ok h1, h2, h3, h4, h5⟩, h6, h7, h8, h9, h10, h11, h12⟩
def iniB (K : PySem.W.Frag) (x : Str) (fs : List Str) : Bool :=
  decide (PySem.W.findIn K (.ref (He.ga K x)) "__init__" = some (some (.ref (He.ma K (He.ga K x) "__init__")))) && (decide (PySem.W.typeIn K (.ref (He.ma K (He.ga K x) "__init__")) = some (.type "function")) && fs.all fun n => decide (PySem.W.findIn K (.ref (He.ga K x)) n = some none))
theorem put_old {H : Hp} {C a dx : Addr} {fs gs : List (Str × V)} (ne : dx ≠ a) : upd (withX H C a dx fs) dx (exd dx gs) = withX H C a dx gs := by
  funext b
  show upd (upd (upd H dx _) a _) dx _ b = upd (upd H dx _) a _ b
  by_cases hd : b = dx
  · rw [hd, upd_same, upd_ne ne, upd_same]
  · rw [upd_ne hd]
    by_cases ha : b = a
    · rw [ha, upd_same, upd_same]
    · rw [upd_ne ha, upd_ne ha, upd_ne hd, upd_ne hd]
section
variable {P : Program} {w : World} {K : PySem.W.Frag} {mg : Str → Option Value} {base : Heap} {f C : Addr} {fd : FuncData}
theorem sc_BadLetters : FnScope ["self", "letters"] ["self", "letters"] (defScope (inClass (top 11) 0)) := ⟨rfl, rfl, rfl, by decide +kernel, rfl, by decide +kernel, by decide +kernel⟩
theorem ok_BadLetters (F : Fun K "__init__" "BadLetters.__init__" (inClass (top 11) 0) f fd) (T : OexC K C) (no : ∀ n ∈ (["letters"] : List Str), PySem.W.findIn K (.ref C) n = some none) : FnOk P w K mg base CX0 1 f fd ["self", "letters"] (spX C ["letters"]) := by
  refine F.ok sc_BadLetters (fun vs H Q E h => ?_) (fun cdv A outer s H vs Q E hr h => ?_)
  · obtain ⟨a, ys, rfl, hl, _⟩ := h
    exact congrArg Nat.succ hl
  · obtain ⟨a, ys, rfl, hl, ha, k⟩ := h
    match ys, hl with
    | [y0], _ =>
      refine ⟨_, pss_one (ps_ost (pv 0) (pv 1)), ?_⟩
      refine ⟨y0, rfl, .ref a, rfl, a, C, rfl, T, (no _ (by simp)), .inl ⟨ha, fun dx nd ne => ?_⟩⟩
      exact k dx nd ne
theorem xr_BadLetters (F : Fun K "__init__" "BadLetters.__init__" (inClass (top 11) 0) f fd) (cl : XCl K C) (gC : mg "BadLetters" = some (.ref C)) (iC : PySem.W.findIn K (.ref C) "__init__" = some (some (.ref f)))
    (tI : PySem.W.typeIn K (.ref f) = some (.type "function")) (no : ∀ n ∈ (["letters"] : List Str), PySem.W.findIn K (.ref C) n = some none) : XR P w K mg base "BadLetters" C ["letters"] :=
  ⟨cl, gC, no, f, fd, iC, tI, ok_BadLetters F cl.T no, Fun.binds F fun _ _ _ _ _ _ us hl => match us, hl with | [_, _], _ => rfl⟩
theorem sc_TooMany : FnScope ["self", "what", "many", "most"] ["self", "what", "many", "most"] (defScope (inClass (top 12) 0)) := ⟨rfl, rfl, rfl, by decide +kernel, rfl, by decide +kernel, by decide +kernel⟩
theorem ok_TooMany (F : Fun K "__init__" "TooMany.__init__" (inClass (top 12) 0) f fd) (T : OexC K C) (no : ∀ n ∈ (["what", "many", "most"] : List Str), PySem.W.findIn K (.ref C) n = some none) : FnOk P w K mg base CX0 1 f fd ["self", "what", "many", "most"] (spX C ["what", "many", "most"]) := by
  refine F.ok sc_TooMany (fun vs H Q E h => ?_) (fun cdv A outer s H vs Q E hr h => ?_)
  · obtain ⟨a, ys, rfl, hl, _⟩ := h
    exact congrArg Nat.succ hl
  · obtain ⟨a, ys, rfl, hl, ha, k⟩ := h
    match ys, hl with
    | [y0, y1, y2], _ =>
      refine ⟨_, pss_cons (ps_ost (pv 0) (pv 1)) (pss_cons (ps_ost (pv 0) (pv 2)) (pss_one (ps_ost (pv 0) (pv 3)))), ?_⟩
      refine ⟨y0, rfl, .ref a, rfl, a, C, rfl, T, (no _ (by simp)), .inl ⟨ha, fun dx nd ne => ?_⟩⟩
      refine ⟨y1, rfl, .ref a, rfl, a, C, rfl, T, (no _ (by simp)), .inr ⟨dx, _, upd_same, (upd_ne ne).trans upd_same, by simp, ?_⟩⟩
      rw [put_old ne]
      refine ⟨y2, rfl, .ref a, rfl, a, C, rfl, T, (no _ (by simp)), .inr ⟨dx, _, upd_same, (upd_ne ne).trans upd_same, by simp, ?_⟩⟩
      rw [put_old ne]
      exact k dx nd ne
theorem xr_TooMany (F : Fun K "__init__" "TooMany.__init__" (inClass (top 12) 0) f fd) (cl : XCl K C) (gC : mg "TooMany" = some (.ref C)) (iC : PySem.W.findIn K (.ref C) "__init__" = some (some (.ref f)))
    (tI : PySem.W.typeIn K (.ref f) = some (.type "function")) (no : ∀ n ∈ (["what", "many", "most"] : List Str), PySem.W.findIn K (.ref C) n = some none) : XR P w K mg base "TooMany" C ["what", "many", "most"] :=
  ⟨cl, gC, no, f, fd, iC, tI, ok_TooMany F cl.T no, Fun.binds F fun _ _ _ _ _ _ us hl => match us, hl with | [_, _, _, _], _ => rfl⟩
theorem sc_BadRow : FnScope ["self", "number"] ["self", "number"] (defScope (inClass (top 13) 0)) := ⟨rfl, rfl, rfl, by decide +kernel, rfl, by decide +kernel, by decide +kernel⟩
theorem ok_BadRow (F : Fun K "__init__" "BadRow.__init__" (inClass (top 13) 0) f fd) (T : OexC K C) (no : ∀ n ∈ (["number"] : List Str), PySem.W.findIn K (.ref C) n = some none) : FnOk P w K mg base CX0 1 f fd ["self", "number"] (spX C ["number"]) := by
  refine F.ok sc_BadRow (fun vs H Q E h => ?_) (fun cdv A outer s H vs Q E hr h => ?_)
  · obtain ⟨a, ys, rfl, hl, _⟩ := h
    exact congrArg Nat.succ hl
  · obtain ⟨a, ys, rfl, hl, ha, k⟩ := h
    match ys, hl with
    | [y0], _ =>
      refine ⟨_, pss_one (ps_ost (pv 0) (pv 1)), ?_⟩
      refine ⟨y0, rfl, .ref a, rfl, a, C, rfl, T, (no _ (by simp)), .inl ⟨ha, fun dx nd ne => ?_⟩⟩
      exact k dx nd ne
theorem xr_BadRow (F : Fun K "__init__" "BadRow.__init__" (inClass (top 13) 0) f fd) (cl : XCl K C) (gC : mg "BadRow" = some (.ref C)) (iC : PySem.W.findIn K (.ref C) "__init__" = some (some (.ref f)))
    (tI : PySem.W.typeIn K (.ref f) = some (.type "function")) (no : ∀ n ∈ (["number"] : List Str), PySem.W.findIn K (.ref C) n = some none) : XR P w K mg base "BadRow" C ["number"] :=
  ⟨cl, gC, no, f, fd, iC, tI, ok_BadRow F cl.T no, Fun.binds F fun _ _ _ _ _ _ us hl => match us, hl with | [_, _], _ => rfl⟩
theorem sc_Lone : FnScope ["self", "place"] ["self", "place"] (defScope (inClass (top 14) 0)) := ⟨rfl, rfl, rfl, by decide +kernel, rfl, by decide +kernel, by decide +kernel⟩
theorem ok_Lone (F : Fun K "__init__" "Lone.__init__" (inClass (top 14) 0) f fd) (T : OexC K C) (no : ∀ n ∈ (["place"] : List Str), PySem.W.findIn K (.ref C) n = some none) : FnOk P w K mg base CX0 1 f fd ["self", "place"] (spX C ["place"]) := by
  refine F.ok sc_Lone (fun vs H Q E h => ?_) (fun cdv A outer s H vs Q E hr h => ?_)
  · obtain ⟨a, ys, rfl, hl, _⟩ := h
    exact congrArg Nat.succ hl
  · obtain ⟨a, ys, rfl, hl, ha, k⟩ := h
    match ys, hl with
    | [y0], _ =>
      refine ⟨_, pss_one (ps_ost (pv 0) (pv 1)), ?_⟩
      refine ⟨y0, rfl, .ref a, rfl, a, C, rfl, T, (no _ (by simp)), .inl ⟨ha, fun dx nd ne => ?_⟩⟩
      exact k dx nd ne
theorem xr_Lone (F : Fun K "__init__" "Lone.__init__" (inClass (top 14) 0) f fd) (cl : XCl K C) (gC : mg "Lone" = some (.ref C)) (iC : PySem.W.findIn K (.ref C) "__init__" = some (some (.ref f)))
    (tI : PySem.W.typeIn K (.ref f) = some (.type "function")) (no : ∀ n ∈ (["place"] : List Str), PySem.W.findIn K (.ref C) n = some none) : XR P w K mg base "Lone" C ["place"] :=
  ⟨cl, gC, no, f, fd, iC, tI, ok_Lone F cl.T no, Fun.binds F fun _ _ _ _ _ _ us hl => match us, hl with | [_, _], _ => rfl⟩
theorem sc_NoPlace : FnScope ["self", "place"] ["self", "place"] (defScope (inClass (top 15) 0)) := ⟨rfl, rfl, rfl, by decide +kernel, rfl, by decide +kernel, by decide +kernel⟩
theorem ok_NoPlace (F : Fun K "__init__" "NoPlace.__init__" (inClass (top 15) 0) f fd) (T : OexC K C) (no : ∀ n ∈ (["place"] : List Str), PySem.W.findIn K (.ref C) n = some none) : FnOk P w K mg base CX0 1 f fd ["self", "place"] (spX C ["place"]) := by
  refine F.ok sc_NoPlace (fun vs H Q E h => ?_) (fun cdv A outer s H vs Q E hr h => ?_)
  · obtain ⟨a, ys, rfl, hl, _⟩ := h
    exact congrArg Nat.succ hl
  · obtain ⟨a, ys, rfl, hl, ha, k⟩ := h
    match ys, hl with
    | [y0], _ =>
      refine ⟨_, pss_one (ps_ost (pv 0) (pv 1)), ?_⟩
      refine ⟨y0, rfl, .ref a, rfl, a, C, rfl, T, (no _ (by simp)), .inl ⟨ha, fun dx nd ne => ?_⟩⟩
      exact k dx nd ne
theorem xr_NoPlace (F : Fun K "__init__" "NoPlace.__init__" (inClass (top 15) 0) f fd) (cl : XCl K C) (gC : mg "NoPlace" = some (.ref C)) (iC : PySem.W.findIn K (.ref C) "__init__" = some (some (.ref f)))
    (tI : PySem.W.typeIn K (.ref f) = some (.type "function")) (no : ∀ n ∈ (["place"] : List Str), PySem.W.findIn K (.ref C) n = some none) : XR P w K mg base "NoPlace" C ["place"] :=
  ⟨cl, gC, no, f, fd, iC, tI, ok_NoPlace F cl.T no, Fun.binds F fun _ _ _ _ _ _ us hl => match us, hl with | [_, _], _ => rfl⟩
end
theorem FunT.bindsT {K : PySem.W.Frag} {x qual : Str} {st : Stmt} {f c : Addr} {fd : FuncData} {ps : List Str} (F : FunT K x qual st f fd c)
    (h : ∀ (kV doc pm : Value) (an : Option Addr) (cdv ct : Value) (us : List Value), us.length = ps.length → bindArgs (PySem.W.fnOf x qual (defArgs st) (defBody st) (defScope st) .none kV doc pm an cdv ct) ⟨us, []⟩ = pure (ps.zip us)) : Binds K fd ps [] := by
  obtain ⟨oc, od, kV, doc, pm, an, ct, osl, e, lk, hcd⟩ := F.ex
  exact Fun.binds (f := f) ⟨⟨oc, od, kV, doc, pm, an, .ref c, ct, osl, e, lk, hcd⟩, F.kp⟩ h
theorem FnG.of {P : Program} {w : World} {K : PySem.W.Frag} {mg : Str → Option Value} {base : Heap} {CX : CXT} {k : Nat} {f : Addr} {fd : FuncData} {ps : List Str} {sp : Sp} (G : FnOk P w K mg base CX k f fd ps sp) : FnG P w K mg base CX k f fd ps sp := ⟨G.len, fun A outer s H args us vs Q E _ hr e0 b r h => G.run A outer s H args us vs Q E hr e0 b r h⟩
def ratB (K : PySem.W.Frag) (C : Addr) : Bool :=
  (match PySem.W.clsIn K C with
    | some cd => (match cd.mro with
      | .ref D :: _ => decide (D = C)
      | _ => false)
    | none => false) && (decide (PySem.W.subIn K (.type "int") (.ref C) = some false) && (decide (PySem.W.subIn K (.ref C) (.type "int") = some false) && (decide (PySem.W.subIn K (.type "tuple") (.ref C) = some false) && (PySem.W.selfFirst K C &&
    (decide (PySem.W.findIn K (.ref C) "__class__" = some (some (.builtin "object.__class__"))) && (decide (PySem.W.specialIn K (.builtin "object.__class__") "__get__" = some (some (.builtin "getset_descriptor.__get__"))) && (decide (PySem.W.takesIn K (.builtin "object.__class__") = some true) && (decide (PySem.W.mroIn K C (.type "object") = some true) &&
    (decide (PySem.W.kitOne K (.ref C) (.ref C) = some true) && (decide (PySem.W.kitOne K (.type "int") (.ref C) = some false) && (decide (PySem.W.kitOne K (.type "tuple") (.ref C) = some false) &&
    (decide (PySem.W.findIn K (.ref C) "__ne__" = some (some (.builtin "object.__ne__"))) && decide (PySem.W.subIn K (.ref C) (.type "object") = some true)))))))))))))
theorem ratB_ok {K : PySem.W.Frag} {C : Addr} (h : ratB K C = true) (cl : Cls K C) (na : ∀ g ∈ six6, NoAttr K C g) : TreeK K C := by
  unfold ratB at h
  obtain ⟨h0, h⟩ := He.ba h
  simp only [Bool.and_eq_true, decide_eq_true_eq] at h
  obtain ⟨h1, h2, h3, h4, h5, h6, h7, h8, h9, h10, h11, h12, h13⟩ := h
  refine ⟨⟨?_, h1, h2, h3, h4⟩, cl, na, h5, h6, h7, h8, h9, h11, h12, h13⟩
  cases e : PySem.W.clsIn K C with
  | none =>
    rw [e] at h0
    cases h0
  | some cd =>
    rw [e] at h0
    cases e2 : cd.mro with
    | nil =>
      simp only [e2] at h0
      cases h0
    | cons v rest =>
      simp only [e2] at h0
      cases v with
      | ref D =>
        have q : D = C := of_decide_eq_true h0
        subst q
        exact ⟨cd, rest, rfl, e2⟩
      | _ => cases h0
def hasB (K : PySem.W.Frag) (C : Addr) (m : Str) : Bool := He.eqO (PySem.W.findIn K (.ref C) m) (some (some (.ref (He.ma K C m)))) && PySem.W.isFn K (.ref (He.ma K C m))
theorem hasB_ok {K : PySem.W.Frag} {C : Addr} {m : Str} (h : hasB K C m = true) : Has K C m (He.ma K C m) := by
  obtain ⟨h1, h2⟩ := He.ba h
  exact ⟨He.eqO_ok h1, h2⟩
def propB (K : PySem.W.Frag) (C : Addr) (f : Str) : Bool := He.eqO (PySem.W.findIn K (.ref C) f) (some (some (.ref (He.ma K C f)))) && (He.eqO (PySem.W.specialIn K (.ref (He.ma K C f)) "__get__") (some (some (.builtin "property.__get__"))) && (decide (PySem.W.takesIn K (.ref (He.ma K C f)) = some true) && (match PySem.W.recIn K (He.ma K C f) "property" with
    | some (.ref _ :: _) => true
    | _ => false)))
theorem propB_ok {K : PySem.W.Frag} {C : Addr} {f : Str} (h : propB K C f = true) : PropOf K C f (He.ma K C f) (He5.wf K C "property" f) := by
  unfold propB at h
  obtain ⟨h1, h⟩ := He.ba h
  obtain ⟨h2, h⟩ := He.ba h
  obtain ⟨h3, h4⟩ := He.ba h
  refine ⟨He.eqO_ok h1, He.eqO_ok h2, of_decide_eq_true h3, ?_⟩
  unfold He5.wf
  split at h4
  · rename_i g rest e
    rw [e]
    exact ⟨_, rfl⟩
  · cases h4
def wfR (K : PySem.W.Frag) : Addr := He5.wf K (He.ga K "Grove") "property" "rules"
def rulD : He5.DefA := ⟨wfR, "rules", "Grove.rules", defArgs (gm 1), defBody (gm 1), defScope (gm 1), [], []⟩
def exs25 (K : PySem.W.Frag) : List Bool := [(K.lookup sysModules).isSome,
  ratB K (He.ga K "Tree"),
  hasB K (He.ga K "Tree") "__eq__",
  propB K (He.ga K "Grove") "rules",
  rulD.ok K,
  decide ((He.cT K ("in_order", none)).2 ≠ (He.cT K ("_law_is_placed", none)).2),
  (xB K (He.ga K "BadLetters") && iniB K "BadLetters" [("letters" : Str)]),
  (xB K (He.ga K "TooMany") && iniB K "TooMany" [("what" : Str), ("many" : Str), ("most" : Str)]),
  (xB K (He.ga K "BadRow") && iniB K "BadRow" [("number" : Str)]),
  (xB K (He.ga K "Lone") && iniB K "Lone" [("place" : Str)]),
  (xB K (He.ga K "NoPlace") && iniB K "NoPlace" [("place" : Str)])]
def ex25 (K : PySem.W.Frag) : Bool := (exs25 K).all id
def fa25 : List He.Fa := [.glo "is_letters", .glo "check_letters", .glo "is_word", .glo "check_places", .glo "is_row", .glo "table_of", .glo "letters_below", .glo "is_name", .glo "is_key", .glo "is_rule", .glo "check_number", .glo "check_rules", .glo "copied", .glo "parts_of", .glo "bottom_up", .glo "_law_pen_of", .glo "_law_draw", .glo "_law_pick", .glo "_law_shuffled", .glo "_law_letters_of", .glo "_law_in_order", .glo "_law_met", .glo "_law_told_rules", .glo "_law_unfolded", .glo "_law_is_read", .glo "law", .glo "in_order", .glo "_law_is_placed", .glo "TreesError", .glo "Tree", .glo "Grove", .glo "BadLetters", .glo "TooMany", .glo "BadRow", .glo "Lone", .glo "NoPlace", .free "isinstance", .free "str", .free "len", .free "set", .free "all", .free "tuple", .free "list", .free "bool", .free "dict", .free "enumerate", .free "max", .free "sorted", .free "int", .free "abs", .free "range", .free "min", .free "sum", .free "zip", .str "ALPHABET" alpha, .str "CAPITALS" caps, .int "LONGEST_WORD" 200, .int "MOST_PLACES" 2000, .int "LONGEST_NAME" 8, .int "MOST_RULES" 1000, .cls "Tree", .cls "Grove", .noat "Tree" "_below", .noat "Tree" "_table", .noat "Tree" "letters", .noat "Tree" "rows", .noat "Tree" "size", .noat "Tree" "height", .noat "Grove" "_rules", .noat "Grove" "_sizes", .noat "Grove" "_manys", .noat "Grove" "letters", .noat "Grove" "root", .noat "Grove" "size", .noat "Grove" "many", .meth "Grove" "way", .meth "Grove" "has", .meth "Grove" "name_at", .meth "Grove" "row", .meth "Grove" "below", .meth "Grove" "check_word", .meth "Grove" "begins", .meth "Grove" "many_ahead", .meth "Grove" "rank", .meth "Grove" "word_of", .meth "Grove" "unfolded", .mkr "Tree", .mkr "Grove", .exm "NoPlace" "NoPlace" true]
def dDef (x : Str) (st : Stmt) : He.DefD := ⟨(x, none), x, x, defArgs st, defBody st, defScope st, [], []⟩
def dMet (x m q : Str) (st : Stmt) : He.DefD := ⟨(x, some m), m, q, defArgs st, defBody st, defScope st, [], []⟩
def fn25 : List He.DefD := [dDef "is_letters" (top 25), dDef "check_letters" (top 26), dDef "is_word" (top 27), dDef "check_places" (top 29), dDef "is_row" (top 31), dDef "table_of" (top 32), dDef "letters_below" (top 33), dDef "is_name" (top 45), dDef "is_key" (top 46), dDef "is_rule" (top 47), dDef "check_number" (top 48), dDef "check_rules" (top 49), dDef "copied" (top 50), dDef "parts_of" (top 51), dDef "bottom_up" (top 52), dDef "_law_pen_of" (top 60), dDef "_law_draw" (top 61), dDef "_law_pick" (top 62), dDef "_law_shuffled" (top 63), dDef "_law_letters_of" (top 64), dDef "_law_in_order" (top 65), dDef "_law_met" (top 66), dDef "_law_told_rules" (top 67), dDef "_law_unfolded" (top 68), dDef "_law_is_read" (top 69), dDef "law" (top 71), dDef "in_order" (top 30), dDef "_law_is_placed" (top 70), dMet "BadLetters" "__init__" "BadLetters.__init__" (inClass (top 11) 0), dMet "TooMany" "__init__" "TooMany.__init__" (inClass (top 12) 0), dMet "BadRow" "__init__" "BadRow.__init__" (inClass (top 13) 0), dMet "Lone" "__init__" "Lone.__init__" (inClass (top 14) 0), dMet "NoPlace" "__init__" "NoPlace.__init__" (inClass (top 15) 0), dMet "Tree" "__init__" "Tree.__init__" (inClass (top 37) 0), dMet "Tree" "__eq__" "Tree.__eq__" (inClass (top 37) 2), dMet "Grove" "__init__" "Grove.__init__" (inClass (top 58) 0), dMet "Grove" "way" "Grove.way" (inClass (top 58) 2), dMet "Grove" "has" "Grove.has" (inClass (top 58) 3), dMet "Grove" "name_at" "Grove.name_at" (inClass (top 58) 4), dMet "Grove" "row" "Grove.row" (inClass (top 58) 5), dMet "Grove" "below" "Grove.below" (inClass (top 58) 6), dMet "Grove" "check_word" "Grove.check_word" (inClass (top 58) 7), dMet "Grove" "begins" "Grove.begins" (inClass (top 58) 8), dMet "Grove" "many_ahead" "Grove.many_ahead" (inClass (top 58) 9), dMet "Grove" "rank" "Grove.rank" (inClass (top 58) 10), dMet "Grove" "word_of" "Grove.word_of" (inClass (top 58) 11), dMet "Grove" "unfolded" "Grove.unfolded" (inClass (top 58) 12)]
def tf25 : List He.Defn := [("in_order", none), ("_law_is_placed", none)]
/-! ### the Hook -/
def codeA (g : Addr → Option Obj) (a : Addr) : Addr := match g a with
  | some ⟨_, _, .func fd, _⟩ => (match fd.code with
    | .ref c => c
    | _ => 0)
  | _ => 0
def KF (g : Addr → Option Obj) : PySem.W.Frag := He.frT g (sysModules :: (He.asD g 3 ++ (wfR (He.frT g (He.asD g 3)) :: codeA g (wfR (He.frT g (He.asD g 3))) :: fn25.map fun d => codeA g (He.fAd (He.frT g (He.asD g 3)) d.at_))))
def obsK (g : Addr → Option Obj) : He.AlX := (He.obsT fa25 fn25 [] (KF g), ex25 (KF g) && He.tabsB g tf25 (KF g))
abbrev SaysK (w : World) (h : Heap) (K : PySem.W.Frag) : Prop := He.SaysX fa25 fn25 [] tf25 ex25 w h K
theorem saysK {w : World} {h : Heap} (e : obsK h.get? = He.valX fn25 [] w) : SaysK w h (KF h.get?) := by
  obtain ⟨m1, m2⟩ := He.ba (show (ex25 (KF h.get?) && He.tabsB h.get? tf25 (KF h.get?)) = true from congrArg Prod.snd e)
  have at_ : ∀ p ∈ tf25, PySem.W.codeHdIn (KF h.get?) (He.cT (KF h.get?) p).1 (He.cT (KF h.get?) p).2 = true ∧ ∃ o, h.get? (He.cT (KF h.get?) p).2 = some o ∧ He.emptyTab o = true := fun p hp => by
    obtain ⟨a1, a2⟩ := He.ba (List.all_eq_true.mp m2 p hp)
    refine ⟨a1, ?_⟩
    cases z : h.get? (He.cT (KF h.get?) p).2 with
    | none => rw [z] at a2; cases a2
    | some o => rw [z] at a2; exact ⟨o, rfl, a2⟩
  refine ⟨congrArg Prod.fst e, m1, fun p hp => (at_ p hp).1, fun p hp => ?_, fun p hp => ?_⟩
  · obtain ⟨_, o, z, y⟩ := at_ p hp
    exact He.frT_none z y
  · obtain ⟨_, o, z, y⟩ := at_ p hp
    rw [z, He.emptyTab_eq y]
def obsO (g : Addr → Option Obj) : He.AlX × He5.FnW := (obsK g, He5.fnA (KF g) (wfR (KF g)))
def hkK : PySem.W.Hook where
  α := He.AlX × He5.FnW
  obs := fun s => obsO s.heap.get?
  val := fun w => (He.valX fn25 [] w, rulD.val)
  says := fun w h => ∃ K : PySem.W.Frag, K.In h ∧ SaysK w h K ∧ He5.fnA K (wfR K) = rulD.val
  of := fun _ _ e => ⟨_, He.frT_in, saysK (congrArg Prod.fst e), congrArg Prod.snd e⟩
  keeps := fun _ _ _ ⟨K, hK, c, o⟩ k => ⟨K, PySem.W.Frag.In.keeps hK k, ⟨c.t, c.more, c.hd, c.out, fun p hp => k _ _ (c.empty p hp)⟩, o⟩
def obK (s : PySem.W.SharedT) : He.AlX × He5.FnW := obsO (HandSHeadRun.getT s)
theorem obK_eq (s : PySem.W.SharedT) : obK s = hkK.obs s.abs := by
  have e : HandSHeadRun.getT s = s.abs.heap.get? := funext (HandSHeadRun.getT_eq s)
  show obsO _ = obsO _
  rw [e]
section
variable {P : Program} {w : World} {K : PySem.W.Frag} {mg : Str → Option Value} {base h : Heap}
theorem SaysK.fun_ (c : SaysK w h K) {d : He.DefD} {st : Stmt} (hm : d ∈ fn25) (hp : d.params = defArgs st) (hb : d.body = defBody st) (hs : d.scope = defScope st) (hd : d.dfl = []) : ∃ fd, Fun K d.name d.qual st (He.fAd K d.at_) fd := by
  obtain ⟨fd, F⟩ := c.t.d.defs hm
  obtain ⟨oc, od, dV, kV, doc, pm, an, cdv, ct, osl, e, lk, hcd, hD, _⟩ := F.ex
  have hdv : d.dvs K = [] := by
    unfold He.DefD.dvs
    rw [hd]
    rfl
  have e3 : dV = .none := by
    rcases hD with ⟨_, z⟩ | ⟨z, _⟩
    · exact z
    · exact absurd hdv z
  subst e3
  refine ⟨fd, ⟨oc, od, kV, doc, pm, an, cdv, ct, osl, ?_, lk, hcd⟩, F.kp⟩
  rw [e, hp, hb, hs]
theorem SaysK.funT (c : SaysK w h K) {d : He.DefD} {st : Stmt} (hm : d ∈ fn25) (hp : d.params = defArgs st) (hb : d.body = defBody st) (hs : d.scope = defScope st) (hd : d.dfl = []) : ∃ fd, FunT K d.name d.qual st (He.fAd K d.at_) fd (He.cT K d.at_).1 := by
  obtain ⟨fd, F⟩ := c.fun_ hm hp hb hs hd
  obtain ⟨oc, od, kV, doc, pm, an, cdv, ct, osl, e, lk, hcd⟩ := F.ex
  obtain ⟨cc, rfl⟩ := He.codeIn_ref hcd
  have z : He.codeOf K d.at_ = cc := He.codeOf_eq lk (by rw [e])
  refine ⟨fd, ⟨oc, od, kV, doc, pm, an, ct, osl, ?_, lk, ?_⟩, F.kp⟩
  · show fd = _
    rw [e]
    show _ = PySem.W.fnOf _ _ _ _ _ _ _ _ _ _ (Value.ref (He.codeOf K d.at_)) _
    rw [z]
  · show PySem.W.codeIn K (.ref (He.codeOf K d.at_)) _ = true
    rw [z]
    exact hcd
theorem SaysK.is (c : SaysK w h K) {b : Bool} (i : Nat) (e : (exs25 K)[i]? = some b) : b = true := by
  have m : (exs25 K).all id = true := c.more
  exact List.all_eq_true.mp m b (List.mem_of_getElem? e)
theorem SaysK.fact (c : SaysK w h K) (i : Nat) {f : He.Fa} (e : fa25[i]? = some f) : f.ok K = true := c.t.d.facts (List.mem_of_getElem? e)
theorem SaysK.glo (c : SaysK w h K) (Kb : K.In base) (hm : base.Ns mainGlobals mg) (i : Nat) {x : Str} (e : fa25[i]? = some (.glo x)) : mg x = some (.ref (He.ga K x)) := He.glo_ok Kb hm (c.fact i e)
theorem SaysK.free (c : SaysK w h K) (Kb : K.In base) (hm : base.Ns mainGlobals mg) (i : Nat) {x : Str} (e : fa25[i]? = some (.free x)) : mg x = none := He.free_ok Kb hm (c.fact i e)
def tabsK (K : PySem.W.Frag) : List (Addr × Addr) := tf25.map fun p => He.cT K p
def TK (K : PySem.W.Frag) : List (Addr × Str) := [((He.cT K ("in_order", none)).2, ("in_order" : Str) ++ ".<locals>." ++ "<lambda>"), ((He.cT K ("_law_is_placed", none)).2, ("_law_is_placed" : Str) ++ ".<locals>." ++ "<lambda>")]
theorem law_all (c : SaysK w h K) (cO : He5.fnA K (wfR K) = rulD.val) (Kb : K.In base) (hm : base.Ns mainGlobals mg) (TB : ∀ p ∈ tabsK K, TabB base mg p.1 p.2) : ∃ fd, Binds K fd ["script"] [] ∧ FnG P w K mg base CX0 10 (He.ga K "law") fd ["script"] (spLaw K (TK K)) := by
  obtain ⟨v_is_letters_d, v_is_letters_F⟩ := c.fun_ (d := dDef "is_letters" (top 25)) (st := top 25) (List.mem_of_getElem? (i := 0) rfl) rfl rfl rfl rfl
  have v_is_letters_b : Binds K v_is_letters_d ["letters"] [] := Fun.binds v_is_letters_F fun _ _ _ _ _ _ us hl => match us, hl with | [_], _ => rfl
  have v_is_letters_g := c.glo Kb hm 0 (x := "is_letters") rfl
  obtain ⟨v_check_letters_d, v_check_letters_F⟩ := c.fun_ (d := dDef "check_letters" (top 26)) (st := top 26) (List.mem_of_getElem? (i := 1) rfl) rfl rfl rfl rfl
  have v_check_letters_b : Binds K v_check_letters_d ["letters"] [] := Fun.binds v_check_letters_F fun _ _ _ _ _ _ us hl => match us, hl with | [_], _ => rfl
  have v_check_letters_g := c.glo Kb hm 1 (x := "check_letters") rfl
  obtain ⟨v_is_word_d, v_is_word_F⟩ := c.fun_ (d := dDef "is_word" (top 27)) (st := top 27) (List.mem_of_getElem? (i := 2) rfl) rfl rfl rfl rfl
  have v_is_word_b : Binds K v_is_word_d ["letters", "word"] [] := Fun.binds v_is_word_F fun _ _ _ _ _ _ us hl => match us, hl with | [_, _], _ => rfl
  have v_is_word_g := c.glo Kb hm 2 (x := "is_word") rfl
  obtain ⟨v_check_places_d, v_check_places_F⟩ := c.fun_ (d := dDef "check_places" (top 29)) (st := top 29) (List.mem_of_getElem? (i := 3) rfl) rfl rfl rfl rfl
  have v_check_places_b : Binds K v_check_places_d ["many"] [] := Fun.binds v_check_places_F fun _ _ _ _ _ _ us hl => match us, hl with | [_], _ => rfl
  have v_check_places_g := c.glo Kb hm 3 (x := "check_places") rfl
  obtain ⟨v_is_row_d, v_is_row_F⟩ := c.fun_ (d := dDef "is_row" (top 31)) (st := top 31) (List.mem_of_getElem? (i := 4) rfl) rfl rfl rfl rfl
  have v_is_row_b : Binds K v_is_row_d ["letters", "row"] [] := Fun.binds v_is_row_F fun _ _ _ _ _ _ us hl => match us, hl with | [_, _], _ => rfl
  have v_is_row_g := c.glo Kb hm 4 (x := "is_row") rfl
  obtain ⟨v_table_of_d, v_table_of_F⟩ := c.fun_ (d := dDef "table_of" (top 32)) (st := top 32) (List.mem_of_getElem? (i := 5) rfl) rfl rfl rfl rfl
  have v_table_of_b : Binds K v_table_of_d ["letters", "rows"] [] := Fun.binds v_table_of_F fun _ _ _ _ _ _ us hl => match us, hl with | [_, _], _ => rfl
  have v_table_of_g := c.glo Kb hm 5 (x := "table_of") rfl
  obtain ⟨v_letters_below_d, v_letters_below_F⟩ := c.fun_ (d := dDef "letters_below" (top 33)) (st := top 33) (List.mem_of_getElem? (i := 6) rfl) rfl rfl rfl rfl
  have v_letters_below_b : Binds K v_letters_below_d ["places"] [] := Fun.binds v_letters_below_F fun _ _ _ _ _ _ us hl => match us, hl with | [_], _ => rfl
  have v_letters_below_g := c.glo Kb hm 6 (x := "letters_below") rfl
  obtain ⟨v_is_name_d, v_is_name_F⟩ := c.fun_ (d := dDef "is_name" (top 45)) (st := top 45) (List.mem_of_getElem? (i := 7) rfl) rfl rfl rfl rfl
  have v_is_name_b : Binds K v_is_name_d ["value"] [] := Fun.binds v_is_name_F fun _ _ _ _ _ _ us hl => match us, hl with | [_], _ => rfl
  have v_is_name_g := c.glo Kb hm 7 (x := "is_name") rfl
  obtain ⟨v_is_key_d, v_is_key_F⟩ := c.fun_ (d := dDef "is_key" (top 46)) (st := top 46) (List.mem_of_getElem? (i := 8) rfl) rfl rfl rfl rfl
  have v_is_key_b : Binds K v_is_key_d ["rules", "value"] [] := Fun.binds v_is_key_F fun _ _ _ _ _ _ us hl => match us, hl with | [_, _], _ => rfl
  have v_is_key_g := c.glo Kb hm 8 (x := "is_key") rfl
  obtain ⟨v_is_rule_d, v_is_rule_F⟩ := c.fun_ (d := dDef "is_rule" (top 47)) (st := top 47) (List.mem_of_getElem? (i := 9) rfl) rfl rfl rfl rfl
  have v_is_rule_b : Binds K v_is_rule_d ["letters", "rules", "value"] [] := Fun.binds v_is_rule_F fun _ _ _ _ _ _ us hl => match us, hl with | [_, _, _], _ => rfl
  have v_is_rule_g := c.glo Kb hm 9 (x := "is_rule") rfl
  obtain ⟨v_check_number_d, v_check_number_F⟩ := c.fun_ (d := dDef "check_number" (top 48)) (st := top 48) (List.mem_of_getElem? (i := 10) rfl) rfl rfl rfl rfl
  have v_check_number_b : Binds K v_check_number_d ["many"] [] := Fun.binds v_check_number_F fun _ _ _ _ _ _ us hl => match us, hl with | [_], _ => rfl
  have v_check_number_g := c.glo Kb hm 10 (x := "check_number") rfl
  obtain ⟨v_check_rules_d, v_check_rules_F⟩ := c.fun_ (d := dDef "check_rules" (top 49)) (st := top 49) (List.mem_of_getElem? (i := 11) rfl) rfl rfl rfl rfl
  have v_check_rules_b : Binds K v_check_rules_d ["letters", "rules"] [] := Fun.binds v_check_rules_F fun _ _ _ _ _ _ us hl => match us, hl with | [_, _], _ => rfl
  have v_check_rules_g := c.glo Kb hm 11 (x := "check_rules") rfl
  obtain ⟨v_copied_d, v_copied_F⟩ := c.fun_ (d := dDef "copied" (top 50)) (st := top 50) (List.mem_of_getElem? (i := 12) rfl) rfl rfl rfl rfl
  have v_copied_b : Binds K v_copied_d ["rules"] [] := Fun.binds v_copied_F fun _ _ _ _ _ _ us hl => match us, hl with | [_], _ => rfl
  have v_copied_g := c.glo Kb hm 12 (x := "copied") rfl
  obtain ⟨v_parts_of_d, v_parts_of_F⟩ := c.fun_ (d := dDef "parts_of" (top 51)) (st := top 51) (List.mem_of_getElem? (i := 13) rfl) rfl rfl rfl rfl
  have v_parts_of_b : Binds K v_parts_of_d ["rules", "name"] [] := Fun.binds v_parts_of_F fun _ _ _ _ _ _ us hl => match us, hl with | [_, _], _ => rfl
  have v_parts_of_g := c.glo Kb hm 13 (x := "parts_of") rfl
  obtain ⟨v_bottom_up_d, v_bottom_up_F⟩ := c.fun_ (d := dDef "bottom_up" (top 52)) (st := top 52) (List.mem_of_getElem? (i := 14) rfl) rfl rfl rfl rfl
  have v_bottom_up_b : Binds K v_bottom_up_d ["rules"] [] := Fun.binds v_bottom_up_F fun _ _ _ _ _ _ us hl => match us, hl with | [_], _ => rfl
  have v_bottom_up_g := c.glo Kb hm 14 (x := "bottom_up") rfl
  obtain ⟨v_law_pen_of_d, v_law_pen_of_F⟩ := c.fun_ (d := dDef "_law_pen_of" (top 60)) (st := top 60) (List.mem_of_getElem? (i := 15) rfl) rfl rfl rfl rfl
  have v_law_pen_of_b : Binds K v_law_pen_of_d ["script"] [] := Fun.binds v_law_pen_of_F fun _ _ _ _ _ _ us hl => match us, hl with | [_], _ => rfl
  have v_law_pen_of_g := c.glo Kb hm 15 (x := "_law_pen_of") rfl
  obtain ⟨v_law_draw_d, v_law_draw_F⟩ := c.fun_ (d := dDef "_law_draw" (top 61)) (st := top 61) (List.mem_of_getElem? (i := 16) rfl) rfl rfl rfl rfl
  have v_law_draw_b : Binds K v_law_draw_d ["pen", "many"] [] := Fun.binds v_law_draw_F fun _ _ _ _ _ _ us hl => match us, hl with | [_, _], _ => rfl
  have v_law_draw_g := c.glo Kb hm 16 (x := "_law_draw") rfl
  obtain ⟨v_law_pick_d, v_law_pick_F⟩ := c.fun_ (d := dDef "_law_pick" (top 62)) (st := top 62) (List.mem_of_getElem? (i := 17) rfl) rfl rfl rfl rfl
  have v_law_pick_b : Binds K v_law_pick_d ["pen", "items"] [] := Fun.binds v_law_pick_F fun _ _ _ _ _ _ us hl => match us, hl with | [_, _], _ => rfl
  have v_law_pick_g := c.glo Kb hm 17 (x := "_law_pick") rfl
  obtain ⟨v_law_shuffled_d, v_law_shuffled_F⟩ := c.fun_ (d := dDef "_law_shuffled" (top 63)) (st := top 63) (List.mem_of_getElem? (i := 18) rfl) rfl rfl rfl rfl
  have v_law_shuffled_b : Binds K v_law_shuffled_d ["pen", "items"] [] := Fun.binds v_law_shuffled_F fun _ _ _ _ _ _ us hl => match us, hl with | [_, _], _ => rfl
  have v_law_shuffled_g := c.glo Kb hm 18 (x := "_law_shuffled") rfl
  obtain ⟨v_law_letters_of_d, v_law_letters_of_F⟩ := c.fun_ (d := dDef "_law_letters_of" (top 64)) (st := top 64) (List.mem_of_getElem? (i := 19) rfl) rfl rfl rfl rfl
  have v_law_letters_of_b : Binds K v_law_letters_of_d ["pen"] [] := Fun.binds v_law_letters_of_F fun _ _ _ _ _ _ us hl => match us, hl with | [_], _ => rfl
  have v_law_letters_of_g := c.glo Kb hm 19 (x := "_law_letters_of") rfl
  obtain ⟨v_law_in_order_d, v_law_in_order_F⟩ := c.fun_ (d := dDef "_law_in_order" (top 65)) (st := top 65) (List.mem_of_getElem? (i := 20) rfl) rfl rfl rfl rfl
  have v_law_in_order_b : Binds K v_law_in_order_d ["letters", "words"] [] := Fun.binds v_law_in_order_F fun _ _ _ _ _ _ us hl => match us, hl with | [_, _], _ => rfl
  have v_law_in_order_g := c.glo Kb hm 20 (x := "_law_in_order") rfl
  obtain ⟨v_law_met_d, v_law_met_F⟩ := c.fun_ (d := dDef "_law_met" (top 66)) (st := top 66) (List.mem_of_getElem? (i := 21) rfl) rfl rfl rfl rfl
  have v_law_met_b : Binds K v_law_met_d ["call"] [] := Fun.binds v_law_met_F fun _ _ _ _ _ _ us hl => match us, hl with | [_], _ => rfl
  have v_law_met_g := c.glo Kb hm 21 (x := "_law_met") rfl
  obtain ⟨v_law_told_rules_d, v_law_told_rules_F⟩ := c.fun_ (d := dDef "_law_told_rules" (top 67)) (st := top 67) (List.mem_of_getElem? (i := 22) rfl) rfl rfl rfl rfl
  have v_law_told_rules_b : Binds K v_law_told_rules_d ["pen", "letters"] [] := Fun.binds v_law_told_rules_F fun _ _ _ _ _ _ us hl => match us, hl with | [_, _], _ => rfl
  have v_law_told_rules_g := c.glo Kb hm 22 (x := "_law_told_rules") rfl
  obtain ⟨v_law_unfolded_d, v_law_unfolded_F⟩ := c.fun_ (d := dDef "_law_unfolded" (top 68)) (st := top 68) (List.mem_of_getElem? (i := 23) rfl) rfl rfl rfl rfl
  have v_law_unfolded_b : Binds K v_law_unfolded_d ["letters", "rules", "root"] [] := Fun.binds v_law_unfolded_F fun _ _ _ _ _ _ us hl => match us, hl with | [_, _, _], _ => rfl
  have v_law_unfolded_g := c.glo Kb hm 23 (x := "_law_unfolded") rfl
  obtain ⟨v_law_is_read_d, v_law_is_read_F⟩ := c.fun_ (d := dDef "_law_is_read" (top 69)) (st := top 69) (List.mem_of_getElem? (i := 24) rfl) rfl rfl rfl rfl
  have v_law_is_read_b : Binds K v_law_is_read_d ["grove", "letters", "rows"] [] := Fun.binds v_law_is_read_F fun _ _ _ _ _ _ us hl => match us, hl with | [_, _, _], _ => rfl
  have v_law_is_read_g := c.glo Kb hm 24 (x := "_law_is_read") rfl
  obtain ⟨v_law_d, v_law_F⟩ := c.fun_ (d := dDef "law" (top 71)) (st := top 71) (List.mem_of_getElem? (i := 25) rfl) rfl rfl rfl rfl
  have v_law_b : Binds K v_law_d ["script"] [] := Fun.binds v_law_F fun _ _ _ _ _ _ us hl => match us, hl with | [_], _ => rfl
  have v_law_g := c.glo Kb hm 25 (x := "law") rfl
  obtain ⟨v_in_order_d, v_in_order_F⟩ := c.funT (d := dDef "in_order" (top 30)) (st := top 30) (List.mem_of_getElem? (i := 26) rfl) rfl rfl rfl rfl
  have v_in_order_b : Binds K v_in_order_d ["letters", "words"] [] := FunT.bindsT v_in_order_F fun _ _ _ _ _ _ us hl => match us, hl with | [_, _], _ => rfl
  have v_in_order_g := c.glo Kb hm 26 (x := "in_order") rfl
  obtain ⟨v_law_is_placed_d, v_law_is_placed_F⟩ := c.funT (d := dDef "_law_is_placed" (top 70)) (st := top 70) (List.mem_of_getElem? (i := 27) rfl) rfl rfl rfl rfl
  have v_law_is_placed_b : Binds K v_law_is_placed_d ["grove", "letters", "rows", "word"] [] := FunT.bindsT v_law_is_placed_F fun _ _ _ _ _ _ us hl => match us, hl with | [_, _, _, _], _ => rfl
  have v_law_is_placed_g := c.glo Kb hm 27 (x := "_law_is_placed") rfl
  obtain ⟨x_BadLetters_d, x_BadLetters_F⟩ := c.fun_ (d := dMet "BadLetters" "__init__" "BadLetters.__init__" (inClass (top 11) 0)) (st := inClass (top 11) 0) (List.mem_of_getElem? (i := 28) rfl) rfl rfl rfl rfl
  have x_BadLetters_g := c.glo Kb hm 31 (x := "BadLetters") rfl
  obtain ⟨x_BadLetters_1, x_BadLetters_2⟩ := He.ba (c.is 6 rfl)
  unfold iniB at x_BadLetters_2
  obtain ⟨x_BadLetters_3, x_BadLetters_4⟩ := He.ba x_BadLetters_2
  obtain ⟨x_BadLetters_5, x_BadLetters_6⟩ := He.ba x_BadLetters_4
  have x_BadLetters_X : XR P w K mg base "BadLetters" (He.ga K "BadLetters") ["letters"] := xr_BadLetters x_BadLetters_F (xB_ok x_BadLetters_1) x_BadLetters_g (of_decide_eq_true x_BadLetters_3) (of_decide_eq_true x_BadLetters_5) fun n hn => of_decide_eq_true (List.all_eq_true.mp x_BadLetters_6 n hn)
  obtain ⟨x_TooMany_d, x_TooMany_F⟩ := c.fun_ (d := dMet "TooMany" "__init__" "TooMany.__init__" (inClass (top 12) 0)) (st := inClass (top 12) 0) (List.mem_of_getElem? (i := 29) rfl) rfl rfl rfl rfl
  have x_TooMany_g := c.glo Kb hm 32 (x := "TooMany") rfl
  obtain ⟨x_TooMany_1, x_TooMany_2⟩ := He.ba (c.is 7 rfl)
  unfold iniB at x_TooMany_2
  obtain ⟨x_TooMany_3, x_TooMany_4⟩ := He.ba x_TooMany_2
  obtain ⟨x_TooMany_5, x_TooMany_6⟩ := He.ba x_TooMany_4
  have x_TooMany_X : XR P w K mg base "TooMany" (He.ga K "TooMany") ["what", "many", "most"] := xr_TooMany x_TooMany_F (xB_ok x_TooMany_1) x_TooMany_g (of_decide_eq_true x_TooMany_3) (of_decide_eq_true x_TooMany_5) fun n hn => of_decide_eq_true (List.all_eq_true.mp x_TooMany_6 n hn)
  obtain ⟨x_BadRow_d, x_BadRow_F⟩ := c.fun_ (d := dMet "BadRow" "__init__" "BadRow.__init__" (inClass (top 13) 0)) (st := inClass (top 13) 0) (List.mem_of_getElem? (i := 30) rfl) rfl rfl rfl rfl
  have x_BadRow_g := c.glo Kb hm 33 (x := "BadRow") rfl
  obtain ⟨x_BadRow_1, x_BadRow_2⟩ := He.ba (c.is 8 rfl)
  unfold iniB at x_BadRow_2
  obtain ⟨x_BadRow_3, x_BadRow_4⟩ := He.ba x_BadRow_2
  obtain ⟨x_BadRow_5, x_BadRow_6⟩ := He.ba x_BadRow_4
  have x_BadRow_X : XR P w K mg base "BadRow" (He.ga K "BadRow") ["number"] := xr_BadRow x_BadRow_F (xB_ok x_BadRow_1) x_BadRow_g (of_decide_eq_true x_BadRow_3) (of_decide_eq_true x_BadRow_5) fun n hn => of_decide_eq_true (List.all_eq_true.mp x_BadRow_6 n hn)
  obtain ⟨x_Lone_d, x_Lone_F⟩ := c.fun_ (d := dMet "Lone" "__init__" "Lone.__init__" (inClass (top 14) 0)) (st := inClass (top 14) 0) (List.mem_of_getElem? (i := 31) rfl) rfl rfl rfl rfl
  have x_Lone_g := c.glo Kb hm 34 (x := "Lone") rfl
  obtain ⟨x_Lone_1, x_Lone_2⟩ := He.ba (c.is 9 rfl)
  unfold iniB at x_Lone_2
  obtain ⟨x_Lone_3, x_Lone_4⟩ := He.ba x_Lone_2
  obtain ⟨x_Lone_5, x_Lone_6⟩ := He.ba x_Lone_4
  have x_Lone_X : XR P w K mg base "Lone" (He.ga K "Lone") ["place"] := xr_Lone x_Lone_F (xB_ok x_Lone_1) x_Lone_g (of_decide_eq_true x_Lone_3) (of_decide_eq_true x_Lone_5) fun n hn => of_decide_eq_true (List.all_eq_true.mp x_Lone_6 n hn)
  obtain ⟨x_NoPlace_d, x_NoPlace_F⟩ := c.fun_ (d := dMet "NoPlace" "__init__" "NoPlace.__init__" (inClass (top 15) 0)) (st := inClass (top 15) 0) (List.mem_of_getElem? (i := 32) rfl) rfl rfl rfl rfl
  have x_NoPlace_g := c.glo Kb hm 35 (x := "NoPlace") rfl
  obtain ⟨x_NoPlace_1, x_NoPlace_2⟩ := He.ba (c.is 10 rfl)
  unfold iniB at x_NoPlace_2
  obtain ⟨x_NoPlace_3, x_NoPlace_4⟩ := He.ba x_NoPlace_2
  obtain ⟨x_NoPlace_5, x_NoPlace_6⟩ := He.ba x_NoPlace_4
  have x_NoPlace_X : XR P w K mg base "NoPlace" (He.ga K "NoPlace") ["place"] := xr_NoPlace x_NoPlace_F (xB_ok x_NoPlace_1) x_NoPlace_g (of_decide_eq_true x_NoPlace_3) (of_decide_eq_true x_NoPlace_5) fun n hn => of_decide_eq_true (List.all_eq_true.mp x_NoPlace_6 n hn)
  obtain ⟨m_Tree_init_d, m_Tree_init_F⟩ := c.fun_ (d := dMet "Tree" "__init__" "Tree.__init__" (inClass (top 37) 0)) (st := inClass (top 37) 0) (List.mem_of_getElem? (i := 33) rfl) rfl rfl rfl rfl
  have m_Tree_init_b : Binds K m_Tree_init_d ["self", "letters", "rows"] [] := Fun.binds m_Tree_init_F fun _ _ _ _ _ _ us hl => match us, hl with | [_, _, _], _ => rfl
  obtain ⟨m_Tree_eq_d, m_Tree_eq_F⟩ := c.fun_ (d := dMet "Tree" "__eq__" "Tree.__eq__" (inClass (top 37) 2)) (st := inClass (top 37) 2) (List.mem_of_getElem? (i := 34) rfl) rfl rfl rfl rfl
  have m_Tree_eq_b : Binds K m_Tree_eq_d ["self", "other"] [] := Fun.binds m_Tree_eq_F fun _ _ _ _ _ _ us hl => match us, hl with | [_, _], _ => rfl
  obtain ⟨m_Grove_init_d, m_Grove_init_F⟩ := c.fun_ (d := dMet "Grove" "__init__" "Grove.__init__" (inClass (top 58) 0)) (st := inClass (top 58) 0) (List.mem_of_getElem? (i := 35) rfl) rfl rfl rfl rfl
  have m_Grove_init_b : Binds K m_Grove_init_d ["self", "letters", "rules", "root"] [] := Fun.binds m_Grove_init_F fun _ _ _ _ _ _ us hl => match us, hl with | [_, _, _, _], _ => rfl
  obtain ⟨m_Grove_way_d, m_Grove_way_F⟩ := c.fun_ (d := dMet "Grove" "way" "Grove.way" (inClass (top 58) 2)) (st := inClass (top 58) 2) (List.mem_of_getElem? (i := 36) rfl) rfl rfl rfl rfl
  have m_Grove_way_b : Binds K m_Grove_way_d ["self", "word"] [] := Fun.binds m_Grove_way_F fun _ _ _ _ _ _ us hl => match us, hl with | [_, _], _ => rfl
  obtain ⟨m_Grove_has_d, m_Grove_has_F⟩ := c.fun_ (d := dMet "Grove" "has" "Grove.has" (inClass (top 58) 3)) (st := inClass (top 58) 3) (List.mem_of_getElem? (i := 37) rfl) rfl rfl rfl rfl
  have m_Grove_has_b : Binds K m_Grove_has_d ["self", "place"] [] := Fun.binds m_Grove_has_F fun _ _ _ _ _ _ us hl => match us, hl with | [_, _], _ => rfl
  obtain ⟨m_Grove_name_at_d, m_Grove_name_at_F⟩ := c.fun_ (d := dMet "Grove" "name_at" "Grove.name_at" (inClass (top 58) 4)) (st := inClass (top 58) 4) (List.mem_of_getElem? (i := 38) rfl) rfl rfl rfl rfl
  have m_Grove_name_at_b : Binds K m_Grove_name_at_d ["self", "place"] [] := Fun.binds m_Grove_name_at_F fun _ _ _ _ _ _ us hl => match us, hl with | [_, _], _ => rfl
  obtain ⟨m_Grove_row_d, m_Grove_row_F⟩ := c.fun_ (d := dMet "Grove" "row" "Grove.row" (inClass (top 58) 5)) (st := inClass (top 58) 5) (List.mem_of_getElem? (i := 39) rfl) rfl rfl rfl rfl
  have m_Grove_row_b : Binds K m_Grove_row_d ["self", "place"] [] := Fun.binds m_Grove_row_F fun _ _ _ _ _ _ us hl => match us, hl with | [_, _], _ => rfl
  obtain ⟨m_Grove_below_d, m_Grove_below_F⟩ := c.fun_ (d := dMet "Grove" "below" "Grove.below" (inClass (top 58) 6)) (st := inClass (top 58) 6) (List.mem_of_getElem? (i := 40) rfl) rfl rfl rfl rfl
  have m_Grove_below_b : Binds K m_Grove_below_d ["self", "place"] [] := Fun.binds m_Grove_below_F fun _ _ _ _ _ _ us hl => match us, hl with | [_, _], _ => rfl
  obtain ⟨m_Grove_check_word_d, m_Grove_check_word_F⟩ := c.fun_ (d := dMet "Grove" "check_word" "Grove.check_word" (inClass (top 58) 7)) (st := inClass (top 58) 7) (List.mem_of_getElem? (i := 41) rfl) rfl rfl rfl rfl
  have m_Grove_check_word_b : Binds K m_Grove_check_word_d ["self", "word"] [] := Fun.binds m_Grove_check_word_F fun _ _ _ _ _ _ us hl => match us, hl with | [_, _], _ => rfl
  obtain ⟨m_Grove_begins_d, m_Grove_begins_F⟩ := c.fun_ (d := dMet "Grove" "begins" "Grove.begins" (inClass (top 58) 8)) (st := inClass (top 58) 8) (List.mem_of_getElem? (i := 42) rfl) rfl rfl rfl rfl
  have m_Grove_begins_b : Binds K m_Grove_begins_d ["self", "word"] [] := Fun.binds m_Grove_begins_F fun _ _ _ _ _ _ us hl => match us, hl with | [_, _], _ => rfl
  obtain ⟨m_Grove_many_ahead_d, m_Grove_many_ahead_F⟩ := c.fun_ (d := dMet "Grove" "many_ahead" "Grove.many_ahead" (inClass (top 58) 9)) (st := inClass (top 58) 9) (List.mem_of_getElem? (i := 43) rfl) rfl rfl rfl rfl
  have m_Grove_many_ahead_b : Binds K m_Grove_many_ahead_d ["self", "name", "letter"] [] := Fun.binds m_Grove_many_ahead_F fun _ _ _ _ _ _ us hl => match us, hl with | [_, _, _], _ => rfl
  obtain ⟨m_Grove_rank_d, m_Grove_rank_F⟩ := c.fun_ (d := dMet "Grove" "rank" "Grove.rank" (inClass (top 58) 10)) (st := inClass (top 58) 10) (List.mem_of_getElem? (i := 44) rfl) rfl rfl rfl rfl
  have m_Grove_rank_b : Binds K m_Grove_rank_d ["self", "word"] [] := Fun.binds m_Grove_rank_F fun _ _ _ _ _ _ us hl => match us, hl with | [_, _], _ => rfl
  obtain ⟨m_Grove_word_of_d, m_Grove_word_of_F⟩ := c.fun_ (d := dMet "Grove" "word_of" "Grove.word_of" (inClass (top 58) 11)) (st := inClass (top 58) 11) (List.mem_of_getElem? (i := 45) rfl) rfl rfl rfl rfl
  have m_Grove_word_of_b : Binds K m_Grove_word_of_d ["self", "rank"] [] := Fun.binds m_Grove_word_of_F fun _ _ _ _ _ _ us hl => match us, hl with | [_, _], _ => rfl
  obtain ⟨m_Grove_unfolded_d, m_Grove_unfolded_F⟩ := c.fun_ (d := dMet "Grove" "unfolded" "Grove.unfolded" (inClass (top 58) 12)) (st := inClass (top 58) 12) (List.mem_of_getElem? (i := 46) rfl) rfl rfl rfl rfl
  have m_Grove_unfolded_b : Binds K m_Grove_unfolded_d ["self"] [] := Fun.binds m_Grove_unfolded_F fun _ _ _ _ _ _ us hl => match us, hl with | [_], _ => rfl
  have f_isinstance := c.free Kb hm 36 (x := "isinstance") rfl
  have f_str := c.free Kb hm 37 (x := "str") rfl
  have f_len := c.free Kb hm 38 (x := "len") rfl
  have f_set := c.free Kb hm 39 (x := "set") rfl
  have f_all := c.free Kb hm 40 (x := "all") rfl
  have f_tuple := c.free Kb hm 41 (x := "tuple") rfl
  have f_list := c.free Kb hm 42 (x := "list") rfl
  have f_bool := c.free Kb hm 43 (x := "bool") rfl
  have f_dict := c.free Kb hm 44 (x := "dict") rfl
  have f_enumerate := c.free Kb hm 45 (x := "enumerate") rfl
  have f_max := c.free Kb hm 46 (x := "max") rfl
  have f_sorted := c.free Kb hm 47 (x := "sorted") rfl
  have f_int := c.free Kb hm 48 (x := "int") rfl
  have f_abs := c.free Kb hm 49 (x := "abs") rfl
  have f_range := c.free Kb hm 50 (x := "range") rfl
  have f_min := c.free Kb hm 51 (x := "min") rfl
  have f_sum := c.free Kb hm 52 (x := "sum") rfl
  have f_zip := c.free Kb hm 53 (x := "zip") rfl
  have g_TreesError := c.glo Kb hm 28 (x := "TreesError") rfl
  have g_Tree := c.glo Kb hm 29 (x := "Tree") rfl
  have g_Grove := c.glo Kb hm 30 (x := "Grove") rfl
  have g_BadLetters := c.glo Kb hm 31 (x := "BadLetters") rfl
  have g_TooMany := c.glo Kb hm 32 (x := "TooMany") rfl
  have g_BadRow := c.glo Kb hm 33 (x := "BadRow") rfl
  have g_Lone := c.glo Kb hm 34 (x := "Lone") rfl
  have g_NoPlace := c.glo Kb hm 35 (x := "NoPlace") rfl
  have s_ALPHABET := He.str_ok Kb hm (c.fact 54 (f := .str "ALPHABET" alpha) rfl)
  have s_CAPITALS := He.str_ok Kb hm (c.fact 55 (f := .str "CAPITALS" caps) rfl)
  have i_LONGEST_WORD := He.int_ok Kb hm (c.fact 56 (f := .int "LONGEST_WORD" 200) rfl)
  have i_MOST_PLACES := He.int_ok Kb hm (c.fact 57 (f := .int "MOST_PLACES" 2000) rfl)
  have i_LONGEST_NAME := He.int_ok Kb hm (c.fact 58 (f := .int "LONGEST_NAME" 8) rfl)
  have i_MOST_RULES := He.int_ok Kb hm (c.fact 59 (f := .int "MOST_RULES" 1000) rfl)
  have c_Tree := He.cls_ok (c.fact 60 (f := .cls "Tree") rfl)
  have c_Grove := He.cls_ok (c.fact 61 (f := .cls "Grove") rfl)
  have n_Tree__below := He.noat_ok (c.fact 62 (f := .noat "Tree" "_below") rfl)
  have n_Tree__table := He.noat_ok (c.fact 63 (f := .noat "Tree" "_table") rfl)
  have n_Tree_letters := He.noat_ok (c.fact 64 (f := .noat "Tree" "letters") rfl)
  have n_Tree_rows := He.noat_ok (c.fact 65 (f := .noat "Tree" "rows") rfl)
  have n_Tree_size := He.noat_ok (c.fact 66 (f := .noat "Tree" "size") rfl)
  have n_Tree_height := He.noat_ok (c.fact 67 (f := .noat "Tree" "height") rfl)
  have n_Grove__rules := He.noat_ok (c.fact 68 (f := .noat "Grove" "_rules") rfl)
  have n_Grove__sizes := He.noat_ok (c.fact 69 (f := .noat "Grove" "_sizes") rfl)
  have n_Grove__manys := He.noat_ok (c.fact 70 (f := .noat "Grove" "_manys") rfl)
  have n_Grove_letters := He.noat_ok (c.fact 71 (f := .noat "Grove" "letters") rfl)
  have n_Grove_root := He.noat_ok (c.fact 72 (f := .noat "Grove" "root") rfl)
  have n_Grove_size := He.noat_ok (c.fact 73 (f := .noat "Grove" "size") rfl)
  have n_Grove_many := He.noat_ok (c.fact 74 (f := .noat "Grove" "many") rfl)
  have t_Grove_way := He.meth_ok (c.fact 75 (f := .meth "Grove" "way") rfl)
  have t_Grove_has := He.meth_ok (c.fact 76 (f := .meth "Grove" "has") rfl)
  have t_Grove_name_at := He.meth_ok (c.fact 77 (f := .meth "Grove" "name_at") rfl)
  have t_Grove_row := He.meth_ok (c.fact 78 (f := .meth "Grove" "row") rfl)
  have t_Grove_below := He.meth_ok (c.fact 79 (f := .meth "Grove" "below") rfl)
  have t_Grove_check_word := He.meth_ok (c.fact 80 (f := .meth "Grove" "check_word") rfl)
  have t_Grove_begins := He.meth_ok (c.fact 81 (f := .meth "Grove" "begins") rfl)
  have t_Grove_many_ahead := He.meth_ok (c.fact 82 (f := .meth "Grove" "many_ahead") rfl)
  have t_Grove_rank := He.meth_ok (c.fact 83 (f := .meth "Grove" "rank") rfl)
  have t_Grove_word_of := He.meth_ok (c.fact 84 (f := .meth "Grove" "word_of") rfl)
  have t_Grove_unfolded := He.meth_ok (c.fact 85 (f := .meth "Grove" "unfolded") rfl)
  have k_Tree := He.mkr_ok (c.fact 86 (f := .mkr "Tree") rfl)
  have k_Grove := He.mkr_ok (c.fact 87 (f := .mkr "Grove") rfl)
  have e_NoPlace_NoPlace := He.exm_ok (c.fact 88 (f := .exm "NoPlace" "NoPlace" true) rfl)
  have ex_0 := c.is 1 (b := ratB K (He.ga K "Tree")) rfl
  have ex_1 := c.is 2 (b := hasB K (He.ga K "Tree") "__eq__") rfl
  have ex_2 := c.is 3 (b := propB K (He.ga K "Grove") "rules") rfl
  have ex_3 := c.is 4 (b := rulD.ok K) rfl
  have ex_4 := c.is 5 (b := decide ((He.cT K ("in_order", none)).2 ≠ (He.cT K ("_law_is_placed", none)).2)) rfl
  have sys : ∃ o, K.lookup sysModules = some o := Option.isSome_iff_exists.mp (c.is 0 rfl)
  obtain ⟨tA, gA⟩ := s_ALPHABET
  obtain ⟨tC, gC⟩ := s_CAPITALS
  obtain ⟨tW, gW⟩ := i_LONGEST_WORD
  obtain ⟨tM, gM⟩ := i_MOST_PLACES
  obtain ⟨tN, gN⟩ := i_LONGEST_NAME
  obtain ⟨tR, gR⟩ := i_MOST_RULES
  have no : ∀ g ∈ six6, NoAttr K (He.ga K "Tree") g := fun g hg => by
    simp only [six6, List.mem_cons, List.mem_nil_iff, or_false] at hg
    rcases hg with rfl | rfl | rfl | rfl | rfl | rfl
    · exact n_Tree__below
    · exact n_Tree__table
    · exact n_Tree_letters
    · exact n_Tree_rows
    · exact n_Tree_size
    · exact n_Tree_height
  have no7 : ∀ g ∈ sev7, NoAttr K (He.ga K "Grove") g := fun g hg => by
    simp only [sev7, List.mem_cons, List.mem_nil_iff, or_false] at hg
    rcases hg with rfl | rfl | rfl | rfl | rfl | rfl | rfl
    · exact n_Grove__rules
    · exact n_Grove__sizes
    · exact n_Grove__manys
    · exact n_Grove_letters
    · exact n_Grove_root
    · exact n_Grove_size
    · exact n_Grove_many
  have R : TreeK K (He.ga K "Tree") := ratB_ok ex_0 c_Tree no
  have R0 : GroveK K (He.ga K "Grove") := ⟨c_Grove, no7⟩
  have ME : Has K (He.ga K "Tree") "__eq__" (He.ma K (He.ga K "Tree") "__eq__") := hasB_ok ex_1
  have PR : PropOf K (He.ga K "Grove") "rules" (He.ma K (He.ga K "Grove") "rules") (wfR K) := propB_ok ex_2
  obtain ⟨fdRu, FD⟩ := He5.DefA.funD (d := rulD) cO ex_3
  have FRu : Fun K "rules" "Grove.rules" (gm 1) (wfR K) fdRu := He5.fun_of FD
  have bRu : Binds K fdRu ["self"] [] := Fun.binds FRu fun _ _ _ _ _ _ us hl => match us, hl with | [_], _ => rfl
  have ne01 := of_decide_eq_true ex_4
  have tb0 := TB (He.cT K ("in_order", none)) (List.mem_map.mpr ⟨("in_order", none), .head _, rfl⟩)
  have hm0 : ((He.cT K ("in_order", none)).2, ("in_order" : Str) ++ ".<locals>." ++ "<lambda>") ∈ TK K := .head _
  have hu0 : ∀ p ∈ TK K, p.1 = (He.cT K ("in_order", none)).2 → p.2 = ("in_order" : Str) ++ ".<locals>." ++ "<lambda>" := fun p hp e => by
    simp only [TK, List.mem_cons, List.mem_nil_iff, or_false] at hp
    rcases hp with rfl | rfl
    · rfl
    · exact absurd e.symm ne01
  have tb1 := TB (He.cT K ("_law_is_placed", none)) (List.mem_map.mpr ⟨("_law_is_placed", none), .tail _ (.head _), rfl⟩)
  have hm1 : ((He.cT K ("_law_is_placed", none)).2, ("_law_is_placed" : Str) ++ ".<locals>." ++ "<lambda>") ∈ TK K := .tail _ (.head _)
  have hu1 : ∀ p ∈ TK K, p.1 = (He.cT K ("_law_is_placed", none)).2 → p.2 = ("_law_is_placed" : Str) ++ ".<locals>." ++ "<lambda>" := fun p hp e => by
    simp only [TK, List.mem_cons, List.mem_nil_iff, or_false] at hp
    rcases hp with rfl | rfl
    · exact absurd e ne01
    · rfl
  have GL := ok_letters (P := P) (w := w) (base := base) v_is_letters_F f_isinstance f_str f_len f_set f_all gA
  have GCL := ok_checkL v_check_letters_F x_BadLetters_X v_is_letters_g v_is_letters_F.kp GL v_is_letters_b
  have GW := ok_word (P := P) (w := w) (base := base) v_is_word_F f_isinstance f_str f_len f_all gW
  have GCP := ok_checkP v_check_places_F x_TooMany_X gM
  have GO := ok_order (P := P) (w := w) (base := base) (T := TK K) v_in_order_F f_enumerate f_sorted gA tb0 hm0 hu0
  have GR := ok_row v_is_row_F f_isinstance f_tuple f_list f_bool f_len v_is_word_g v_is_word_F.kp GW v_is_word_b
  have GT := ok_table v_table_of_F x_BadRow_X f_enumerate f_tuple v_is_row_g v_is_row_F.kp GR v_is_row_b
  have GB := ok_below v_letters_below_F x_Lone_X
  have GI := ok_init (C := ⟨He.ga K "BadLetters", He.ga K "TooMany", He.ga K "BadRow", He.ga K "Lone"⟩) (T := TK K) m_Tree_init_F c_Tree no f_len f_list f_tuple f_max v_check_letters_g v_check_letters_F.kp GCL v_check_letters_b v_check_places_g v_check_places_F.kp GCP v_check_places_b v_table_of_g v_table_of_F.kp GT v_table_of_b v_in_order_g v_in_order_F.kp GO v_in_order_b v_letters_below_g v_letters_below_F.kp GB v_letters_below_b
  have GE := ok_eqT (P := P) (w := w) (base := base) m_Tree_eq_F R f_isinstance g_Tree
  have GNm := ok_nm (P := P) (w := w) (base := base) v_is_name_F f_isinstance f_str f_len f_all gN gC
  have GKe := ok_key (P := P) (w := w) (base := base) v_is_key_F f_isinstance f_str
  have GRl := ok_rule v_is_rule_F f_isinstance f_str f_bool f_dict f_tuple f_list f_len f_all v_is_key_g v_is_key_F.kp GKe v_is_key_b
  have GNu := ok_num (P := P) (w := w) (base := base) v_check_number_F gR
  have GCr := ok_rules v_check_rules_F f_len v_check_number_g v_check_number_F.kp GNu v_check_number_b v_is_name_g v_is_name_F.kp GNm v_is_name_b v_is_rule_g v_is_rule_F.kp GRl v_is_rule_b
  have GCo := ok_copy (P := P) (w := w) (base := base) (mg := mg) v_copied_F
  have GPa := ok_parts (P := P) (w := w) (base := base) (mg := mg) v_parts_of_F
  have GBo := ok_bot v_bottom_up_F f_len v_parts_of_g v_parts_of_F.kp GPa v_parts_of_b
  have GG := ok_initG m_Grove_init_F R0 f_isinstance f_str f_len f_sum f_max gW v_check_letters_g v_check_letters_F.kp GCL v_check_letters_b v_check_rules_g v_check_rules_F.kp GCr v_check_rules_b v_copied_g v_copied_F.kp GCo v_copied_b v_bottom_up_g v_bottom_up_F.kp GBo v_bottom_up_b v_parts_of_g v_parts_of_F.kp GPa v_parts_of_b
  have GRu := ok_rulesM FRu R0 v_copied_g v_copied_F.kp GCo v_copied_b
  have GWay := ok_way (P := P) (w := w) (base := base) (mg := mg) m_Grove_way_F R0
  have GHas := ok_hasG m_Grove_has_F R0 f_isinstance f_str f_len t_Grove_way GWay m_Grove_way_b
  have GNa := ok_nameAt m_Grove_name_at_F R0 x_NoPlace_X t_Grove_has GHas m_Grove_has_b t_Grove_way GWay m_Grove_way_b
  have GRw := ok_rowG m_Grove_row_F R0 t_Grove_name_at GNa m_Grove_name_at_b
  have GBe := ok_belG m_Grove_below_F R0 t_Grove_name_at GNa m_Grove_name_at_b
  have GCk := ok_ckW m_Grove_check_word_F R0 v_is_word_g v_is_word_F.kp GW v_is_word_b
  have GBg := ok_begG m_Grove_begins_F R0 t_Grove_check_word GCk m_Grove_check_word_b t_Grove_has GHas m_Grove_has_b t_Grove_way GWay m_Grove_way_b
  have GAh := ok_ahead (P := P) (w := w) (base := base) m_Grove_many_ahead_F R0 f_sum
  have GRk := ok_rankG m_Grove_rank_F R0 f_sum f_zip t_Grove_check_word GCk m_Grove_check_word_b t_Grove_way GWay m_Grove_way_b t_Grove_many_ahead GAh m_Grove_many_ahead_b
  have GWo := ok_wordOf m_Grove_word_of_F R0 f_isinstance f_int f_bool t_Grove_many_ahead GAh m_Grove_many_ahead_b
  have GUn := ok_unf m_Grove_unfolded_F R0 gM g_Tree k_Tree GI m_Tree_init_b
  have GPen := ok_pen (P := P) (w := w) (base := base) v_law_pen_of_F f_list
  have GD := ok_draw (P := P) (w := w) (base := base) v_law_draw_F f_int f_len f_abs
  have GPi := ok_pick v_law_pick_F f_len v_law_draw_g v_law_draw_F.kp GD v_law_draw_b
  have GShS := ok_shufS v_law_shuffled_F f_len f_list v_law_draw_g v_law_draw_F.kp GD v_law_draw_b
  have GShA := ok_shufA v_law_shuffled_F f_len f_list v_law_draw_g v_law_draw_F.kp GD v_law_draw_b
  have GSix := ok_six v_law_letters_of_F v_law_pick_g v_law_pick_F.kp GPi v_law_pick_b
  have GLO := ok_ordL (P := P) (w := w) (base := base) v_law_in_order_F f_sorted sys
  have GTo := ok_told v_law_told_rules_F f_range f_min f_sum v_law_draw_g v_law_draw_F.kp GD v_law_draw_b v_law_pick_g v_law_pick_F.kp GPi v_law_pick_b v_law_shuffled_g v_law_shuffled_F.kp GShS v_law_shuffled_b
  have GUl := ok_unfL v_law_unfolded_F f_list v_law_in_order_g v_law_in_order_F.kp GLO v_law_in_order_b
  have GRd := ok_readG v_law_is_read_F R0 R f_len f_enumerate g_Tree k_Tree GI m_Tree_init_b ME GE m_Tree_eq_b t_Grove_unfolded GUn m_Grove_unfolded_b t_Grove_word_of GWo m_Grove_word_of_b t_Grove_row GRw m_Grove_row_b t_Grove_below GBe m_Grove_below_b t_Grove_has GHas m_Grove_has_b
  have GPl := ok_placed (T0 := TK K) v_law_is_placed_F tb1 hm1 hu1 R0 f_len x_NoPlace_X e_NoPlace_NoPlace v_law_met_g v_law_met_F v_law_met_b v_law_in_order_g v_law_in_order_F.kp GLO v_law_in_order_b t_Grove_rank GRk m_Grove_rank_b t_Grove_begins GBg m_Grove_begins_b t_Grove_row GRw m_Grove_row_b t_Grove_below GBe m_Grove_below_b t_Grove_has GHas m_Grove_has_b
  exact ⟨v_law_d, v_law_b, FnG.of (ok_law25 v_law_F R0 f_range f_list f_dict f_tuple f_len f_min g_Grove k_Grove GG m_Grove_init_b PR GRu bRu v_law_pen_of_g v_law_pen_of_F.kp GPen v_law_pen_of_b v_law_draw_g v_law_draw_F.kp GD v_law_draw_b v_law_pick_g v_law_pick_F.kp GPi v_law_pick_b v_law_letters_of_g v_law_letters_of_F.kp GSix v_law_letters_of_b v_law_shuffled_g v_law_shuffled_F.kp GShA v_law_shuffled_b v_law_told_rules_g v_law_told_rules_F.kp GTo v_law_told_rules_b v_law_unfolded_g v_law_unfolded_F.kp GUl v_law_unfolded_b v_law_is_read_g v_law_is_read_F.kp GRd v_law_is_read_b v_law_is_placed_g v_law_is_placed_F.kp GPl v_law_is_placed_b)⟩
end
end SK
namespace SK
open PySem PySem.Spec PyProof.Rows L2 LamX NdefX
abbrev RR : PySem.W.OpenRow := PySem.W.OpenLaw.row PySem.Challenge.rw_lettertrees_k25_whole_groves_read
def namesK : List Str := [("STOP" : Str), ("GO_DOWN" : Str), ("holds" : Str), ("do_make" : Str), ("do_cut" : Str), ("do_one" : Str), ("do_block" : Str), ("come_down" : Str), ("TreesError" : Str), ("BadLetters" : Str), ("TooMany" : Str), ("BadRow" : Str), ("Lone" : Str), ("NoPlace" : Str), ("BadWord" : Str), ("BadRule" : Str), ("Ring" : Str), ("NoRule" : Str), ("BadRank" : Str), ("ALPHABET" : Str), ("LONGEST_WORD" : Str), ("MOST_PLACES" : Str), ("is_letters" : Str), ("check_letters" : Str), ("is_word" : Str), ("check_words" : Str), ("check_places" : Str), ("in_order" : Str), ("is_row" : Str), ("table_of" : Str), ("letters_below" : Str), ("shared" : Str), ("number_of_beginnings" : Str), ("marks_of" : Str), ("Tree" : Str), ("Place" : Str), ("Call" : Str), ("CAPITALS" : Str), ("LONGEST_NAME" : Str), ("MOST_RULES" : Str), ("is_name" : Str), ("is_key" : Str), ("is_rule" : Str), ("check_number" : Str), ("check_rules" : Str), ("copied" : Str), ("parts_of" : Str), ("bottom_up" : Str), ("all_below" : Str), ("first_on_ring" : Str), ("name_of" : Str), ("fresh_names" : Str), ("Grove" : Str), ("_law_pen_of" : Str), ("_law_draw" : Str), ("_law_pick" : Str), ("_law_shuffled" : Str), ("_law_letters_of" : Str), ("_law_in_order" : Str), ("_law_met" : Str), ("_law_told_rules" : Str), ("_law_unfolded" : Str), ("_law_is_read" : Str), ("_law_is_placed" : Str)]
theorem map3 {α β γ δ : Type} {x : Option α} {f : α → β} {g : α → γ} {h : α → δ} {b : β} {c : γ} {d : δ} (h1 : x.map f = some b) (h2 : x.map g = some c) (h3 : x.map h = some d) : x.map (fun s => (f s, g s, h s)) = some (b, c, d) := by
  cases x with
  | none => cases h1
  | some y =>
    injection h1 with h1
    injection h2 with h2
    injection h3 with h3
    show some (f y, g y, h y) = _
    rw [h1, h2, h3]
section
open PySem PySem.W PySem.Calls PyProof.Rows HandSHeadRun
theorem runA (w : World) (os : OsState) : (HandSHeadRun.endF (HandSHeadRun.stepQ (HandSHeadRun.denQ HandSHeadRun.tabQ) RR.prog w) 9000 RR.prog w os).map (fun s => HandSHeadRun.looksF RR.prog (boot_heap w.params) s.abs) = some true := by kernel_rfl
theorem runB (w : World) (os : OsState) : (HandSHeadRun.endF (HandSHeadRun.stepQ (HandSHeadRun.denQ HandSHeadRun.tabQ) RR.prog w) 9000 RR.prog w os).map (fun s => HandSHeadRun.seenQ (PySem.W.view RR.prog [71]) namesK (importedModules RR.prog.main.body) (fun s => xlAt (PySem.W.view RR.prog [71]) [] s && recOk RR.toRowW.records s) s.abs) = some (openGood (PySem.W.view RR.prog [71]) namesK) := by kernel_rfl
theorem runC (w : World) (os : OsState) : (HandSHeadRun.endF (HandSHeadRun.stepQ (HandSHeadRun.denQ HandSHeadRun.tabQ) RR.prog w) 9000 RR.prog w os).map obK = some (hkK.val w) := by kernel_rfl
end
theorem runK (w : World) : HandSHeadRun.RunEq RR (PySem.W.view RR.prog [71]) hkK obK 9000 namesK w := fun os => map3 (runA w os) (runB w os) (runC w os)
end SK
open PySem PySem.W PySem.Calls PyProof.Rows
theorem PySem.Challenge.cw_lettertrees_k25_whole_groves_read_holds : PySem.Challenge.rw_lettertrees_k25_whole_groves_read.Holds := by
  w_on; o_law
  refine HandSHeadRun.head_any (r := SK.RR) (q := view SK.RR.prog [71]) (H := SK.hkK) (ob := SK.obK) (M := 9000) (loose := SK.namesK) (d := HandSHeadRun.topDef SK.RR.prog 71) (kwd := []) SK.obK_eq
    (by kernel_rfl) (fun s => by kernel_rfl) SK.runK (by kernel_rfl) (by kernel_rfl) (by kernel_rfl) (by rfl) (by first | assumption | decide +kernel) (by decide +kernel) ⟨rfl, rfl, rfl, rfl, rfl, by decide +kernel⟩ ?hw ?hc
  case hw => w_witness2
  case hc =>
    refine Att.attach_call (l := PySem.Challenge.rw_lettertrees_k25_whole_groves_read) (n := 63) rfl (by kernel_rfl) fun w s₀ s₁ mg mb fa o pm cd doc a vs ns G Y ho hd hcd hmg hobj hints hlen hg => ?_
    obtain ⟨K, KX, c, cO⟩ := Y
    have hl : mg ("law" : PySem.Str) = some (.ref (He.ga K "law")) := SK.SaysK.glo c KX G.T.g 25 rfl
    have hmg' : mg ("law" : PySem.Str) = some (.ref fa) := by
      have e : (HandSHeadRun.topDef SK.RR.prog 71).name = ("law" : PySem.Str) := by kernel_rfl
      rw [← e]
      exact hmg
    rw [hmg'] at hl
    have ef : fa = He.ga K "law" := Value.ref.inj (Option.some.inj hl)
    rw [ef]
    have mem : ∀ P ∈ (SK.tabsK K).map (·.2), ∃ p ∈ SK.tf25, (He.cT K p).2 = P := fun P hP => by
      obtain ⟨q, hq, rfl⟩ := List.mem_map.mp hP
      obtain ⟨p, hp, rfl⟩ := List.mem_map.mp hq
      exact ⟨p, hp, rfl⟩
    refine SK.run_lawG (ps := SK.tabsK K) (T := SK.TK K) (K := K) (mg := mg) (mb := mb) (fun base Kb hm TB => SK.law_all c cO Kb hm TB) ⟨rfl, by decide, by decide⟩ (fun H a ns h1 h2 h3 => ⟨a, ns, rfl, h1, h2, h3, fun _ => rfl⟩) ?_ KX G.T.g G.T.b G.T.builtins G.T.nolimit hg (fun P hP => ?_) (fun P hP => ?_) (fun p hp => ?_) G.T.bmain hobj hints hlen
    · intro p hp
      simp only [SK.TK, List.mem_cons, List.mem_nil_iff, or_false] at hp
      rcases hp with rfl | rfl
      · exact List.mem_map.mpr ⟨_, List.mem_map.mpr ⟨("in_order", none), .head _, rfl⟩, rfl⟩
      · exact List.mem_map.mpr ⟨_, List.mem_map.mpr ⟨("_law_is_placed", none), .tail _ (.head _), rfl⟩, rfl⟩
    · obtain ⟨p, hp, rfl⟩ := mem P hP
      exact c.empty p hp
    · obtain ⟨p, hp, rfl⟩ := mem P hP
      exact c.out p hp
    · obtain ⟨q, hq, rfl⟩ := List.mem_map.mp hp
      exact codeHd_of_K KX (c.hd q hq)
