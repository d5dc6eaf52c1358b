import PyProof.Rows.All
import Wide.All
import OpenK.AllK
import Wide.FinOn
import HandS.ForSpec
import HandS.ExcInit
import KE.KExcIs
import HandS.IsInst
import HandS.ExcValue
import HandS.Dict
import HandS.SortKw
import KE.SortKeyHeap
import KE.SortCalls
import HandS.Comp
import HandS.Iter
import HandS.Nested
import HandS.Walk
import HandS.DictComp
import KE.GoesMore
import KE.GoesEnum
import HandS.Text
import HandS.Style
import HandS.WordsDict
import PyProof.StrLaws
import HandS.Strs
import HandS.SetTxt0
import HandS.Steps
import HandS.Conv
import HandS.TryMany
import HandS.ExcField
import HandS.ExcIs
import HandS.Replace
import HandS.Deep
import HandS.OwnEq
import HandS.Gcd
import HandS.Wide
import HandS.WideMore
import HandS.FStr
import HandS.Defaults
import PyProof.EqKinds
import PyProof.TwoTypes
import KE.KCallOwn
import PyProof.InstEq
import HandS.More
import HandS.SetKeys
import PyProof.NeKinds
import PyProof.StrLawsRepr
import PyProof.Rows.StrMul
import PyProof.Rows.StrJoinRep
import KE.KDictCopyH
import KE.SortData
import KE.KDictSum
import PyProof.P3Eq
import HandS.TryOnly
import PyProof.P3In
import HandS.ClsMeth
import HandS.HeadHook1
import HandS.HeadHook2
import HandS.Lambda
import HandS.EndTab
import KE.KStateDown
import Lean
import HandS.Head0
import HandS.Head1
import HandS.Head2
import HandS.HeadEnd
import HandS.HeadHook4
import HandS.HeadNt
import PySem.Challenge.RW_lettertrees_k16_whole_exact_rules
set_option Elab.async false
set_option linter.all false
set_option maxRecDepth 100000
set_option maxHeartbeats 0
/-! ### calls of an own exception class with keywords: the boot's __new__ takes any, the own __init__ gets them -/
namespace K0
open PySem PySem.W PySem.Calls PySem.HandSPX
section
variable {M : Model} {A : Around} {E : Value → Shared → Prop} {h : Heap} {g : Array GenState} {d : Drawn} {t : Nat} {os : OsState}
variable {nm q : Str} {C N : Addr} {bs bm bmB : List Value} {hdct : Bool} {sn : List Str} {sub : List Value} {ab : Bool} {col : Option Bool} {dd : Option Addr}
variable {k0 k1 k2 k3 k5 : Option Value} {B newId initId : String}

theorem kw_check_new (F : ExcBaseFacts B newId initId bmB) (hT : ∀ X : String, bm.contains (.type X) = bmB.contains (.type X)) {rest : List Value} {kw : List (Str × Value)} {Q : Unit → Shared → Prop}
    (hC : h.get? C = some (excClassObj nm q C N bs bm hdct sn sub ab col dd k0 k1 k2 k3 k5 newId)) (hq : Q () ⟨h, g, d, t, os⟩) :
    wpAny M A (checkBuiltinCall newId ⟨.ref C :: rest, kw⟩) Q E ⟨h, g, d, t, os⟩ := by
  have hB : (Value.ref C :: bm).contains (.type B) = true := by
    rw [List.contains_cons, hT, F.hasB, Bool.or_true]
  have hs := F.noStar
  simp only [checkBuiltinCall, F.newKind, F.newSplit, F.newRow]
  repeat
    first
    | refine wpAny_loadPart_at hC ?_
    | (refine wpAny_isSubtype_exc hC ?_
       rw [hB])
    | refine wpAny_staticBase_exc hC ?_
    | refine wpAny_madeBy_exc hC ?_
    | simp only [bne_self_eq_false, Bool.false_eq_true, if_false]
    | wp_step
  exact hq
end
section
variable {prog : Program} {w : World} {A : Around} {E : Value → Shared → Prop} {R : Result → Shared → Prop} {h : Heap} {g : Array GenState} {d : Drawn} {t : Nat} {os : OsState}
variable {nm q : Str} {C N : Addr} {bs bm bmB : List Value} {hdct : Bool} {sn : List Str} {sub : List Value} {ab : Bool} {col : Option Bool} {dd : Option Addr}
variable {k0 k1 k2 k3 k5 : Option Value} {B newId initId : String}

/-- the heap with a new exception of the class at C, its args behind it -/
abbrev twoMore (h : Heap) (C : Addr) (rest : List Value) : Heap := (h.push (W.kdv_tup rest)).push (excO C h.objs.size)

theorem kw_new (F : ExcBaseFacts B newId initId bmB) (hT : ∀ X : String, bm.contains (.type X) = bmB.contains (.type X)) {rest : List Value} {kw : List (Str × Value)}
    (hC : h.get? C = some (excClassObj nm q C N bs bm hdct sn sub ab col dd k0 k1 k2 k3 k5 newId))
    (hq : R (.ok (.ret (.ref (h.objs.size + 1)))) ⟨twoMore h C rest, g, d, t, os⟩) (hz : rest.length ≤ sizeLine) :
    codeAny (model prog w) A (.builtin newId ⟨.ref C :: rest, kw⟩) R ⟨h, g, d, t, os⟩ := by
  have e0 := F.ends
  have cB : (Value.ref C :: bm).contains (.type B) = true := by
    rw [List.contains_cons, hT, F.hasB, Bool.or_true]
  have cA : (Value.ref C :: bm).contains (.type "AttributeError") = false := by
    rw [List.contains_cons, hT, F.noAttr] <;> rfl
  have cN : (Value.ref C :: bm).contains (.type "NameError") = false := by
    rw [List.contains_cons, hT, F.noName] <;> rfl
  refine codeAny_builtinAt F.entry ?_
  unfold Builtin.«BaseException.__new__»
  refine wpAt_bind ?_
  show wpAt _ _ _ (stack >>= _) _ _ _
  refine wpAt_bind (wpAt_stack fun p below => wpAt_of_wpAny ?_)
  wp_walk
  refine wpAt_of_wpAny ?_
  rw [F.owner]
  repeat
    first
    | with_reducible refine wpAny_madeHere_exc F.canon hC ?_
    | with_reducible refine wpAny_loadPart_at hC ?_
    | (with_reducible refine wpAny_isSubtype_exc hC ?_
       first | rw [cB] | rw [cA] | rw [cN])
    | wp_step
  show R _ _
  rw [Heap.size_push]
  exact hq

theorem kw_typeCall (F : ExcBaseFacts B newId initId bmB) (hT : ∀ X : String, bm.contains (.type X) = bmB.contains (.type X)) {rest : List Value} {kw : List (Str × Value)} {fI : Addr} {Q : Fin → Shared → Prop}
    (hC : h.get? C = some (excClassObj nm q C N bs bm hdct sn sub ab col dd k0 k1 k2 k3 k5 newId))
    (hi : W.Looks (model prog w) h (typeLookup (.ref C) "__init__") (some (.ref fI))) (hb : ∀ self, W.Looks (model prog w) h (bindSpecial (.ref fI) self) (.ref fI, [self])) (hz : rest.length ≤ sizeLine)
    (hq : codeAny (model prog w) A (.call (.ref fI) ⟨.ref (h.objs.size + 1) :: rest, kw⟩)
      (fun r s' => match r with | .ok (.ret v) => v = .none ∧ Q (.done (.ret (.ref (h.objs.size + 1)))) s' | .ok _ => False | .error e => E e s') ⟨twoMore h C rest, g, d, t, os⟩) :
    wpAny (model prog w) A (Builtin.«type.__call__» ⟨.ref C :: rest, kw⟩) Q E ⟨h, g, d, t, os⟩ := by
  repeat
    first
    | with_reducible refine wpAny_loadPart_at hC ?_
    | with_reducible refine wpAny_madeBy_exc hC ?_
    | wp_step
  refine codeAny_call_builtin_code (Code.quiet_builtin _ F.quiet) (kw_check_new F hT hC ?_)
  refine kw_new F hT hC ?_ hz
  show wpAny _ _ _ _ _ _
  have k : ∀ b o, h.get? b = some o → (twoMore h C rest).get? b = some o := fun b o e => Heap.get?_push_of_some _ (Heap.get?_push_of_some _ e)
  have hC1 := k _ _ hC
  have hx : (twoMore h C rest).get? (h.objs.size + 1) = some (excO C h.objs.size) := by heap_get
  have cC : (Value.ref C :: bm).contains (.ref C) = true := by simp
  have i1 := hi.keeps k
  have b1 := (hb (.ref (h.objs.size + 1))).keeps k
  unfold isInstance
  repeat
    first
    | with_reducible refine wpAny_loadPart_at hx ?_
    | (with_reducible refine wpAny_isSubtype_exc hC1 ?_
       rw [cC])
    | wp_step
  show wpAny _ _ (typeLookup (.ref C) _) _ _ _
  refine i1.at ?_
  refine wpAny_holding (wpAny_bind (b1.at ?_))
  refine wpAny_bind (wpAny_call (codeAny_mono hq fun r s' z => ?_))
  cases r with
  | error e => exact z
  | ok f =>
    cases f with
    | ret v =>
      obtain ⟨rfl, z⟩ := z
      first
      | exact wpAny_pure (wpAny_pure z)
      | (wp_walk
         exact z)
    | next => exact z.elim
    | brk => exact z.elim
    | cont => exact z.elim

theorem kw_checkCall {M : Model} {rest : List Value} {kw : List (Str × Value)} {Q : Unit → Shared → Prop} (hC : h.get? C = some (excClassObj nm q C N bs bm hdct sn sub ab col dd k0 k1 k2 k3 k5 newId))
    (hq : Q () ⟨h, g, d, t, os⟩) : wpAny M A (checkBuiltinCall "type.__call__" ⟨.ref C :: rest, kw⟩) Q E ⟨h, g, d, t, os⟩ := by
  have e3 := tc_sub
  have ty : (⟨h, g, d, t, os⟩ : Shared).TypeIs (.ref C) "type" := ⟨_, hC, rfl⟩
  simp only [checkBuiltinCall, tc_kind, tc_split]
  repeat (any_goals (first
    | assumption
    | with_reducible refine wpAny_loadPart_at hC ?_
    | with_reducible refine wpAny_onRaise ?_
    | with_reducible refine wpAny_map ?_
    | wp_step))

theorem kw_call (F : ExcBaseFacts B newId initId bmB) (hT : ∀ X : String, bm.contains (.type X) = bmB.contains (.type X)) {rest : List Value} {kw : List (Str × Value)} {fI : Addr}
    (hC : h.get? C = some (excClassObj nm q C N bs bm hdct sn sub ab col dd k0 k1 k2 k3 k5 newId))
    (hi : W.Looks (model prog w) h (typeLookup (.ref C) "__init__") (some (.ref fI))) (hb : ∀ self, W.Looks (model prog w) h (bindSpecial (.ref fI) self) (.ref fI, [self])) (hz : rest.length ≤ sizeLine)
    (hq : codeAny (model prog w) (A.under (.builtin "type.__call__" ⟨.ref C :: rest, kw⟩)) (.call (.ref fI) ⟨.ref (h.objs.size + 1) :: rest, kw⟩) (W.InitBack (h.objs.size + 1) R) ⟨twoMore h C rest, g, d, t, os⟩) :
    codeAny (model prog w) A (.call (.ref C) ⟨rest, kw⟩) R ⟨h, g, d, t, os⟩ := by
  have f1 := tc_lookup
  have f2 := tc_bind (.ref C)
  have ty : (⟨h, g, d, t, os⟩ : Shared).TypeIs (.ref C) "type" := ⟨_, hC, rfl⟩
  refine codeAny_of_tree ?_
  show wpAny _ _ (callAny (.ref C) _) _ _ _
  repeat (any_goals (first
    | assumption
    | with_reducible refine wpAny_loadPart_at hC ?_
    | wp_step))
  refine ⟨rfl, ?_⟩
  refine codeAny_call_builtin_at (Code.quiet_builtin _ (by decide +kernel)) entry_typeCall (kw_checkCall hC (kw_typeCall F hT hC hi hb hz ?_))
  refine codeAny_mono hq fun r s' z => ?_
  cases r with
  | error e => exact z
  | ok f => cases f <;> exact z
end
end K0
namespace K0
open PySem PySem.Spec PyProof.Rows L2
abbrev St := L2.St
section
variable {X : Cx} {pins : List (Addr × Obj)} {σ : St} {H H' : Hp} {s : Shared}
/-- things told by what is true of their one object may be forgotten -/
theorem forget (I : Inv X pins σ H' s) (sub : ∀ b o, H b = some o → H' b = some o) (ext : ∀ b o, H' b = some o → H b = some o ∨ ∃ φ, o = HO.ext φ) : Inv X pins σ H s := by
  have fr : ∀ b, H' b = none → H b = none := fun b n => by
    cases q : H b with
    | none => rfl
    | some o =>
      rw [sub b o q] at n
      cases n
  have back : ∀ b o, H' b = some o → (∀ φ, o ≠ HO.ext φ) → H b = some o := fun b o q n => by
    rcases ext b o q with z | ⟨φ, z⟩
    · exact z
    · exact absurd z (n φ)
  refine ⟨I.ok, I.os, I.bare, ⟨I.base.keep, I.base.slot, fun b o e n hx => fr b (I.base.free b o e n hx), I.base.there, fun b xs q => ?_, fun b o u q => ?_, fun b ps q => ?_⟩, I.loc, I.cell, fr _ I.free, fun x c e => fr c (I.freeC x c e), fun p hp => ?_, fun b o q => ?_, I.len⟩
  · exact back b _ (I.base.tups b xs q) (fun φ z => nomatch z)
  · exact back b _ (I.base.frzs b o u q) (fun φ z => nomatch z)
  · obtain ⟨m, z⟩ := I.base.tbls b ps q
    exact ⟨m, back b _ z (fun φ z => nomatch z)⟩
  · obtain ⟨h1, h2, h3, h4, h5⟩ := I.pin p hp
    exact ⟨h1, fr _ h2, h3, h4, h5⟩
  · exact (I.hok b o (sub b o q)).stay (fun c v _ z => z) (fun c z => back c _ z (fun φ z => nomatch z)) fun c xs z => back c _ z (fun φ z => nomatch z)
end

/-! ### an exception of an own class with its own __init__ -/
structure XCl (K : PySem.W.Frag) (C : Addr) : Prop where
  T : OexC K C
  ga : PySem.W.findIn K (.ref C) "__getattribute__" = some (some (.builtin "BaseException.__getattribute__"))
  gg : PySem.W.findIn K (.ref C) "__getattr__" = some none
  hd : PySem.W.hasDictIn K C = true
  ha : PySem.W.findIn K (.ref C) "__class__" = some (some (.builtin "object.__class__"))
  hn : PySem.W.specialIn K (.builtin "object.__class__") "__get__" = some (some (.builtin "getset_descriptor.__get__"))
  ht : PySem.W.takesIn K (.builtin "object.__class__") = some true
  hm : PySem.W.mroIn K C (.type "object") = some true
/-- the heap with an exception of C at a, its dict of the fields fs at dx -/
abbrev withX (H : Hp) (C a dx : Addr) (fs : List (Str × V)) : Hp := upd (upd H dx (exd dx fs)) a (exo a C (some dx))
/-- what such an __init__ does: the fields fs get the arguments -/
def spX (C : Addr) (fs : List Str) : Sp := fun vs H Q _ => ∃ (a : Addr) (ys : List V), vs = .ref a :: ys ∧ ys.length = fs.length ∧ H a = some (exo a C none) ∧
  ∀ dx, H dx = none → dx ≠ a → Q .non (withX H C a dx (fs.zip ys).reverse)
theorem withX_sub {H : Hp} {C a dx : Addr} {fs : List (Str × V)} (ha : H a = none) (hd : H dx = none) : ∀ b o, H b = some o → withX H C a dx fs b = some o := fun b o e => by
  show upd (upd H dx _) a _ b = some o
  rw [upd_ne (ne_of_none e ha), upd_ne (ne_of_none e hd)]
  exact e
theorem withX_ext {H : Hp} {C a dx : Addr} {fs : List (Str × V)} : ∀ b o, withX H C a dx fs b = some o → H b = some o ∨ ∃ φ, o = HO.ext φ := fun b o e => by
  have e' : upd (upd H dx (exd dx fs)) a (exo a C (some dx)) b = some o := e
  by_cases hb : b = a
  · subst hb
    rw [upd_same] at e'
    exact .inr ⟨_, (Option.some.inj e').symm⟩
  · rw [upd_ne hb] at e'
    by_cases hd : b = dx
    · subst hd
      rw [upd_same] at e'
      exact .inr ⟨_, (Option.some.inj e').symm⟩
    · rw [upd_ne hd] at e'
      exact .inl e'
section
variable {X : Cx} {k : Nat} {f C : Addr} {fd : FuncData} {ps : List Str} {sp : Sp}
theorem run_mx {pins : List (Addr × Obj)} {σ : St} {H : Hp} {s : Shared} {Q : VK} {us args : List Value} {kw : List (Str × Value)} {vs : List V} (T : OexC X.K C) (iC : PySem.W.findIn X.K (.ref C) "__init__" = some (some (.ref f)))
    (tI : PySem.W.typeIn X.K (.ref f) = some (.type "function")) (F : FnOk X.prog X.w X.K X.mg X.base CX0 k f fd ps sp) (hr : Room (k + 1) X.A)
    (hb : ∀ (s : Shared) (self : Value), X.K.In s.heap → BindsTo s fd ⟨self :: us, kw⟩ (ps.zip (self :: args))) (I : Inv X pins σ H s) (hz : us.length ≤ sizeLine) (r : Vals vs args)
    (h : ∀ a, H a = none → sp (.ref a :: vs) (upd H a (exo a C none)) (fun v H2 => v = .non ∧ Q (.ref a) H2) E0) :
    wpAny (model X.prog X.w) X.A (call (.ref C) us kw) (EP X pins σ Q) X.xe s := by
  obtain ⟨nm, q, N, bs, bm, sn, sub, ab, col, dd, k0, k1, k2, k3, k5, hC, hbm⟩ := T.cls
  obtain ⟨hp, g, dr, tk, os⟩ := s
  have up : hp.objs.size ≤ hp.objs.size + 1 := Nat.le_succ _
  have hq := h (hp.objs.size + 1) (I.hok.fresh up)
  have keep : ∀ b o, hp.get? b = some o → (twoMore hp C us).get? b = some o := fun b o e => Heap.get?_push_of_some _ (Heap.get?_push_of_some _ e)
  have there : (twoMore hp C us).get? (hp.objs.size + 1) = some (PySem.HandSPX.excO C hp.objs.size) := by heap_get
  have I2 : Inv X pins σ (upd H (hp.objs.size + 1) (exo (hp.objs.size + 1) C none)) ⟨twoMore hp C us, g, dr, tk, os⟩ := I.laid (t' := tk) keep up (exo_ok there)
  have r2 : Vals (V.ref (hp.objs.size + 1) :: vs) (Value.ref (hp.objs.size + 1) :: args) := .cons rfl r
  refine wpAny_call (kw_call PySem.F.excBase_ValueError (fun Y => PySem.HandSPX.refsVE_contains Y bm hbm) (I.kIn _ _ hC) (PySem.W.looks_findIn I.kIn iC) (fun self => PySem.W.bind_fn I.kIn self tI) hz
    (codeAny_mono (F.run _ X.stack _ _ ⟨Value.ref (hp.objs.size + 1) :: us, kw⟩ _ _ _ E0 (hr.make C us kw) (I2.env0.make C us kw) (hb _ _ I2.kIn) r2 hq) fun r s' hq' => ?_))
  cases r with
  | error er => exact hq'.elim
  | ok fl =>
    cases fl with
    | ret u =>
      obtain ⟨v, H3, I3, rv, ev, q3⟩ := I2.after hq'
      subst ev
      exact ⟨rv, ⟨V.ref (hp.objs.size + 1), H3, I3, rfl, q3⟩⟩
    | next => exact False.elim hq'
    | brk => exact False.elim hq'
    | cont => exact False.elim hq'
/-- the class made, its fields kept: as a value -/
theorem run_mv {fs : List Str} {pins : List (Addr × Obj)} {σ : St} {H : Hp} {s : Shared} {Q : VK} {us args : List Value} {kw : List (Str × Value)} {vs : List V} (T : OexC X.K C) (iC : PySem.W.findIn X.K (.ref C) "__init__" = some (some (.ref f)))
    (tI : PySem.W.typeIn X.K (.ref f) = some (.type "function")) (F : FnOk X.prog X.w X.K X.mg X.base CX0 k f fd ps (spX C fs)) (hr : Room (k + 1) X.A)
    (hb : ∀ (s : Shared) (self : Value), X.K.In s.heap → BindsTo s fd ⟨self :: us, kw⟩ (ps.zip (self :: args))) (I : Inv X pins σ H s) (hz : us.length ≤ sizeLine) (r : Vals vs args) (hl : vs.length = fs.length)
    (h : ∀ a dx, H a = none → H dx = none → dx ≠ a → Q (.ref a) (withX H C a dx (fs.zip vs).reverse)) :
    wpAny (model X.prog X.w) X.A (call (.ref C) us kw) (EP X pins σ Q) X.xe s := by
  refine run_mx T iC tI F hr hb I hz r fun a na => ⟨a, vs, rfl, hl, upd_same, fun dx nd ne => ⟨rfl, ?_⟩⟩
  have nd' : H dx = none := by
    rw [upd_ne ne] at nd
    exact nd
  have e : withX (upd H a (exo a C none)) C a dx (fs.zip vs).reverse = withX H C a dx (fs.zip vs).reverse := by
    funext b
    show upd (upd (upd H a _) dx _) a _ b = upd (upd H dx _) a _ b
    by_cases hb : b = a
    · rw [hb, upd_same, upd_same]
    · rw [upd_ne hb, upd_ne hb]
      by_cases hd : b = dx
      · rw [hd, upd_same, upd_same]
      · rw [upd_ne hd, upd_ne hd, upd_ne hb]
  rw [e]
  exact h a dx na nd' ne
end
end K0
namespace K0
open PySem PySem.Spec PyProof.Rows L2
section
variable {X : Cx} {k : Nat} {f C : Addr} {fd : FuncData} {ps : List Str} {fs : List Str} {x n : Str} {e : Expr} {es : List Expr} {ta : TA} {te : TE} {p pos pos' : Pos} {kws : List Keyword}
/-- what the top says of such a class and its __init__ -/
structure XMk (X : Cx) (x : Str) (C : Addr) (fs : List Str) : Prop where
  cl : XCl X.K C
  gC : X.mg x = some (.ref C)
  ini : ∃ f fd k, PySem.W.findIn X.K (.ref C) "__init__" = some (some (.ref f)) ∧ PySem.W.typeIn X.K (.ref f) = some (.type "function") ∧ FnOk X.prog X.w X.K X.mg X.base CX0 k f fd (("self" : Str) :: fs) (spX C fs) ∧ Room (k + 1) X.A ∧
    (∀ (s : Shared) (self : Value) (us : List Value), us.length = fs.length → BindsTo s fd ⟨self :: us, []⟩ ((("self" : Str) :: fs).zip (self :: us))) ∧
    (∀ (s : Shared) (self : Value) (us : List Value), us.length = fs.length → BindsTo s fd ⟨[self], fs.zip us⟩ ((("self" : Str) :: fs).zip (self :: us)))
/-- C(e, ..) : whatever is asked of the arguments and the heap there, the new exception stands behind it -/
structure PX (X : Cx) (e : Expr) (C : Addr) (fs : List Str) (ta : TA) : Prop where
  run : ∀ (pins : List (Addr × Obj)) (s : Shared) (σ : St) (H : Hp) (P : List V → Hp → Prop), Inv X pins σ H s → (ta σ H fun vs H1 => vs.length = fs.length ∧ vs.length ≤ 1000 ∧ P vs H1) →
    wpAny (model X.prog X.w) X.A (eval e X.env) (fun u s1 => ∃ (vs : List V) (H1 : Hp) (a dx : Addr), u = .ref a ∧ H1 a = none ∧ H1 dx = none ∧ dx ≠ a ∧ Inv X pins σ (withX H1 C a dx (fs.zip vs).reverse) s1 ∧ P vs H1) X.xe s
theorem us_small {vs : List V} {us : List Value} (r : Vals vs us) (h : vs.length ≤ 1000) : us.length ≤ sizeLine := by
  rw [← Paired.length r, sizeLine_eq]
  omega
theorem px_pos (M : XMk X x C fs) (hg : Gl X x) (ha : PA X (e :: es) ta) (hdb : (x == ("__debug__" : Str)) = false := by decide)
    (he : starEach (e :: es) X.env = (false, eval e X.env) :: starEach es X.env := by rfl) (hpl : (backTo pos (starEach es X.env)).any (·.1) = false := by rfl) :
    PX X (.Call (.Name x p) (e :: es) [] pos) C fs ta := by
  refine ⟨fun pins s σ H P I h => ?_⟩
  obtain ⟨f, fd, k, iC, tI, F, hr, b1, _⟩ := M.ini
  refine wpAny_Call_Name_kw (ld_glob I hg M.gC ?_ hdb)
  refine PySem.W.callWith_K (h₀ := X.base) I.ok.mod.kin M.cl.T.kC (thn (ha.run pos pins s σ H _ I h) fun us s1 ⟨vs, H1, I1, r, hl, hz, q⟩ => ⟨I1.kIn, ?_⟩) he hpl
  refine thn (run_mv (fs := fs) (Q := fun v H2 => ∃ a dx, v = .ref a ∧ H1 a = none ∧ H1 dx = none ∧ dx ≠ a ∧ H2 = withX H1 C a dx (fs.zip vs).reverse) M.cl.T iC tI F hr (fun s self _ => b1 s self us (r.length.symm.trans hl)) I1 (us_small r hz) r hl
    fun a dx na nd ne => ⟨a, dx, rfl, na, nd, ne, rfl⟩) fun u s2 ⟨v, H2, I2, rv, a, dx, ev, na, nd, ne, eH⟩ => ?_
  subst ev eH
  exact ⟨vs, H1, a, dx, rv, na, nd, ne, I2, q⟩
theorem px_kw (M : XMk X x C fs) (hg : Gl X x) (hkw : PK X kws ta) (hall : (backToKw pos (keywordEach kws X.env)).all (·.1.isSome) = true := by rfl) (hks : (backToKw pos (keywordEach kws X.env)).filterMap (·.1) = fs := by rfl)
    (hdb : (x == ("__debug__" : Str)) = false := by decide) (hpl : ((backTo pos (starEach [] X.env)).any (·.1) || (backToKw pos (keywordEach kws X.env)).any (·.1.isNone)) = false := by rfl) :
    PX X (.Call (.Name x p) [] kws pos) C fs ta := by
  refine ⟨fun pins s σ H P I h => ?_⟩
  obtain ⟨f, fd, k, iC, tI, F, hr, _, b2⟩ := M.ini
  refine wpAny_Call_Name_kw (ld_glob I hg M.gC ?_ hdb)
  refine PySem.W.callWith_KW0 (h₀ := X.base) I.ok.mod.kin M.cl.T.kC hall (thn (hkw.run pos pins s σ H _ I h) fun us s1 ⟨vs, H1, I1, r, hl, hz, q⟩ => ⟨I1.kIn, ?_⟩) hpl
  rw [hks]
  refine thn (run_mv (fs := fs) (us := []) (Q := fun v H2 => ∃ a dx, v = .ref a ∧ H1 a = none ∧ H1 dx = none ∧ dx ≠ a ∧ H2 = withX H1 C a dx (fs.zip vs).reverse) M.cl.T iC tI F hr (fun s self _ => b2 s self us (r.length.symm.trans hl)) I1 (Nat.zero_le _) r hl
    fun a dx na nd ne => ⟨a, dx, rfl, na, nd, ne, rfl⟩) fun u s2 ⟨v, H2, I2, rv, a, dx, ev, na, nd, ne, eH⟩ => ?_
  subst ev eH
  exact ⟨vs, H1, a, dx, rv, na, nd, ne, I2, q⟩
/-- C(e, ..) as a value -/
def tMx (C : Addr) (fs : List Str) (ta : TA) : TE := fun σ H Q => ta σ H fun vs H1 => vs.length = fs.length ∧ vs.length ≤ 1000 ∧ ∀ a dx, H1 a = none → H1 dx = none → dx ≠ a → Q (.ref a) (withX H1 C a dx (fs.zip vs).reverse)
theorem pe_mx (h : PX X e C fs ta) : PE X e (tMx C fs ta) := by
  refine ⟨fun pins s σ H Q I h0 => thn (h.run pins s σ H _ I h0) fun u s1 hh => ?_⟩
  obtain ⟨vs, H1, a, dx, rfl, na, nd, ne, I1, q⟩ := hh
  exact ⟨.ref a, _, I1, rfl, q a dx na nd ne⟩
/-- C(e, ..).n: the exception itself is let go -/
def tFx (fs : List Str) (n : Str) (ta : TA) : TE := fun σ H Q => ta σ H fun vs H1 => vs.length = fs.length ∧ vs.length ≤ 1000 ∧ ∃ v, (fs.zip vs).reverse.lookup n = some v ∧ Q v H1
theorem pe_fx (cl : XCl X.K C) (hno : PySem.W.findIn X.K (.ref C) n = some none) (h : PX X e C fs ta) (hb : attributeBase e n X.env (eval e X.env) = eval e X.env := by rfl) : PE X (.Attribute e n pos) (tFx fs n ta) := by
  refine ⟨fun pins s σ H Q I h0 => attr_of hb (thn (h.run pins s σ H _ I h0) fun u s1 hh => ?_)⟩
  obtain ⟨vs, H1, a, dx, rfl, na, nd, ne, I1, v, l, q⟩ := hh
  have ea : withX H1 C a dx (fs.zip vs).reverse a = some (exo a C (some dx)) := upd_same
  have ed : withX H1 C a dx (fs.zip vs).reverse dx = some (exd dx (fs.zip vs).reverse) := (upd_ne ne).trans upd_same
  obtain ⟨t1, ho⟩ := exo_at I1.hok ea
  obtain ⟨mA, hns, rel⟩ := exd_at I1.hok ed
  obtain ⟨od, hd, hl⟩ := lookIn_ns hns
  obtain ⟨u, hu, ru⟩ := RelO.some_of (v := v) (o := mA n) (by rw [← l]; exact rel n)
  have J : PySem.W.InstAt s1.heap a _ C (some od) := ⟨ho, rfl, rfl, hd⟩
  exact PySem.HandSPX.exc_get I1.kIn J cl.ga cl.gg cl.T.exC (PySem.W.findObj_own cl.hd hno rfl (by rw [hl, hu])) (handed_of ru) ⟨v, H1, (forget I1 (withX_sub na nd) withX_ext).tok _, ru, q⟩
/-! ### C(), a class without an own __init__ -/
theorem pe_m0 {newId initId B : String} {bmB : List Value} (F : ExcBaseFacts B newId initId bmB) (q : PySem.W.excIn X.K C bmB newId = true) (gC : X.mg x = some (.ref C)) (kC : PySem.W.keepIn X.K (.ref C) = true) (hg : Gl X x) (hdb : (x == ("__debug__" : Str)) = false := by decide) :
    PE X (.Call (.Name x p) [] [] pos) (fun _ H Q => ∀ a, H a = none → Q (.ref a) (upd H a (exo a C none))) := by
  refine ⟨fun pins s σ H Q I h => ?_⟩
  refine wpAny_Call_Name_kw (ld_glob I hg gC ?_ hdb)
  refine PySem.W.callWith_K0 I.kIn kC ?_
  show wpAny _ _ (call (.ref C) []) _ _ _
  obtain ⟨bm, N, nm, qn, bs, hdct, sn, sub, ab, col, dd, k0, k1, k2, k3, k5, mN, hC, hN, hni, T⟩ := exc_obj I.kIn q
  refine wpAny_call_exc_subT F T hC hN hni (fun h' a hm => ?_) (Nat.zero_le _)
  have hn : H a = none := I.hok.gone hm.new
  obtain ⟨t, ht, _, _⟩ := hm.there
  exact ⟨.ref a, upd H a (exo a C none), I.laidN hm.keeps hm.new hn (exo_ok ht), rfl, h a hn⟩
/-! ### isinstance(e, c), e such an exception -/
def rIsx (K : PySem.W.Frag) : List V → Hp → VK → Prop := fun xs H Q => ∃ (a D : Addr) (c : V) (u : Value) (b : Bool), xs = [.ref a, c] ∧ ClsV c u ∧ XCl K D ∧ (H a = some (exo a D none) ∨ ∃ dx gs, H a = some (exo a D (some dx)) ∧ H dx = some (exd dx gs)) ∧
  PySem.W.kitOne K (.ref D) u = some b ∧ Q (.bl b) H
theorem call_isx : CallR X (.builtin "isinstance") (rIsx X.K) := by
  intro pins s σ H xs us Q I r h
  obtain ⟨a, D, c, u, b, rfl, k, cl, ha, e, q⟩ := h
  obtain ⟨u1, u2, rfl, r1, r2⟩ := vals2 r
  obtain rfl : u1 = Value.ref a := r1
  have e2 := k.eq r2
  subst e2
  have hc : (PySem.W.clsIn X.K D).isSome = true := by
    obtain ⟨cd, hcd, _⟩ := PySem.W.any_some cl.hd
    rw [hcd]
    rfl
  have J : ∃ ox od, PySem.W.InstAt s.heap a ox D od := by
    rcases ha with ha | ⟨dx, gs, ha, hd⟩
    · obtain ⟨t1, ho⟩ := exo_at I.hok ha
      exact ⟨_, none, ho, rfl, rfl, trivial⟩
    · obtain ⟨t1, ho⟩ := exo_at I.hok ha
      obtain ⟨mA, hns, rel⟩ := exd_at I.hok hd
      obtain ⟨od, hd, hl⟩ := lookIn_ns hns
      exact ⟨_, some od, ho, rfl, rfl, hd⟩
  obtain ⟨ox, od, J⟩ := J
  exact PySem.W.kia_one (PySem.W.kitx_exc (ox := ox) (od := od) hc cl.ga cl.gg cl.T.exC cl.ha cl.hn cl.ht cl.hm) I.kIn J e (fun z => nomatch z) fun tk => ⟨.bl b, H, I.tok tk, rfl, q⟩
end
/-! ### repr of data with empty dicts -/
mutual
inductive De (K : PySem.W.Frag) (H : Hp) : V → PyData → Prop
  | non : De K H .non .none
  | bl (b : Bool) : De K H (.bl b) (.bool b)
  | int (i : Int) : De K H (.int i) (.int i)
  | str (x : Str) : De K H (.str x) (.str x)
  | lst {a : Addr} {xs : List V} {ds : List PyData} : H a = some (.lst xs) → DeAll K H xs ds → De K H (.ref a) (.list ds)
  | tup {a : Addr} {xs : List V} {ds : List PyData} : H a = some (.tup xs) → DeAll K H xs ds → De K H (.ref a) (.tuple ds)
  | dic {a : Addr} : H a = some (.dK []) → De K H (.ref a) (.dict [])
inductive DeAll (K : PySem.W.Frag) (H : Hp) : List V → List PyData → Prop
  | nil : DeAll K H [] []
  | cons {v : V} {vs : List V} {d : PyData} {ds : List PyData} : De K H v d → DeAll K H vs ds → DeAll K H (v :: vs) (d :: ds)
end
section
variable {X : Cx} {pins : List (Addr × Obj)} {σ : St} {H : Hp} {s : Shared}
theorem off {a : Addr} {o : HO} (hs : H sysModules = none) (h : H a = some o) : sysModules ≠ a := fun e => by
  rw [← e, hs] at h
  cases h
mutual
theorem de_reads (I : Inv X pins σ H s) (hs : H sysModules = none) : ∀ (d : PyData) (v : V) (u : Value), De X.K H v d → RelV v u → ∃ as, Reads s.heap u d as ∧ sysModules ∉ as
  | .none, _, _, h, r => by
    cases h
    obtain rfl : _ = Value.none := r
    exact ⟨_, Reads.none, by simp⟩
  | .bool b, _, _, h, r => by
    cases h
    obtain rfl : _ = Value.bool b := r
    exact ⟨_, Reads.bool b, by simp⟩
  | .int i, _, _, h, r => by
    cases h
    obtain ⟨t, rfl⟩ := r
    exact ⟨_, Reads.int i t, by simp⟩
  | .str x, _, _, h, r => by
    cases h
    obtain ⟨t, rfl⟩ := r
    exact ⟨_, Reads.str x t, by simp⟩
  | .list ds, _, _, h, r => by
    cases h with
    | @lst a xs _ ha hd =>
      obtain rfl : _ = Value.ref a := r
      obtain ⟨_, its, n, rv, ho⟩ := (show ObjOk X.prog X.w H s.heap a (.lst xs) from I.hok a _ ha)
      obtain ⟨as, hr, hn⟩ := de_all I hs ds xs its hd rv
      refine ⟨_, Reads.list ho rfl rfl hr, fun z => ?_⟩
      rcases List.mem_cons.mp z with z | z
      · exact off hs ha z
      · exact hn z
  | .tuple ds, _, _, h, r => by
    cases h with
    | @tup a xs _ ha hd =>
      obtain rfl : _ = Value.ref a := r
      obtain ⟨_, its, rv, o, ho, hc, n, hd2⟩ := (show ObjOk X.prog X.w H s.heap a (.tup xs) from I.hok a _ ha)
      obtain ⟨as, hr, hn⟩ := de_all I hs ds xs its hd rv
      exact ⟨_, Reads.tuple ho hc hd2 hr, hn⟩
  | .dict _, _, _, h, r => by
    cases h with
    | @dic a ha =>
      obtain rfl : _ = Value.ref a := r
      obtain ⟨_, _, vs, rv, o, es, ep, ho, hx, hd, _, hp, _⟩ := (show ObjOk X.prog X.w H s.heap a (.dK []) from I.hok a _ ha)
      cases rv
      have e0 : es.toList = [] := by
        have z := hp.length
        exact List.eq_nil_of_length_eq_zero z
      refine ⟨_, Reads.dict (as := []) (bs := []) ho hx.1 hd (by rw [e0]; exact ReadsAll.nil) (by rw [e0]; exact ReadsAll.nil), fun z => ?_⟩
      simp at z
      exact off hs ha z
theorem de_all (I : Inv X pins σ H s) (hs : H sysModules = none) : ∀ (ds : List PyData) (vs : List V) (us : List Value), DeAll X.K H vs ds → Vals vs us → ∃ as, ReadsAll s.heap us ds as ∧ sysModules ∉ as
  | [], _, _, h, r => by
    cases h
    cases r
    exact ⟨_, ReadsAll.nil, by simp⟩
  | d :: ds, _, _, h, r => by
    cases h with
    | cons h1 h2 =>
      cases r with
      | cons r1 r2 =>
        obtain ⟨as, q1, n1⟩ := de_reads I hs d _ _ h1 r1
        obtain ⟨bs, q2, n2⟩ := de_all I hs ds _ _ h2 r2
        exact ⟨_, ReadsAll.cons q1 q2, fun z => (List.mem_append.mp z).elim n1 n2⟩
end
end
section
variable {X : Cx}
/-- repr(xs), xs a list of data -/
def rRep (K : PySem.W.Frag) : List V → Hp → VK → Prop := fun xs H Q => ∃ (a : Addr) (d : PyData), xs = [.ref a] ∧ De K H (.ref a) d ∧ d.showable = true ∧ d.depth ≤ 8 ∧ d.shown.length ≤ sizeLine ∧ Q (.str d.shown) H
theorem call_rep (hg : X.A.guards = some []) (hu : X.A.units + 64 < cLine) (hsys : ∃ o, X.K.lookup sysModules = some o) : CallR X (.builtin "repr") (rRep X.K) := by
  intro pins s σ H xs us Q I r h
  obtain ⟨a, d, rfl, hd, hsh, hdp, hz, q⟩ := h
  obtain ⟨oS, hoS⟩ := hsys
  have hs : H sysModules = none := (I.bs _ _ (I.ok.mod.kin _ _ hoS)).2
  obtain ⟨u, rfl, ru⟩ := vals1 r
  obtain rfl : u = Value.ref a := ru
  obtain ⟨as, hr, hn⟩ := de_reads I hs d _ _ hd rfl
  exact repr_of_reads' hr hsh (fun _ => hn) hg (by omega) (fun _ _ z => z) (fun h' t tk hk => ⟨.str d.shown, H, I.kept hk, ⟨t, rfl⟩, q⟩) hz
end
end K0
/-! ### sorted(xs, key=f), f's calls seen by an invariant of one's own; the keys are texts -/
namespace SK
open PySem PySem.W PySem.Calls PyProof.Rows
def IsText (v : Value) (k : Str) : Prop := ∃ t, v = .str k t
abbrev Texts (us : List Value) (ks : List Str) : Prop := EachIs IsText us ks
section
variable {prog : Program} {w : World} {A : Around} {E : Value → Shared → Prop} {s : Shared} {a kS : Addr} {b : Bool} {vs : List Value} {ks : List Str} {e1 : Nat} {P : PySem.Fin → Shared → Prop}
theorem texts_read {h : Heap} : ∀ {us : List Value} {ks : List Str}, Texts us ks → EachIs (fun v d => ∃ as, Reads h v d as) us (ks.map PyData.str)
  | _, _, .nil => .nil
  | _, _, .cons ⟨t, e⟩ r => .cons ⟨[], by rw [e]; exact .str _ t⟩ (texts_read r)
theorem alike_texts (ks : List Str) : AllAlike (ks.map PyData.str) := AllAlike.of fun x y => by simp [alike]
theorem sortable_texts (ks : List Str) : Sortable (ks.map PyData.str) := Sortable.others fun x => ⟨(nomatch ·), fun xs => (nomatch ·)⟩
/-- what an invariant J of the sort has to tell -/
structure ByJ (prog : Program) (w : World) (A : Around) (a kS : Addr) (e1 : Nat) (f : Value) (vs : List Value) (ks : List Str) (J : Nat → Shared → Prop) : Prop where
  is : ∀ i s, J i s → ∃ kA e, s.heap.get? kS = some (seqObj "list" kA e) ∧ Texts kA.toList (ks.take i) ∧ s.heap.get? a = some (seqObj "list" #[] e1)
  turn : ∀ (i : Nat) (v : Value) (k : Str), vs[i]? = some v → ks[i]? = some k → ∀ s, J i s → wpAny (model prog w) A (call f [v]) (fun u s2 => IsText u k ∧ ∃ kA e, s2.heap.get? kS = some (seqObj "list" kA e) ∧ Texts kA.toList (ks.take i) ∧
    ∀ h3 e3, Heap.SameBut kS s2.heap h3 → h3.get? kS = some (seqObj "list" (kA.push u) e3) → J (i + 1) { s2 with heap := h3 }) (fun _ _ => False) s
theorem rest_by {f : Value} {J : Nat → Shared → Prop} (B : ByJ prog w A a kS e1 f vs ks J) (hka : kS ≠ a) (hlen : ks.length = vs.length) (hZ : vs.length ≤ sizeLine) (hu : A.units < cLine) (j0 : J 0 s)
    (h : ∀ s' h' tk out c, J vs.length s' → (∀ b o, b ≠ a → b ≠ kS → s'.heap.get? b = some o → h'.get? b = some o) → h'.get? a = some (seqObj "list" (List.toArray out) c) → KeyedOut b (ks.map PyData.str) vs out → P (.done (.ret .none)) { s' with heap := h', toks := tk }) :
    wpAny (model prog w) A (ksk_rest a f b vs.toArray e1 (.ref kS)) P E s := by
  unfold ksk_rest
  refine wpAny_bind (wpAny_rule ?_)
  first
    | rw [List.forIn_toArray]
    | (rw [← Array.forIn_toList]; simp only [List.toList_toArray])
  refine wpAny_bind (ksk_fold J vs 0 s j0 (fun j x s' hx hJ => ?_) fun s' hJ => ?_)
  · rw [Nat.zero_add] at hJ ⊢
    have hj : j < vs.length := (List.getElem?_eq_some_iff.mp hx).1
    obtain ⟨k, hkj⟩ : ∃ k, ks[j]? = some k := ⟨_, List.getElem?_eq_getElem (by omega)⟩
    refine wpAny_bind (wpAny_attempt (wpAny_mono (B.turn j x k hx hkj s' hJ) (fun u s2 q => ?_) fun _ _ z => z.elim))
    obtain ⟨ht, kA, e, nk, tx, go⟩ := q
    dsimp only
    have hz : kA.size ≤ vs.length := by
      have z := tx.length
      rw [Array.length_toList, List.length_take] at z
      omega
    have hz2 : kA.size ≤ sizeLine := Nat.le_trans hz hZ
    obtain ⟨c2, hc2⟩ : ∃ c2, (s2.heap.update kS (Obj.mapSeq (·.push u))).get? kS = some (seqObj "list" (kA.push u) c2) := ⟨_, get?_update_seq nk (·.push u)⟩
    refine wpAny_bind (listUpdate_at nk rfl ?_ hz2 (by rw [Array.size_push]; omega))
    exact wpAny_pure ⟨rfl, go _ c2 (Heap.SameBut.update s2.heap kS (Obj.mapSeq (·.push u))) hc2⟩
  · rw [Nat.zero_add] at hJ
    obtain ⟨kA, e, nk, tx, na⟩ := B.is _ _ hJ
    refine wpAny_bind (listItems_at nk rfl ?_)
    obtain ⟨G, g1, g2⟩ := L2.restrict s'.heap fun b => decide (b ≠ kS)
    have gs : ∀ b o, G.get? b = some o → s'.heap.get? b = some o := fun b o q => by
      by_cases hb : b = kS
      · rw [hb, g2 kS (decide_eq_false fun z => z rfl)] at q
        cases q
      · rw [← g1 b (decide_eq_true hb)]
        exact q
    have et : ks.take vs.length = ks := List.take_of_length_le (by omega)
    rw [et] at tx
    have er := texts_read (h := s'.heap) tx
    have hsz : kA.size = vs.length := by
      have z := tx.length
      rw [Array.length_toList] at z
      omega
    refine keyH_end (h₁ := G) (κ := dataKind s'.heap (ks.map PyData.str)) (fun b o _ q => gs b o q) (g2 kS (decide_eq_false fun z => z rfl)) nk na hka (SortsAt.data er (alike_texts ks) (sortable_texts ks) fun d hd => ?_) hsz hZ fun h' tk c kp hA => ?_
    · obtain ⟨x, _, rfl⟩ := List.mem_map.mp hd
      simp only [PyData.depth]
      omega
    · exact h s' h' tk _ c hJ (fun b o n1 n2 q => kp b o n1 (by rw [g1 b (decide_eq_true n2)]; exact q)) hA ⟨s'.heap, kA.toList, alike_texts ks, rfl, er⟩
theorem sorted_by {β : Type} {R : Value → β → Prop} {l : Addr} {f : Value} {kw : List (Str × Value)} {Q : Value → Shared → Prop} {bs : List β} (key : β → Str) (hl : s.heap.IsList l vs.toArray) (er : EachIs R vs bs) (hZ : bs.length ≤ sizeLine) (hu : A.units + 2 < cLine) (ha1 : argsOk "sorted" ⟨[.ref l], kw⟩)
    (ha2 : ∀ x, argsOk "list.sort" ⟨[.ref x], kw⟩) (ht : ∀ x, Builtin.«list.sort» ⟨[.ref x], kw⟩ = ksk_tree x f b)
    (go : ∀ (a kS : Addr) (e1 : Nat) (h0 : Heap), (∀ b o, s.heap.get? b = some o → h0.get? b = some o) → s.heap.objs.size ≤ a → s.heap.objs.size ≤ kS → kS ≠ a → h0.get? kS = some (seqObj "list" #[] 0) → h0.get? a = some (seqObj "list" #[] e1) →
      ∃ J : Nat → Shared → Prop, ByJ prog w A.in1.in1 a kS e1 f vs (bs.map key) J ∧ J 0 { s with heap := h0 } ∧
        ∀ s' h' tk out c, J vs.length s' → (∀ b o, b ≠ a → b ≠ kS → s'.heap.get? b = some o → h'.get? b = some o) → h'.get? a = some (seqObj "list" (List.toArray out) c) → out.length = bs.length → EachIs R out (bs.mergeSort (dataLe b fun x => .str (key x))) → Q (.ref a) { s' with heap := h', toks := tk }) :
    wpAny (model prog w) A (call (.builtin "sorted") [.ref l] kw) Q E s := by
  refine sorted_of_sort hl (by rw [er.length]; exact hZ) ha1 ha2 fun E' => ?_
  rw [ht]
  have at0 := copyHeap_at s.heap vs
  generalize ha : s.heap.objs.size + 1 = a at at0 ⊢
  have old : ∀ b o, s.heap.get? b = some o → (copyHeap s.heap vs).get? b = some o := fun b o q => copyHeap_old q
  have hsa : a < (copyHeap s.heap vs).objs.size := Heap.lt_size at0
  generalize copyHeap s.heap vs = h1 at at0 old hsa ⊢
  obtain ⟨e1, ho1⟩ : ∃ e1, (h1.update a (Obj.mapSeq fun _ => (#[] : Array Value))).get? a = some (seqObj "list" #[] e1) := ⟨_, get?_update_seq at0 fun _ => #[]⟩
  have hkS : ((h1.update a (Obj.mapSeq fun _ => (#[] : Array Value))).push (seqObj "tuple" vs.toArray 0)).objs.size = h1.objs.size + 1 := by
    rw [size_push', Heap.size_update]
  unfold ksk_tree
  refine wpAny_bind (listItems_at at0 rfl ?_)
  refine wpAny_bind (listUpdate_at at0 rfl ?_ (by rw [List.size_toArray, er.length]; exact hZ) (Nat.zero_le _))
  refine wpAny_bind (seqEpoch_at ho1 rfl ?_)
  refine wpAny_bind (wpAny_newTuple ?_ (by show vs.length ≤ _; rw [er.length]; exact hZ))
  refine wpAny_bind (wpAny_newList ?_ (Nat.zero_le _))
  refine wpAny_holding ?_
  rw [hkS]
  have nka : h1.objs.size + 1 ≠ a := by omega
  have za : s.heap.objs.size ≤ a := by omega
  have zk : s.heap.objs.size ≤ h1.objs.size + 1 := by omega
  have nba : ∀ b o, s.heap.get? b = some o → b ≠ a := fun b o q => Nat.ne_of_lt (Nat.lt_of_lt_of_le (Heap.lt_size q) za)
  obtain ⟨J, B, j0, fin⟩ := go a (h1.objs.size + 1) e1 (((h1.update a (Obj.mapSeq fun _ => (#[] : Array Value))).push (seqObj "tuple" vs.toArray 0)).push (seqObj "list" #[] 0))
    (fun b o q => Heap.get?_push_of_some _ (Heap.get?_push_of_some _ (((Heap.SameBut.update h1 a (Obj.mapSeq fun _ => (#[] : Array Value))).2 b (nba b o q)).trans (old b o q)))) za zk nka
    (by rw [← hkS]; exact Heap.get?_push_size _ rfl) (Heap.get?_push_of_some _ (Heap.get?_push_of_some _ ho1))
  refine rest_by B nka (by rw [List.length_map]; exact er.length.symm) (by rw [er.length]; exact hZ) (by show A.units + 1 + 1 < cLine; omega) j0 fun s' h' tk out c hJ kp hA ko => ⟨rfl, ?_⟩
  have em : (bs.map key).map PyData.str = bs.map fun x => PyData.str (key x) := by
    rw [List.map_map]
    rfl
  rw [em] at ko
  exact fin s' h' tk out c hJ kp hA ((ko.length (by rw [List.length_map]; exact er.length.symm)).trans er.length) (keyedOut_each (fun x => PyData.str (key x)) ko er)
end
end SK
/-! ### sorted(e, key=lambda x: body), e a list of texts, x's key a text -/
namespace SK
open PySem PySem.Spec PyProof.Rows L2 LamX NdefX
abbrev St := L2.St
abbrev CX0 := C8.CX0
abbrev E0 := C8.E0
section
variable {CX : CXT} {P : Program} {w : World} {K : PySem.W.Frag} {mg : Str → Option Value} {base : Heap} {N ps fr : List Str} {F : NF} {f : Addr} {A : Around} {outer : List Env} {s : Shared} {H : Hp} {E : XK} {us : List Value} {vs : List V} {ws : List (Option V)} {k : Nat} {body : Expr} {tb : TE} {Q : VK} {pm ctv : Value}
/-- a lambda with parameters is called -/
theorem lam_run (S : NScope N ps fr F.scope) (hbind : bindArgs (PySem.W.kla_fn F.name F.qual F.params body F.scope F.cl pm (.ref F.c) ctv) ⟨us, []⟩ = pure (ps.zip us)) (ho : s.heap.get? f = some (PySem.W.kla_obj F.name F.qual F.params body F.scope F.cl pm F.c ctv))
    (hco : H F.c = some (CodeO F.c F.qual)) (hr : Room (k + 1) A) (e0 : Env0 P w K mg base A outer s H) (C : CellsAt F.cl fr ws s.heap H) (r : Vals vs us) (hl : vs.length = ps.length) (hbody : PE (ncx CX P w K mg base N F f A outer s H E) body tb)
    (hq : tb (startF N vs ws) H Q) : codeAny (model P w) A (.call (.ref f) ⟨us, []⟩) (CR CX outer P w H s Q E) s := by
  have lim : s.heap.NoLimit := e0.mod.nolimit.keeps fun b o e => (e0.bs b o e).1
  refine PySem.W.kla_callFunE hr.depth ho rfl S.co S.gen rfl (codeO_at e0.hok hco) ?_
  rw [hbind]
  refine wpAny_pure (wpAny_newFunctionEnv S.nocell (fun ⟨n, _⟩ hy => S.par n (List.of_mem_zip hy).1) (fun h₁ hns hsb => ⟨lim.fresh _ hsb, ?_⟩) S.kind)
  show codeAny _ _ (.expr body (envF F f s.heap.objs.size)) _ _
  have kp : ∀ b o, s.heap.get? b = some o → h₁.get? b = some o := fun b o e => hsb.extBut b o (Nat.ne_of_lt (Heap.lt_size e)) (Heap.get?_push_of_some _ e)
  have J := inv_startN (CX := CX) (f := f) (E := E) (tk := s.toks + (ps.zip us).length) S hr.hd e0 hl r C hns kp
  refine PySem.W.kla_codeExpr (wpAny_mono (hbody.run [] _ _ H Q J hq) (fun v s' hs => ?_) fun e s' hs => hs)
  obtain ⟨x, H', J', rv, q⟩ := hs
  exact ⟨x, H', J'.os, J'.bare, J'.base, J'.hok, rv, q⟩
end
/-- what the sort knows of its two lists -/
def aO (a : Addr) (e1 : Nat) : HO := .ext fun h => h.get? a = some (seqObj "list" #[] e1)
def kO (kS : Addr) (ks : List Str) : HO := .ext fun h => ∃ kA e, h.get? kS = some (seqObj "list" kA e) ∧ Texts kA.toList ks
theorem aO_ok {P : Program} {w : World} {H : Hp} {h : Heap} {a : Addr} {e1 : Nat} (q : h.get? a = some (seqObj "list" #[] e1)) : ObjOk P w H h a (aO a e1) := ⟨q, ⟨_, q⟩, fun h1 h2 z st => st _ z⟩
theorem kO_ok {P : Program} {w : World} {H : Hp} {h : Heap} {a : Addr} {ks : List Str} {kA : Array Value} {e : Nat} (q : h.get? a = some (seqObj "list" kA e)) (t : Texts kA.toList ks) : ObjOk P w H h a (kO a ks) :=
  ⟨⟨kA, e, q, t⟩, ⟨_, q⟩, fun h1 h2 ⟨k1, e1, z, t1⟩ st => ⟨k1, e1, st _ z, t1⟩⟩
theorem aO_at {P : Program} {w : World} {H : Hp} {h : Heap} {a : Addr} {e1 : Nat} (x : HOk P w H h) (e : H a = some (aO a e1)) : h.get? a = some (seqObj "list" #[] e1) := (x a _ e).1
theorem kO_at {P : Program} {w : World} {H : Hp} {h : Heap} {a : Addr} {ks : List Str} (x : HOk P w H h) (e : H a = some (kO a ks)) : ∃ kA e, h.get? a = some (seqObj "list" kA e) ∧ Texts kA.toList ks := (x a _ e).1
theorem vals_texts : ∀ {ws : List Str} {us : List Value}, Vals (ws.map V.str) us → Texts us ws
  | [], [], _ => .nil
  | [], _ :: _, h => by cases h
  | _ :: _, [], h => by cases h
  | w :: ws, u :: us, h => by
    cases h with
    | cons h1 h2 => exact .cons h1 (vals_texts h2)
theorem texts_vals : ∀ {us : List Value} {ws : List Str}, Texts us ws → Vals (ws.map V.str) us
  | _, _, .nil => .nil
  | _, _, .cons h1 h2 => .cons h1 (texts_vals h2)
theorem each_get {α β : Type} {R : α → β → Prop} : ∀ {us : List α} {ws : List β}, PySem.W.EachIs R us ws → ∀ {i : Nat} {u : α} {x : β}, us[i]? = some u → ws[i]? = some x → R u x
  | _, _, .nil, i, u, x, h, _ => by simp at h
  | _, _, .cons r t, 0, u, x, h1, h2 => by
    simp at h1 h2
    subst h1 h2
    exact r
  | _, _, .cons r t, i + 1, u, x, h1, h2 => each_get t (by simpa using h1) (by simpa using h2)
theorem texts_snoc {us : List Value} {ks : List Str} {u : Value} {k : Str} : Texts us ks → IsText u k → Texts (us ++ [u]) (ks ++ [k])
  | .nil, h => .cons h .nil
  | .cons a t, h => .cons a (texts_snoc t h)
/-- the reading, behind the list: its words, the key of each by the lambda's body, then the new list in their order -/
def sTail (K : PySem.W.Frag) (T : List (Addr × Str)) (H0 : Hp) (N : List Str) (js : List Nat) (tb : TE) (σ : St) (Q : VK) (x : V) (H1 : Hp) : Prop := ∃ (l : Addr) (ws : List Str) (key : Str → Str), x = .ref l ∧ SqL K H1 l (ws.map V.str) ∧ Tabs T H1 ∧ ExtN H0 H1 ∧
  ∀ H2, ExtN H1 H2 → Tabs T H2 → (∀ y ∈ ws, ∀ H3, Same H2 H3 → tb (startF N [.str y] (js.map (slotAt σ))) H3 fun v H4 => v = .str (key y) ∧ Same H3 H4) ∧
    ∀ H5 p, H2 p = none → Same H2 H5 → H5 p = some (.lst ((ws.mergeSort (PySem.W.dataLe false fun x => .str (key x))).map V.str)) → Q (.ref p) H5
def tSort (K : PySem.W.Frag) (T : List (Addr × Str)) (H0 : Hp) (N : List Str) (js : List Nat) (te tb : TE) : TE := fun σ H Q => te σ H (sTail K T H0 N js tb σ Q)
theorem extN_seq {K : PySem.W.Frag} {H H' : Hp} {l : Addr} {xs : List V} (e : ExtN H H') (h : SqL K H l xs) : SqL K H' l xs := by
  rcases h with (h | ⟨o, h⟩) | h
  · exact .inl (.inl (e _ _ h fun ps z => nomatch z))
  · exact .inl (.inr ⟨o, e _ _ h fun ps z => nomatch z⟩)
  · exact .inr h
section
variable {X : Cx}
theorem pe_sortkey {T : List (Addr × Str)} {c P : Addr} {k : Nat} {e body : Expr} {params : Arguments} {scope : Scope} {te tb : TE} {p lpos kpos pos : Pos} {N fr : List Str} {a1 : Str} {js : List Nat} (hg : Gl X "sorted") (hm : X.mg "sorted" = none) (ha : PE X e te) (TB : TabB X.base X.mg c P) (hcode : X.env.code = .ref c)
    (hmT : (P, X.env.qual ++ "<lambda>") ∈ T) (hu : ∀ p ∈ T, p.1 = P → p.2 = X.env.qual ++ "<lambda>") (hr : Room (k + 3) X.A) (hex : X.ex = []) (S : NScope N [a1] fr scope)
    (hnd : ndefB X.env.scope scope fr = true) (hjs : js.map (fun j => X.N[j]?) = fr.map some) (hdef : defaultsOf params X.env = ([], []))
    (hbind : ∀ (q : Str) (cl : List (Str × Addr)) (pm cv ctv v : Value), bindArgs (PySem.W.kla_fn "<lambda>" q params body scope cl pm cv ctv) ⟨[v], []⟩ = pure [(a1, v)])
    (hbody : ∀ (A : Around) (outer : List Env) (s : Shared) (H : Hp) (f c' : Addr) (cl : List (Str × Addr)), Room k (A.deeper (envF ⟨"<lambda>", X.env.qual ++ "<lambda>", params, [], scope, cl, c'⟩ f s.heap.objs.size)) →
      PE (ncx CX0 X.prog X.w X.K X.mg X.base N ⟨"<lambda>", X.env.qual ++ "<lambda>", params, [], scope, cl, c'⟩ f A outer s H E0) body tb)
    (hs1 : starEach [e] X.env = [(false, eval e X.env)] := by rfl) :
    PE X (.Call (.Name "sorted" p) [e] [⟨some "key", .Lambda params body scope lpos, kpos⟩] pos) (tSort X.K T X.H_0 N js te tb) := by
  have hfree := ndef_free hnd
  have hfr := ndef_fr hnd
  refine ⟨fun pins s σ H Q I h => ?_⟩
  refine wpAny_Call_Name_kw (ld_blt I hg hm PyProof.Rows.boot_sorted ?_)
  refine PyProof.Rows.callWith_kw ?_ (by rw [hs1]; rfl) (by rw [hs1]; rfl) (by rfl) (by rfl)
  refine thn ((pa_cons ha pa_nil hs1).run pos pins s σ H (fun vs H1 => match vs with
    | [x] => sTail X.K T X.H_0 N js tb σ Q x H1
    | _ => False) I h) fun us s1 ⟨vs, H1, I1, r1, q1⟩ => ?_
  match vs, r1, q1 with
  | [x], r1, q1 =>
  obtain ⟨l, ws, key, rfl, hS, hT, h01, q⟩ := q1
  obtain ⟨u, rfl, ru⟩ := vals1 r1
  obtain rfl : u = Value.ref l := ru
  have hcl : ∀ y ∈ scope.names, y.2 = .free → ∃ c, X.env.cells.lookup y.1 = some c := fun y hy e => (hfree y hy e).elim (fun z => I1.ok.has _ (.inl z)) fun z => I1.ok.has _ (.inr z)
  show wpAny _ _ (evalAll ((do let v ← eval (.Lambda params body scope lpos) X.env; standAt pos; pure v) :: (backToKw pos (keywordEach [] X.env)).map (·.2))) _ _ s1
  refine wpAny_evalAll_cons (wpAny_bind (lam_make2 I1 TB hcode hmT hu hT hdef hcl fun f c' pm ctv H2 s2 I2 eN T2 ho hfn hfs hco => wpAny_bind (wpAny_standAt (wpAny_pure ?_))))
  refine wpAny_evalAll_nil ?_
  show wpAny _ _ (call (.builtin "sorted") [.ref l] [(Str.ofString "key", .ref f)]) _ _ s2
  obtain ⟨qa, qend⟩ := q H2 eN T2
  obtain ⟨its, rv, hl, hz⟩ := I2.list (extN_seq eN hS)
  rw [List.length_map] at hz
  have hu2 : X.A.units + 2 < cLine := by
    have z := hr.un
    omega
  have tx := vals_texts rv
  refine sorted_by (b := false) key hl.isList tx hz hu2 (PyProof.Rows.ksk_s1 _ _) (fun x => PyProof.Rows.ksk_l1 _ _) (fun x => PyProof.Rows.ksk_t1 _ _) fun a kS e1 h0 k0 za zk nka hk ha0 => ?_
  have na : H2 a = none := I2.hok.fresh za
  have nk : H2 kS = none := I2.hok.fresh zk
  have fr0 : ∀ b, H2 b = none → Fr0 X.H_0 b := fun b n o e => by
    by_cases ht : ∃ ps, o = .tbl ps
    · exact ht
    · have z := eN b o (h01 b o e fun ps w => ht ⟨ps, w⟩) fun ps w => ht ⟨ps, w⟩
      rw [n] at z
      cases z
  refine ⟨fun i s' => ∃ H', Inv X pins σ H' s' ∧ Same H2 H' ∧ H' a = some (aO a e1) ∧ H' kS = some (kO kS ((ws.map key).take i)) ∧ s'.heap.get? f = some (PySem.W.kla_obj "<lambda>" (X.env.qual ++ "<lambda>") params body scope (cloFrom X.env.cells scope.names []) pm c' ctv) ∧ H' f = none,
    ⟨fun i s' ⟨H', I', sm, oa, ok, of, nf⟩ => ?_, fun i v k0 hv hk0 s' ⟨H', I', sm, oa, ok, of, nf⟩ => ?_⟩, ?_, fun s' h' tk out c0 ⟨H', I', sm, oa, ok, of, nf⟩ kp hA hlen er => ?_⟩
  · obtain ⟨kA, e, z1, z2⟩ := kO_at I'.hok ok
    exact ⟨kA, e, z1, z2, aO_at I'.hok oa⟩
  · obtain ⟨y, hy, rfl⟩ : ∃ y, ws[i]? = some y ∧ key y = k0 := by
      rw [List.getElem?_map] at hk0
      cases e : ws[i]? with
      | none =>
        rw [e] at hk0
        cases hk0
      | some y =>
        rw [e] at hk0
        exact ⟨y, rfl, Option.some.inj hk0⟩
    obtain ⟨t, rfl⟩ := each_get tx hv hy
    have C := cells_of I' (Caps.made I'.ok hfree hfr hjs)
    have hr2 : Room (k + 1) X.A.in1.in1 := hr.in1.in1
    have rc := lam_run (CX := CX0) (E := E0) (F := ⟨"<lambda>", X.env.qual ++ "<lambda>", params, [], scope, cloFrom X.env.cells scope.names [], c'⟩) (f := f) (us := [.str y t]) (vs := [.str y]) (Q := fun v H4 => v = .str (key y) ∧ Same H' H4) S (hbind _ _ _ _ _ _) of (sm _ _ hco) hr2 I'.env0.in1.in1 C
      (.cons ⟨t, rfl⟩ .nil) rfl (hbody _ _ _ _ _ _ _ (hr2.deeper _)) (qa y (List.mem_of_getElem? hy) H' sm)
    refine wpAny_call (codeAny_mono rc fun r s3 hq => ?_)
    cases r with
    | error e => exact (show False from hq).elim
    | ok fl =>
      cases fl with
      | next => exact (show False from hq).elim
      | brk => exact (show False from hq).elim
      | cont => exact (show False from hq).elim
      | ret u =>
        obtain ⟨v2, H4, os, bare, un, hok, rv2, rfl, sm4⟩ := (show CE X.stack X.prog X.w H' s' _ u s3 from hq)
        obtain ⟨hh, g, d, t4, os'⟩ := s3
        obtain rfl : os' = s'.os := os
        have I4 : Inv X pins σ H4 ⟨hh, g, d, t4, s'.os⟩ := I'.call (h' := hh) (g' := g) (d' := d) (t' := t4) (ch := []) un hok bare (fun b z => absurd z (by simp))
        obtain ⟨kA, e, nk4, tx4⟩ := kO_at I4.hok (sm4 _ _ ok)
        have nfk : f ≠ kS := fun z => by
          rw [z, ok] at nf
          cases nf
        have of4 := un.keep f _ of nf hfs (by simp)
        have nf4 := un.free f _ of nf (by simp)
        refine ⟨rv2, kA, e, nk4, tx4, fun h3 e3 hsb hk3 => ?_⟩
        have tx5 : Texts (kA.push u).toList ((ws.map key).take (i + 1)) := by
          have e5 : (ws.map key).take (i + 1) = (ws.map key).take i ++ [key y] := by
            rw [List.take_add_one, List.getElem?_map, hy]
            rfl
          rw [e5, Array.toList_push]
          exact texts_snoc tx4 rv2
        refine ⟨upd H4 kS (kO kS ((ws.map key).take (i + 1))), I4.write (x := kS) (e := kS) (by rw [sm4 _ _ ok]; trivial) (.inl rfl) (fun b o hb z => (hsb.2 b hb).trans z) ⟨_, hk3⟩ (kO_ok hk3 tx5), fun b o z => ?_, ?_, upd_same, ?_, ?_⟩
        · rw [upd_ne (ne_of_none z nk)]
          exact sm4 _ _ (sm _ _ z)
        · rw [upd_ne nka.symm]
          exact sm4 _ _ oa
        · exact (hsb.2 f nfk).trans of4
        · rw [upd_ne nfk]
          exact nf4
  · obtain ⟨G, g1, g2⟩ := restrict h0 fun b => decide (b ≠ kS)
    have lt : ∀ b o, s2.heap.get? b = some o → b ≠ kS ∧ b ≠ a := fun b o z => ⟨Nat.ne_of_lt (Nat.lt_of_lt_of_le (Heap.lt_size z) zk), Nat.ne_of_lt (Nat.lt_of_lt_of_le (Heap.lt_size z) za)⟩
    have gG : ∀ b o, b ≠ kS → h0.get? b = some o → G.get? b = some o := fun b o n z => by
      rw [g1 b (decide_eq_true n)]
      exact z
    have Gh : ∀ b o, G.get? b = some o → h0.get? b = some o := fun b o z => by
      by_cases hb : b = kS
      · rw [hb, g2 kS (decide_eq_false fun z => z rfl)] at z
        cases z
      · rw [← g1 b (decide_eq_true hb)]
        exact z
    have Ia := I2.laidN (h' := G) (t' := s2.toks) (a := a) (o := aO a e1) (fun b o z => gG b o (lt b o z).1 (k0 b o z)) (Heap.get?_none_of_le za) na (aO_ok (gG a _ nka.symm ha0))
    have nk2 : upd H2 a (aO a e1) kS = none := by
      rw [upd_ne nka]
      exact nk
    have Ik := Ia.laidN (h' := h0) (t' := s2.toks) (a := kS) (o := kO kS []) Gh (g2 kS (decide_eq_false fun z => z rfl)) nk2 (kO_ok hk .nil)
    refine ⟨_, Ik, fun b o z => ?_, ?_, ?_, k0 _ _ ho, ?_⟩
    · rw [upd_ne (ne_of_none z nk), upd_ne (ne_of_none z na)]
      exact z
    · rw [upd_ne nka.symm, upd_same]
    · rw [upd_same, List.take_zero]
    · rw [upd_ne (lt _ _ ho).1, upd_ne (lt _ _ ho).2]
      exact hfn
  · obtain ⟨G1, a1, a2, I5⟩ := I'.untrack ok (fr0 kS nk) hex
    obtain ⟨G2, b1, b2, I6⟩ := I5.untrack (a := a) (by rw [delH_ne nka.symm]; exact oa) (fr0 a na) hex
    have hlm : ((ws.mergeSort (PySem.W.dataLe false fun x => .str (key x))).map V.str).length ≤ sizeLine := by
      rw [List.length_map, List.length_mergeSort]
      exact hz
    have I7 := I6.laidN (h' := h') (t' := tk) (a := a) (o := .lst ((ws.mergeSort (PySem.W.dataLe false fun x => .str (key x))).map V.str))
      (fun b o z => kp b o (fun w => by rw [w, b2] at z; cases z) (fun w => by have z2 := b1 b o z; rw [w] at z2; have z3 := z2; rw [a2] at z3; cases z3) (a1 _ _ (b1 _ _ z))) b2 delH_same ⟨hlm, out, c0, texts_vals er, hA⟩
    refine ⟨.ref a, _, I7, rfl, qend _ a na (fun b o z => ?_) upd_same⟩
    rw [upd_ne (ne_of_none z na), delH_ne (ne_of_none z na), delH_ne (ne_of_none z nk)]
    exact sm _ _ z
end
end SK
/-! ### enumerate of a text and of a tuple; dict comprehensions over any walk -/
namespace SK
open PySem PySem.Spec PyProof.Rows L2 LamX NdefX
def ItES (x : Str) : It := ⟨fun i _ => i < x.cps.size, fun i H v H' => ∃ T c, v = .ref T ∧ H T = none ∧ H' = upd H T (.tup [.int (i : Nat), .str ⟨#[c]⟩]) ∧ x.cps[i]? = some c, fun i _ => i = x.cps.size⟩
def ItET (a : Addr) (xs : List V) : It := ⟨fun i H => H a = some (.tup xs) ∧ i < xs.length, fun i H v H' => ∃ T x, v = .ref T ∧ H T = none ∧ H' = upd H T (.tup [.int (i : Nat), x]) ∧ xs[i]? = some x, fun i H => H a = some (.tup xs) ∧ i = xs.length⟩
/-- a pair that enumerate hands out -/
theorem enum_turn {X : Cx} {pins : List (Addr × Obj)} {s : Shared} {σ : St} {H : Hp} {E : Value → Shared → Prop} {J : It} {fp : List Addr} {n i : Nat} {Pd : Nat → Value → Prop} {Sd : Nat → Heap → Prop} {e it : Addr} {elts : List Expr} {kk : Nat} {tpos : Pos} {tn : Nat → Heap → Prop} (I : Inv X pins σ H s)
    (D : PySem.Draws X.prog X.w X.A.in1 it fp n Pd Sd) (hf : ∀ b ∈ [e, it], FpOk X pins H b) (he : ∃ old, IsEnum s.heap e it ((i : Nat) : Int) old) (hst : Sd i s.heap) (hlt : i < n) (hne : e ≠ it) (hef : e ∉ fp)
    (hit : ∃ o, s.heap.get? it = some o) (rel : ∀ u, Pd i u → ∃ x, RelV x u ∧ ∀ H' T, H T = none → H' = upd H T (.tup [.int (i : Nat), x]) → J.yld i H (.ref T) H') (nx : ∀ h' h'', Sd (i + 1) h' → (∀ b o, b ≠ e → h'.get? b = some o → h''.get? b = some o) → (∃ old, IsEnum h'' e it (((i + 1 : Nat)) : Int) old) → tn (i + 1) h'') :
    wpAny (model X.prog X.w) X.A (pyNext (.ref e)) (fun r s1 => ∃ u, r = some u ∧
      wpAny (model X.prog X.w) X.A (letOwnedTupleGo (.Tuple elts kk tpos) (.ref e) u) (fun _ s2 => ∃ x H', Inv X pins σ H' s2 ∧ RelV x u ∧ J.yld i H x H' ∧ tn (i + 1) s2.heap ∧ ∀ b ∈ [e, it], H' b = none) E s1) E s := by
  obtain ⟨old, he⟩ := he
  have hel : e < s.heap.objs.size := Heap.lt_size he
  have hil : it < s.heap.objs.size := by
    obtain ⟨o, q⟩ := hit
    exact Heap.lt_size q
  refine wpAny_pyNext_enum_itemD D he hst hlt hne hef fun u h' tk hP ho hst' hT hsz hk => ?_
  obtain ⟨x, ru, hy⟩ := rel u hP
  refine ⟨_, rfl, wpAny_letOwnedTupleGo_enum (s := { s with heap := h', toks := tk + 1 }) ho fun h'' he' sb => ?_⟩
  have hT2 : h''.get? s.heap.objs.size = some { cls := .type "tuple", data := .seq #[.int i tk, u] } := (sb.2 _ (Nat.ne_of_gt hel)).trans hT
  have nw : ObjOk X.prog X.w (upd H s.heap.objs.size (.tup [.int (i : Nat), x])) h'' s.heap.objs.size (.tup [.int (i : Nat), x]) :=
    ⟨by show 2 ≤ sizeLine; decide, [.int i tk, u], .cons ⟨_, rfl⟩ (.cons ru .nil), ⟨_, hT2, rfl, _, rfl⟩⟩
  have I1 : Inv X pins σ (upd H s.heap.objs.size (.tup [.int (i : Nat), x])) { s with heap := h'', toks := tk + 1 } :=
    I.turnedNew (ch := [e, it]) (fun b ob hb q => (sb.2 b (fun z => hb (by simp [z]))).trans (hk b ob (fun z => hb (by simp [z])) (fun z => hb (by simp [z])) q)) hf (Nat.le_refl _) nw
  refine ⟨.ref s.heap.objs.size, _, I1, rfl, hy _ _ (I.hok.fresh (Nat.le_refl _)) rfl, nx h' h'' hst' (fun b o hb q => (sb.2 b hb).trans q) ⟨u, ?_⟩, fun b hb => ?_⟩
  · have e1 : ((i + 1 : Nat) : Int) = (i : Int) + 1 := by omega
    rw [e1]
    exact he'
  · have hb' : b < s.heap.objs.size := by
      have e' : b = e ∨ b = it := by simpa using hb
      rcases e' with z | z
      · rw [z]; exact hel
      · rw [z]; exact hil
    rw [upd_ne (Nat.ne_of_lt hb')]
    exact (hf b hb).1
theorem turn_enumS {P : Program} {w : World} {K : PySem.W.Frag} {elts : List Expr} {kk : Nat} {tpos : Pos} (x : Str) (t : Tok) (e it : Addr) :
    Turn P w K (.Tuple elts kk tpos) (ItES x) [e, it] e (fun i h => (∃ old, IsEnum h e it ((i : Nat) : Int) old) ∧ h.IsStrIter it (strIterType x) x t i ∧ e ≠ it) where
  mem := by simp
  obj := fun i h st b hb => by
    obtain ⟨⟨old, he⟩, ⟨o, ho, hc, hd⟩, _⟩ := st
    have e' : b = e ∨ b = it := by simpa using hb
    rcases e' with z | z
    · rw [z]
      exact ⟨_, he, fun v q => nomatch q⟩
    · rw [z]
      exact ⟨o, ho, fun v q => by rw [hd] at q; cases q⟩
  keep := fun i h h' st k => by
    obtain ⟨⟨old, he⟩, ⟨o, ho, r⟩, hne⟩ := st
    exact ⟨⟨old, k e (by simp) _ he⟩, ⟨o, k it (by simp) o ho, r⟩, hne⟩
  item := by
    intro X hP hw hK hc i pins s σ H E I hf st hg
    subst hP hw hK
    obtain ⟨he, hit, hne⟩ := st
    have hli : ∃ o, s.heap.get? it = some o := by
      obtain ⟨o, q, _⟩ := hit
      exact ⟨o, q⟩
    refine enum_turn (J := ItES x) (tn := fun i h => (∃ old, IsEnum h e it ((i : Nat) : Int) old) ∧ h.IsStrIter it (strIterType x) x t i ∧ e ≠ it) I (PySem.Draws.text (A := X.A.in1) (I.ok.hd hc) it x t) hf he hit hg hne (by simpa using hne) hli (fun u ⟨c, tu, hx, eu⟩ => ⟨.str ⟨#[c]⟩, ⟨tu, eu⟩, fun H' T hT eH => ⟨T, c, rfl, hT, eH, hx⟩⟩) fun h' h'' hs k hE => ?_
    obtain ⟨o, ho, r⟩ := hs
    exact ⟨hE, ⟨o, k it o (Ne.symm hne) ho, r⟩, hne⟩
  done := by
    intro X hP hw hK hc i pins s σ H E I hf st hg
    subst hP hw hK
    obtain ⟨⟨old, he⟩, hit, hne⟩ := st
    obtain ⟨f0, f1, f2, f3, f4, f5⟩ := hf it (by simp)
    have hg : i = x.cps.size := hg
    rw [hg] at hit
    exact wpAny_pyNext_enum_endD (PySem.Draws.text (A := X.A.in1) (I.ok.hd hc) it x t) he hit fun h' eb => ⟨rfl, I.turned (t' := s.toks) (fun b o hb q => eb b o hb q) f0 f1 f3 f4 f5⟩
  self := fun A i s Q E st h => let ⟨⟨_, he⟩, _⟩ := st; wpAny_pyIter_enum he h
theorem turn_enumT {P : Program} {w : World} {K : PySem.W.Frag} {elts : List Expr} {kk : Nat} {tpos : Pos} (a : Addr) (xs : List V) (e it : Addr) :
    Turn P w K (.Tuple elts kk tpos) (ItET a xs) [e, it] e (fun i h => (∃ old, IsEnum h e it ((i : Nat) : Int) old) ∧ h.IsTupleIter it a i ∧ e ≠ it) where
  mem := by simp
  obj := fun i h st b hb => by
    obtain ⟨⟨old, he⟩, ⟨o, ho, hc, hd⟩, _⟩ := st
    have e' : b = e ∨ b = it := by simpa using hb
    rcases e' with z | z
    · rw [z]
      exact ⟨_, he, fun v q => nomatch q⟩
    · rw [z]
      exact ⟨o, ho, fun v q => by rw [hd] at q; cases q⟩
  keep := fun i h h' st k => by
    obtain ⟨⟨old, he⟩, hi, hne⟩ := st
    exact ⟨⟨old, k e (by simp) _ he⟩, hi.at fun o q => k it (by simp) o q, hne⟩
  item := by
    intro X hP hw hK hc i pins s σ H E I hf st hg
    subst hP hw hK
    obtain ⟨he, hit, hne⟩ := st
    obtain ⟨ha, hlt⟩ := hg
    obtain ⟨its, rv, p, hz⟩ := I.tuple (.inl (.inl ha))
    have hl := rv.length
    have nat : ∀ b ∈ [e, it], a ≠ b := fun b hb z => by
      have q := (hf b hb).1
      rw [← z, ha] at q
      cases q
    have hli : ∃ o, s.heap.get? it = some o := by
      obtain ⟨o, q, _⟩ := hit
      exact ⟨o, q⟩
    have hp : s.heap.IsTuple a its.toArray := p
    refine enum_turn (J := ItET a xs) (tn := fun i h => (∃ old, IsEnum h e it ((i : Nat) : Int) old) ∧ h.IsTupleIter it a i ∧ e ≠ it) I (PySem.Draws.tuple (A := X.A.in1) (I.ok.hd hc) it a (nat it (by simp)) its.toArray) hf he ⟨hit, hp⟩ (by simpa [← hl] using hlt) hne (by simp only [List.mem_cons, List.mem_nil_iff, or_false, not_or]; exact ⟨hne, Ne.symm (nat e (by simp))⟩) hli (fun u hu => ?_) fun h' h'' hs k hE => ⟨hE, hs.1.at fun o q => k it o (Ne.symm hne) q, hne⟩
    obtain ⟨x, hx⟩ : ∃ x, xs[i]? = some x := ⟨_, List.getElem?_eq_getElem hlt⟩
    obtain ⟨u2, hu2, ru⟩ := rv.get hx
    have e2 : u2 = u := by
      have z : its.toArray[i]? = some u2 := by simpa using hu2
      exact Option.some.inj (z.symm.trans hu)
    subst e2
    exact ⟨x, ru, fun H' T hT eH => ⟨T, x, rfl, hT, eH, hx⟩⟩
  done := by
    intro X hP hw hK hc i pins s σ H E I hf st hg
    subst hP hw hK
    obtain ⟨⟨old, he⟩, hit, hne⟩ := st
    obtain ⟨ha, hlt⟩ := hg
    obtain ⟨its, rv, p, hz⟩ := I.tuple (.inl (.inl ha))
    have hl := rv.length
    obtain ⟨f0, f1, f2, f3, f4, f5⟩ := hf it (by simp)
    have nat : a ≠ it := fun z => by
      rw [← z, ha] at f0
      cases f0
    have hp : s.heap.IsTuple a its.toArray := p
    have ei : i = its.toArray.size := by
      rw [List.size_toArray, ← hl]
      exact hlt
    rw [ei] at hit
    exact wpAny_pyNext_enum_endD (PySem.Draws.tuple (A := X.A.in1) (I.ok.hd hc) it a nat its.toArray) he ⟨hit, hp⟩ fun h' eb => ⟨rfl, I.turned (t' := s.toks) (fun b o hb q => eb b o hb q) f0 f1 f3 f4 f5⟩
  self := fun A i s Q E st h => let ⟨⟨_, he⟩, _⟩ := st; wpAny_pyIter_enum he h
section
variable {X : Cx}
def iEnumS (ta : TA) : TI := fun σ H R => ta σ H fun vs H1 => ∃ x, vs = [.str x] ∧ R (ItES x) H1
theorem pi_enumS {e : Expr} {ta : TA} {p pos tpos : Pos} {elts : List Expr} {kk : Nat} (hg : Gl X "enumerate") (hm : X.mg "enumerate" = none) (ha : PA X [e] ta) (hs : starEach [e] X.env = [(false, eval e X.env)] := by rfl) :
    PI X (.Tuple elts kk tpos) (.Call (.Name "enumerate" p) [e] [] pos) (iEnumS ta) := by
  refine ⟨fun pins s σ H R I h => ?_⟩
  refine Call_ (ld_blt I hg hm boot_enumerate (PyProof.Rows.callWith_type1 (thn (ha.run pos pins s σ H _ I h) fun us s1 ⟨vs, H1, I1, r1, q1⟩ => ?_) hs rfl))
  obtain ⟨x, rfl, q⟩ := q1
  obtain ⟨u, rfl, t, rfl⟩ := vals1 r1
  refine call_enumerate_str fun h' he hit hsz hk => wpAny_pyIter_enum he ?_
  have I2 : Inv X pins σ H1 { s1 with heap := h' } := I1.kept (t' := s1.toks) hk
  refine ⟨s1.heap.objs.size + 1, [s1.heap.objs.size + 1, s1.heap.objs.size], _, _, H1, rfl, I2, turn_enumS x t (s1.heap.objs.size + 1) s1.heap.objs.size, ⟨⟨.none, he⟩, hit, Nat.succ_ne_self _⟩, fun b hb => ?_, q⟩
  have e' : b = s1.heap.objs.size + 1 ∨ b = s1.heap.objs.size := by simpa using hb
  have hle : s1.heap.objs.size ≤ b := by
    rcases e' with z | z
    · rw [z]; exact Nat.le_add_right _ _
    · rw [z]; exact Nat.le_refl _
  exact I1.fpOk hle (I1.hok.fresh hle)
def iEnumT (ta : TA) : TI := fun σ H R => ta σ H fun vs H1 => ∃ a xs, vs = [.ref a] ∧ H1 a = some (.tup xs) ∧ R (ItET a xs) H1
theorem walk_enumS {x : Str} : Walk (ItES x) x.cps.size (fun _ => True) (YPair (fun i => some (.int (i : Nat))) (fun i => x.cps[i]?.map fun c => .str ⟨#[c]⟩)) := by
  refine ⟨fun _ _ hi _ => hi, fun _ _ => rfl, fun i H v H' _ _ y => ?_⟩
  obtain ⟨T, c, h1, h2, h3, h4⟩ := y
  exact ⟨T, _, _, h1, h2, h3, rfl, by show x.cps[i]?.map _ = _; rw [h4]; rfl⟩
theorem walk_enumT {a : Addr} {xs : List V} : Walk (ItET a xs) xs.length (fun H => H a = some (.tup xs)) (YPair (fun i => some (.int (i : Nat))) (fun i => xs[i]?)) := by
  refine ⟨fun _ _ hi q => ⟨q, hi⟩, fun _ q => ⟨q, rfl⟩, fun i H v H' _ _ y => ?_⟩
  obtain ⟨T, x, h1, h2, h3, h4⟩ := y
  exact ⟨T, _, _, h1, h2, h3, rfl, h4⟩
end
/-- a dict comprehension over a walk -/
theorem dc_it {J : It} {n : Nat} {G : Hp → Prop} {Y : Nat → Hp → V → Hp → Prop} (w : Walk J n G Y) {g : TG} {tt : TT} {tk tv : TE} {vs : List Nat} {σ : St} {H1 : Hp} {D : Addr} {Qd : Hp → Prop} (Pv : Nat → Hp → Prop) (h0 : Pv 0 (upd H1 D (.dK []))) (hG : ∀ i H, i ≤ n → Pv i H → G H)
    (hs : ∀ i x H H', i < n → Pv i H → Y i H x H' → g x (wipe σ vs) H' fun σ2 H2 => wipe σ2 vs = wipe σ vs ∧ tt σ2 H2 fun b H3 =>
      if b = true then tk σ2 H3 fun y H4 => tv σ2 H4 fun z H5 => ∃ kvs k, y = kV k ∧ H5 D = some (.dK kvs) ∧ kvs.length < sizeLine ∧ Pv (i + 1) (upd H5 D (.dK (putK kvs k z))) else Pv (i + 1) H3) (hd : ∀ H, Pv n H → Qd H) :
    ∃ W : Nat → Nat → Hp → Prop, (∃ m, W 0 m (upd H1 D (.dK []))) ∧ ∀ i m H, W i m H →
      (J.stop i H ∧ Qd H) ∨ (J.go i H ∧ ∃ Nx : Hp → Prop, (∀ H', Nx H' → ∃ m', m' < m ∧ W (i + 1) m' H') ∧ ∀ x H', J.yld i H x H' → g x (wipe σ vs) H' fun σ2 H2 => wipe σ2 vs = wipe σ vs ∧ tt σ2 H2 fun b H3 =>
        if b = true then tk σ2 H3 fun y H4 => tv σ2 H4 fun z H5 => ∃ kvs k, y = kV k ∧ H5 D = some (.dK kvs) ∧ kvs.length < sizeLine ∧ Nx (upd H5 D (.dK (putK kvs k z))) else Nx H3) := by
  refine ⟨fun i m H => m + i = n ∧ Pv i H, ⟨n, rfl, h0⟩, fun i m H ⟨em, p⟩ => ?_⟩
  have q := hG i H (by omega) p
  rcases Nat.lt_or_ge i n with hlt | hge
  · exact .inr ⟨w.goes i H hlt q, Pv (i + 1), fun H' p' => ⟨n - (i + 1), by omega, by omega, p'⟩, fun x H' y => hs i x H H' hlt p (w.yields i H x H' hlt q y)⟩
  · obtain rfl : i = n := by omega
    exact .inl ⟨w.stops H q, hd H p⟩
end SK
namespace SK
open PySem PySem.Spec PyProof.Rows L2 LamX NdefX
/-- enumerate(v) with no start -/
theorem enum_new1 {v : Value} {o : Obj} {C : Heap → Prop} (B : Begins v o C) :
    Meets (Builtin.«enumerate.__new__» ⟨[.type "enumerate", v], []⟩) (fun _ R s => C s.heap ∧
      R (.ok (.ret (.ref (s.heap.push o).objs.size))) { s with heap := (s.heap.push o).push { cls := .type "enumerate", data := .fields #[.none, .bool false, .ref s.heap.objs.size, rawInt 0, .none, .none] } }) :=
  .of_wp fun prog w A R s h => by
    obtain ⟨hp, g, d, tk, os⟩ := s
    obtain ⟨h1, h⟩ := h
    have sub0 := sub_enumerate
    have it0 : ∀ {A' : Around} {E : Value → Shared → Prop} {Q : Value → Shared → Prop}, Q (.ref hp.objs.size) ⟨hp.push o, g, d, tk, os⟩ → wpAny (model prog w) A' (pyIter v) Q E ⟨hp, g, d, tk, os⟩ :=
      fun q => B.iter prog w _ _ ⟨hp, g, d, tk, os⟩ _ h1 q
    wp_walk using it0
    refine wpAny_stack_any fun st => wpAny_pure ?_
    split
    · rename_i c _ _ _ _ _
      cases (c == Value.type "enumerate")
      all_goals
        wp_walk using it0
        exact ⟨_, rfl, h⟩
    · wp_walk using it0
      exact ⟨_, rfl, h⟩
end SK
namespace SK
open PySem PySem.Spec PyProof.Rows L2 LamX NdefX
section
variable {prog : Program} {w : World} {A : Around} {E : Value → Shared → Prop} {s : Shared}
theorem enum_tuple {a : Addr} {items : Array Value} {Q : Value → Shared → Prop} (ht : s.heap.IsTuple a items)
    (h : ∀ h', IsEnum h' (s.heap.objs.size + 1) s.heap.objs.size 0 .none → h'.IsTupleIter s.heap.objs.size a 0 → (∀ b o, s.heap.get? b = some o → h'.get? b = some o) → Q (.ref (s.heap.objs.size + 1)) { s with heap := h' }) :
    wpAny (model prog w) A (call (.type "enumerate") [.ref a]) Q E s := by
  refine callType_new F.called_enumerate (by decide) (F.typeCall_enumerate_1 _) (F.newCall_enumerate_1 _) (fun obj => F.args_object_init_2 obj _) F.entry_enumerate_new (enum_new1 (begins_tuple a items)) ⟨ht, ?_⟩
  generalize ho : ({ cls := .type "tuple_iterator", data := .fields #[.ref a, .int 0 0] } : Obj) = o
  have hfr : o.isFreed = false := by
    rw [← ho]
    rfl
  have hz : (s.heap.push o).objs.size = s.heap.objs.size + 1 := Heap.size_push ..
  show _ ∧ _
  rw [hz]
  have he : IsEnum ((s.heap.push o).push { cls := .type "enumerate", data := .fields #[.none, .bool false, .ref s.heap.objs.size, rawInt 0, .none, .none] }) (s.heap.objs.size + 1) s.heap.objs.size 0 .none := by
    have q := Heap.get?_push_size (s.heap.push o) (o := { cls := .type "enumerate", data := .fields #[.none, .bool false, .ref s.heap.objs.size, rawInt 0, .none, .none] }) rfl
    rw [hz] at q
    exact q
  have hi : (s.heap.push o).get? s.heap.objs.size = some o := Heap.get?_push_size _ hfr
  refine ⟨⟨_, he, rfl⟩, h _ he ⟨o, Heap.get?_push_of_some _ hi, by rw [← ho], by rw [← ho]; rfl⟩ fun b u q => Heap.get?_push_of_some _ (Heap.get?_push_of_some _ q)⟩
end
section
variable {X : Cx}
theorem pi_enumT {e : Expr} {ta : TA} {p pos tpos : Pos} {elts : List Expr} {kk : Nat} (hg : Gl X "enumerate") (hm : X.mg "enumerate" = none) (ha : PA X [e] ta) (hs : starEach [e] X.env = [(false, eval e X.env)] := by rfl) :
    PI X (.Tuple elts kk tpos) (.Call (.Name "enumerate" p) [e] [] pos) (iEnumT ta) := by
  refine ⟨fun pins s σ H R I h => ?_⟩
  refine Call_ (ld_blt I hg hm boot_enumerate (PyProof.Rows.callWith_type1 (thn (ha.run pos pins s σ H _ I h) fun us s1 ⟨vs, H1, I1, r1, q1⟩ => ?_) hs rfl))
  obtain ⟨a, xs, rfl, hq, q⟩ := q1
  obtain ⟨u, rfl, ru⟩ := vals1 r1
  obtain rfl : u = Value.ref a := ru
  obtain ⟨its, rv, pt, hz⟩ := I1.tuple (.inl (.inl hq))
  have pt' : s1.heap.IsTuple a its.toArray := pt
  refine enum_tuple pt' fun h' he hit hk => wpAny_pyIter_enum he ?_
  have I2 : Inv X pins σ H1 { s1 with heap := h' } := I1.kept (t' := s1.toks) hk
  refine ⟨s1.heap.objs.size + 1, [s1.heap.objs.size + 1, s1.heap.objs.size], _, _, H1, rfl, I2, turn_enumT a xs (s1.heap.objs.size + 1) s1.heap.objs.size, ⟨⟨.none, he⟩, hit, Nat.succ_ne_self _⟩, fun b hb => ?_, q⟩
  have hle : s1.heap.objs.size ≤ b := by
    simp only [List.mem_cons, List.mem_nil_iff, or_false] at hb
    rcases hb with z | z
    · rw [z]; exact Nat.le_add_right _ _
    · rw [z]; exact Nat.le_refl _
  exact I1.fpOk hle (I1.hok.fresh hle)
/-- y = {k: v for .. in ..}, y a local name -/
theorem ps_setDc {i : Nat} {y : Str} {py : Pos} {kx vx tg iter : Expr} {ifs : List Expr} {scope : Scope} {own : List (Str × Nat)} {pos spos : Pos} {wi : TI} {g : TG} {tt : TT} {tk tv : TE} (hc : X.calm = true) (hN : X.N.Nodup) (hy : X.N[i]? = some y) (hyl : X.env.scope.names.lookup y = some .local)
    (hsw : swapsWith (.DictComp kx vx [⟨tg, iter, ifs, 0⟩] scope pos) (some (.Name y py)) spos.line X.env = pure true) (hi : PI X tg iter wi) (ok : BlkOk X.N X.env.scope scope own)
    (hg : ∀ (s : Shared) (H : Hp) (C : Addr) (cl : List (Str × Addr)) (fp : List Addr), PG (X.blk s H scope (compEnvC scope cl C X.env) fp) tg g) (ht : ∀ (s : Shared) (H : Hp) (C : Addr) (cl : List (Str × Addr)) (fp : List Addr), PTs (X.blk s H scope (compEnvC scope cl C X.env) fp) ifs tt)
    (hk : ∀ (s : Shared) (H : Hp) (C : Addr) (cl : List (Str × Addr)) (fp : List Addr), PE (X.blk s H scope (compEnvC scope cl C X.env) fp) kx tk)
    (he : ∀ (s : Shared) (H : Hp) (C : Addr) (cl : List (Str × Addr)) (fp : List Addr), PE (X.blk s H scope (compEnvC scope cl C X.env) fp) vx tv) (hs : ∀ x, foldedSetIterable iter X.env x = pure x := by intro _; rfl) :
    PS X (.Assign [.Name y py] (.DictComp kx vx [⟨tg, iter, ifs, 0⟩] scope pos) spos) (tAsg (tDc wi g tt tk tv (own.map (·.2))) (gName i)) := by
  refine ⟨fun pins s σ H D I h => ?_⟩
  rw [exec_Assign_Name_used _ _ _ _ hsw]
  refine wpAny_bind (wpAny_standAt (wpAny_bind ?_))
  show wpAny _ X.A (do let _ ← comprehension (.DictComp kx vx [⟨tg, iter, ifs, 0⟩] scope pos) scope X.env (firstIterPos [⟨tg, iter, ifs, 0⟩] pos) newDict false (eval iter X.env) (some (assign (.Name y py) X.env))) _ _ s
  have hh : tDc wi g tt tk tv (own.map (·.2)) σ H (fun x H1 => gName i x σ H1 D.nx) := h
  refine wpAny_bind (thn (dc_core (Qf := fun _ s' => SP X pins D .next s') hc hN I hi ok hg ht hk he hs hh fun L C s' m H' I' q hn f => ?_) fun _ s' hq => wpAny_pure (wpAny_pure hq))
  show wpAny _ _ (assign (.Name y py) X.env (.ref L)) _ _ _
  refine wpAny_assign_Name (store_ok2 (v := V.ref L) I' hN hy (.inl hyl) rfl (fun s2 I2 ⟨a, sb, ha⟩ => ?_) (.inr hyl))
  obtain ⟨f0, f1, f2, f3, f4, f5⟩ := f
  have haC : C ≠ a := ha.elim (fun z => by rw [z]; exact f1) fun z e => f4 y a z e.symm
  refine ⟨m, hn.sameBut sb haC, fun h3 sb3 => ?_⟩
  exact ⟨_, H', I2.turned (t' := s2.toks) (fun b o hb e => (sb3.2 b hb).trans e) f0 f1 f3 f4 f5, q⟩
theorem swD_true {kx vx : Expr} {gs : List Comprehension} {scope : Scope} {pos py : Pos} {y : Str} {l : Nat} {env : Env} (hk : env.scope.kind = .function) (hy : env.scope.names.lookup y = some .local) (hl : (py.line == pos.line) = true)
    (ha : (scope.names.any fun (n, k) => n == y && (k == .local || k == .cell)) = false) : swapsWith (.DictComp kx vx gs scope pos) (some (.Name y py)) l env = pure true := by
  have ky : env.kindOf y = some .local := hy
  have hb : env.blockKind = .function := by
    unfold Env.blockKind
    rw [hk]
    rfl
  unfold swapsWith
  simp only [hb, ky, ha, Expr.pos, hl]
  rfl
end
end SK
namespace SK
open PySem PySem.Spec PyProof.Rows L2 LamX NdefX
def retE : Stmt → Expr
  | .Return (some e) _ => e
  | _ => .Name "" ⟨0, 0, 0, 0⟩
def kwE : Expr → Expr
  | .Call _ _ [k] _ => k.value
  | e => e
def lamSc : Expr → Scope
  | .Lambda _ _ s _ => s
  | _ => { kind := .function, names := [], isGenerator := false, isCoroutine := false, more := [] }
theorem upd_new {p : Addr} {o : HO} {H : Hp} (n : H p = none) : Same H (upd H p o) := fun c u h => by
  rw [upd_ne (ne_of_none h n)]
  exact h
def top (i : Nat) : Stmt := PySem.Challenge.pw_lettertrees_k16_whole_exact_rules.main.body.getD i (.Pass ⟨0, 0, 0, 0⟩)
/-- a def of the top whose code object is known -/
structure FunT (K : PySem.W.Frag) (x qual : Str) (st : Stmt) (f : Addr) (fd : FuncData) (c : Addr) : Prop where
  ex : ∃ (oc : Value) (od : Option Addr) (kV doc pm : Value) (an : Option Addr) (ct : Value) (osl : Array (Option Value)),
    fd = PySem.W.fnOf x qual (defArgs st) (defBody st) (defScope st) .none kV doc pm an (.ref c) ct ∧ K.lookup f = some ⟨oc, od, .func fd, osl⟩ ∧ PySem.W.codeIn K (.ref c) qual = true
  kp : PySem.W.keepIn K (.ref f) = true
theorem FunT.ok {P : Program} {w : World} {K : PySem.W.Frag} {mg : Str → Option Value} {base : Heap} {x qual : Str} {st : Stmt} {f c : Addr} {fd : FuncData} {N ps : List Str} {k : Nat} {sp : Sp} (F : FunT K x qual st f fd c) (S : FnScope N ps (defScope st)) (len : ∀ vs H Q E, sp vs H Q E → vs.length = ps.length)
    (hbody : ∀ (A : Around) (outer : List Env) (s : Shared) (H : Hp) (vs : List V) (Q : VK) (E : XK), Room k (A.deeper (envOfC qual (defScope st) s.heap.objs.size f (.ref c))) → sp vs H Q E →
      ∃ t, PSs (cxOf CX0 P w K mg base N qual (defScope st) f (.ref c) A outer s H E).nox (defBody st) t ∧ t { nx := fun _ H' => Q .non H', rt := Q } (start N vs) H) : FnOk P w K mg base CX0 (k + 1) f fd ps sp := by
  obtain ⟨oc, od, kV, doc, pm, an, ct, osl, rfl, lk, hcd⟩ := F.ex
  refine fn_of lk hcd S len fun A outer s H vs Q E hr hsp => ?_
  obtain ⟨t, h, q⟩ := hbody A outer s H vs Q E hr hsp
  exact ⟨t, h.nox, q⟩
/-! ### the order of words -/
def alpha : Str := "abcdefghijklmnopqrstuvwxyz"
structure OkL (ls : Str) : Prop where
  lo : 2 ≤ ls.cps.size
  hi : ls.cps.size ≤ 26
  nd : ls.cps.toList.Nodup
  al : ∀ c ∈ ls.cps.toList, 97 ≤ c ∧ c < 123
def rankOf (ls : Str) (c : Nat) : Nat := ls.cps.toList.idxOf c
def keyW (ls w : Str) : Str := ⟨(w.cps.toList.map fun c => 97 + rankOf ls c).toArray⟩
def OverL (ls w : Str) : Prop := w.cps.size ≤ 200 ∧ ∀ c ∈ w.cps.toList, c ∈ ls.cps.toList
def sortW (ls : Str) (ws : List Str) : List Str := ws.mergeSort (PySem.W.dataLe false fun x => .str (keyW ls x))
theorem alpha_at {i : Nat} (h : i < 26) : alpha.cps.toList[i]? = some (97 + i) := by
  have z : ∀ j < 26, alpha.cps.toList[j]? = some (97 + j) := by decide +kernel
  exact z i h
theorem join_chars : ∀ l : List Nat, Str.join (Str.ofString "") (l.map fun c => (⟨#[c]⟩ : Str)) = ⟨l.toArray⟩
  | [] => rfl
  | [c] => rfl
  | c :: d :: r => by
    have ih := join_chars (d :: r)
    simp only [List.map_cons] at ih ⊢
    show ((⟨#[c]⟩ : Str) ++ Str.ofString "") ++ Str.join (Str.ofString "") ((⟨#[d]⟩ : Str) :: r.map fun c => ⟨#[c]⟩) = _
    rw [ih]
    show (⟨(#[c] ++ (Str.ofString "").cps) ++ (d :: r).toArray⟩ : Str) = _
    have z : (Str.ofString "").cps = #[] := by decide +kernel
    rw [z]
    simp
theorem txt_join_chars (l : List Nat) : Txt.join (Str.ofString "") (l.map fun c => (⟨#[c]⟩ : Str)) = ⟨l.toArray⟩ := by
  show Builtin.Str.glued (Str.ofString "") _ = _
  rw [StrLaws.glued_eq_join]
  exact join_chars l
theorem ndW : (["word", "ranks", "sign"] : List Str).Nodup := by decide +kernel
theorem sum_ones (l : List Nat) : ((l.map fun c => (⟨#[c]⟩ : Str)).map (·.length)).sum = l.length := by
  induction l with
  | nil => rfl
  | cons c r ih =>
    simp only [List.map_cons, List.sum_cons, ih, List.length_cons]
    show 1 + r.length = _
    omega
theorem Same.extN {H H' : Hp} (s : Same H H') : ExtN H H' := ExtN.of s
def rJoin (K : PySem.W.Frag) : V → List V → Hp → VK → Prop := fun x xs H Q => ∃ a p, ∃ ys : List Str, x = .str a ∧ xs = [.ref p] ∧ (SqL K H p (ys.map V.str) ∨ SqT K H p (ys.map V.str)) ∧ (ys.map (·.length)).sum + ys.length * a.length ≤ 16777216 ∧ Q (.str (Txt.join a ys)) H
def tKey (K : PySem.W.Frag) : TE := tBM K "str" (rJoin K) (tC (.str "")) (tCons (tLc (iStr (tVar 0)) (gName 2) tYes (tDGet (tVar 1) (tVar 2)) [2]) tNil)
def spOrder (K : PySem.W.Frag) (T : List (Addr × Str)) : Sp := fun vs H Q _ => ∃ (ls : Str) (a : Addr) (ws : List Str), vs = [.str ls, .ref a] ∧ OkL ls ∧ SqL K H a (ws.map V.str) ∧ (∀ y ∈ ws, OverL ls y) ∧ Tabs T H ∧
  ∀ (H' : Hp) (p : Addr), ExtN H H' → Tabs T H' → H' p = some (.lst ((sortW ls ws).map V.str)) → Q (.ref p) H'
section
variable {P : Program} {w : World} {K : PySem.W.Frag} {mg : Str → Option Value} {base : Heap} {f c Pt : Addr} {fd : FuncData} {T : List (Addr × Str)}
theorem sc17 : FnScope ["letters", "words", "ranks", "rank", "letter"] ["letters", "words"] (defScope (top 21)) := ⟨rfl, rfl, rfl, by decide +kernel, rfl, by decide +kernel, by decide +kernel⟩
theorem ok_order (F : FunT K "in_order" "in_order" (top 21) f fd c) (gE : mg "enumerate" = none) (gS : mg "sorted" = none) {tA : Tok} (gA : mg "ALPHABET" = some (.str alpha tA)) (TB : TabB base mg c Pt) (hm : (Pt, ("in_order" : Str) ++ ".<locals>." ++ "<lambda>") ∈ T) (hu : ∀ p ∈ T, p.1 = Pt → p.2 = ("in_order" : Str) ++ ".<locals>." ++ "<lambda>") :
    FnOk P w K mg base CX0 5 f fd ["letters", "words"] (spOrder K T) := by
  refine F.ok sc17 (fun vs H Q E h => ?_) (fun A outer s H vs Q E hr h => ?_)
  · obtain ⟨ls, a, ws, rfl, _⟩ := h
    rfl
  · obtain ⟨ls, a, ws, rfl, hL, hS, hW, hT, kk⟩ := h
    refine ⟨_, pss_cons (ps_set (i := 2) sc17.nd rfl (Or.inr rfl) (pe_dc (own := [("rank", 3), ("letter", 4)]) (g := gTup K 2 (gCons (gName 3) (gCons (gName 4) gNil))) (tt := tYes) rfl sc17.nd (pi_enumS (by rfl) gE (pa_cons (pv 0) pa_nil))
      (blkOk_by (N := ["letters", "words", "ranks", "rank", "letter"]) (sc := defScope (top 21)) (by decide +kernel)) (fun _ _ _ _ _ => pg_tup rfl (pgs_cons (pg_name (i := 3) sc17.nd rfl (Or.inl rfl)) (pgs_cons (pg_name (i := 4) sc17.nd rfl (Or.inl rfl)) pgs_nil)))
      (fun _ _ _ _ _ => pts_nil) (fun _ _ _ _ _ => pv 4) (fun _ _ _ _ _ => pe_ix ix_str (pe_glob (v := V.str alpha) (by rfl) gA ⟨_, rfl⟩) (pv 3) (fun _ _ => rfl))))
      (pss_one (ps_ret (pe_sortkey (tb := tKey K) (k := 1) (N := ["word", "ranks", "sign"]) (fr := ["ranks"]) (a1 := "word") (js := [2]) (by rfl) gS (pv 1) TB rfl hm hu hr rfl (nscope_by (by decide +kernel)) (show ndefB (defScope (top 21)) (lamSc (kwE (retE ((defBody (top 21)).getD 1 (.Pass ⟨0, 0, 0, 0⟩))))) ["ranks"] = true by decide +kernel) rfl rfl (fun _ _ _ _ _ _ => rfl)
        (fun A2 outer2 s2 H2 f2 c2 cl2 hr2 =>
          pe_bm PySem.F.plainAttrs_str PySem.F.slot_str_join PySem.F.type_str_join mt_join pe_str (pa_cons (pe_lc (own := [("sign", 2)]) (g := gName 2) (tt := tYes) rfl ndW (pi_str (pv 0))
            (blkOk_by (N := ["word", "ranks", "sign"]) (sc := lamSc (kwE (retE ((defBody (top 21)).getD 1 (.Pass ⟨0, 0, 0, 0⟩))))) (by decide +kernel)) (fun _ _ _ _ _ => pg_name (i := 2) ndW rfl (Or.inl rfl)) (fun _ _ _ _ _ => pts_nil) (fun _ _ _ _ _ => pe_dget (hu_of hr2) (pv 1) (pv 2) (fun _ _ => rfl))) pa_nil))))), ?_⟩
    refine ⟨V.str ls, rfl, ls, rfl, fun D hD => dc_it walk_enumS (fun i H1 => ∃ kvs : List (Key × V), H1 D = some (.dK kvs) ∧ kvs.length ≤ i ∧ Same H H1 ∧ ∀ j c, j < i → ls.cps[j]? = some c → valV kvs (.inr ⟨#[c]⟩) = some (.str ⟨#[97 + j]⟩))
      ⟨[], upd_same, Nat.le_refl _, upd_new hD, fun j c h => absurd h (Nat.not_lt_zero _)⟩ (fun _ _ _ _ => trivial) ?_ ?_⟩
    · rintro i x H1 H2 hi ⟨kvs, hd, hl, sm, hv⟩ ⟨T1, x1, y1, rfl, nT, rfl, ex, ey⟩
      obtain rfl : V.int (i : Nat) = x1 := Option.some.inj ex
      obtain ⟨cc, hcc, rfl⟩ : ∃ cc, ls.cps[i]? = some cc ∧ V.str ⟨#[cc]⟩ = y1 := by
        have ey' : (ls.cps[i]?.map fun c => V.str ⟨#[c]⟩) = some y1 := ey
        cases q : ls.cps[i]? with
        | none =>
          rw [q] at ey'
          cases ey'
        | some cc =>
          rw [q] at ey'
          exact ⟨cc, rfl, Option.some.inj ey'⟩
      have hi26 : i < 26 := Nat.lt_of_lt_of_le hi hL.hi
      have nDT : D ≠ T1 := fun z => by
        rw [← z, hd] at nT
        cases nT
      refine ⟨T1, _, rfl, .inl (.inl upd_same), rfl, _, _, rfl, _, _, rfl, rfl, rfl, ?_⟩
      refine ⟨V.str ⟨#[cc]⟩, rfl, V.int i, rfl, alpha, (i : Int), 97 + i, rfl, rfl, (by decide +kernel), atI_nat (alpha_at hi26), kvs, .inr ⟨#[cc]⟩, rfl, (upd_ne nDT).trans hd, Nat.lt_of_le_of_lt hl (Nat.lt_trans hi26 (by decide)), _, upd_same, ?_, ?_, fun j c hj hc => ?_⟩
      · have z := length_putK kvs (.inr ⟨#[cc]⟩ : Key) (V.str ⟨#[97 + i]⟩)
        omega
      · exact fun b o e => by
          have nb : b ≠ D := ne_of_none e hD
          rw [upd_ne nb]
          exact upd_new nT _ _ (sm _ _ e)
      · rw [valV_put]
        by_cases hji : j = i
        · subst hji
          rw [hcc] at hc
          obtain rfl := Option.some.inj hc
          rw [if_pos rfl]
        · have hlt : j < i := by omega
          have hne : ¬ ((.inr ⟨#[c]⟩ : Key) = .inr ⟨#[cc]⟩) := fun z => by
            have z2 : c = cc := by
              injection z with z
              injection z with z
              simpa using z
            subst z2
            have h1 : ls.cps.toList[j]? = some c := by simpa using hc
            have h2 : ls.cps.toList[i]? = some c := by simpa using hcc
            exact hji (nd_ix hL.nd h1 h2)
          rw [if_neg hne]
          exact hv j c hlt hc
    rintro H1 ⟨kvs, hd, hl, sm, hv⟩
    have look : ∀ cc ∈ ls.cps.toList, valV kvs (.inr ⟨#[cc]⟩) = some (.str ⟨#[97 + rankOf ls cc]⟩) := fun cc hcc => by
      have hlt : ls.cps.toList.idxOf cc < ls.cps.toList.length := List.idxOf_lt_length_of_mem hcc
      refine hv _ cc (by simpa [rankOf] using hlt) ?_
      have z : ls.cps.toList[ls.cps.toList.idxOf cc]? = some cc := by
        rw [List.getElem?_eq_getElem hlt, List.getElem_idxOf]
      simpa [rankOf] using z
    refine ⟨V.ref a, rfl, a, ws, keyW ls, rfl, sm.seq hS, hT.ext sm, ExtN.of sm, fun H2 eN T2 => ⟨fun y hy H3 sm3 => ?_, fun H5 p np sm5 h5 => ?_⟩⟩
    · have hd3 : H3 D = some (.dK kvs) := sm3 _ _ (eN _ _ hd fun ps z => nomatch z)
      obtain ⟨hy1, hy2⟩ := hW y hy
      refine ⟨rfl, V.str y, rfl, y, rfl, fun D2 nD2 => lc_it walk_str (fun i H' => Same H3 H' ∧ H' D2 = some (.lst ((y.cps.toList.take i).map fun c => V.str ⟨#[97 + rankOf ls c]⟩))) ⟨upd_new nD2, upd_same⟩ (fun _ _ _ _ => trivial) ?_ ?_⟩
      · rintro i x H4 H5 hi ⟨s4, h4⟩ ⟨rfl, cc, hcc, rfl⟩
        have hm : cc ∈ y.cps.toList := by
          have z : y.cps.toList[i]? = some cc := by simpa using hcc
          exact List.mem_of_getElem? z
        have et : y.cps.toList.take (i + 1) = y.cps.toList.take i ++ [cc] := by
          have z : y.cps.toList[i]? = some cc := by simpa using hcc
          rw [List.take_add_one, z]
          rfl
        have dg := DGet.k (k := (.inr ⟨#[cc]⟩ : Key)) (s4 _ _ hd3)
        rw [look cc (hy2 cc hm)] at dg
        refine ⟨rfl, V.ref D, rfl, V.str ⟨#[cc]⟩, rfl, D, _, rfl, dg, _, h4, ?_, fun b o e => ?_, ?_⟩
        · rw [List.length_map, List.length_take]
          have z : (200 : Nat) < sizeLine := by decide
          omega
        · rw [upd_ne (ne_of_none e nD2)]
          exact s4 _ _ e
        · rw [et, List.map_append]
          exact upd_same
      · rintro H4 ⟨s4, h4⟩
        have e1 : y.cps.toList.take y.cps.size = y.cps.toList := List.take_of_length_le (by simp)
        rw [e1] at h4
        have e2 : (y.cps.toList.map fun c => V.str ⟨#[97 + rankOf ls c]⟩) = ((y.cps.toList.map fun c => 97 + rankOf ls c).map fun c => (⟨#[c]⟩ : Str)).map V.str := by
          rw [List.map_map, List.map_map]
          rfl
        rw [e2] at h4
        refine ⟨"", D2, _, rfl, rfl, .inl (.inl (.inl h4)), ?_, ?_, s4⟩
        · rw [sum_ones]
          have z : (Str.ofString "").length = 0 := by decide
          rw [z, List.length_map, Array.length_toList]
          omega
        · rw [txt_join_chars]
          rfl
    · exact kk H5 p ((ExtN.of sm).trans (eN.trans (ExtN.of sm5))) (T2.ext sm5) h5
end
end SK
/-! ### set(a text) -/
namespace SK
/-- the different ones, as they are met -/
def nub (l : List Nat) : List Nat := l.foldl (fun acc c => if c ∈ acc then acc else acc ++ [c]) []
theorem nub_snoc (l : List Nat) (c : Nat) : nub (l ++ [c]) = if c ∈ nub l then nub l else nub l ++ [c] := by
  unfold nub
  rw [List.foldl_append]
  rfl
theorem snoc_ind {p : List Nat → Prop} (h0 : p []) (hs : ∀ l c, p l → p (l ++ [c])) : ∀ l, p l := fun l => by
  have z : ∀ r : List Nat, p r.reverse := fun r => by
    induction r with
    | nil => exact h0
    | cons c r ih =>
      rw [List.reverse_cons]
      exact hs _ _ ih
  have q := z l.reverse
  rw [List.reverse_reverse] at q
  exact q
theorem mem_nub (c : Nat) : ∀ l, c ∈ nub l ↔ c ∈ l := snoc_ind (by simp [nub]) fun l d ih => by
  rw [nub_snoc]
  by_cases h : d ∈ nub l
  · rw [if_pos h, List.mem_append, ih]
    constructor
    · exact .inl
    · rintro (z | z)
      · exact z
      · obtain rfl := List.mem_singleton.mp z
        exact ih.mp h
  · rw [if_neg h, List.mem_append, List.mem_append, ih]
theorem nub_le : ∀ l, (nub l).length ≤ l.length := snoc_ind (by simp [nub]) fun l d ih => by
  rw [nub_snoc, List.length_append]
  split
  · simp; omega
  · simp; omega
theorem nub_nodup : ∀ l, ((nub l).length = l.length) ↔ l.Nodup := snoc_ind (by simp [nub]) fun l d ih => by
  have le := nub_le l
  rw [nub_snoc, List.nodup_append]
  by_cases h : d ∈ nub l
  · rw [if_pos h]
    have hl := (mem_nub d l).mp h
    constructor
    · intro z
      simp at z
      omega
    · rintro ⟨_, _, z⟩
      exact absurd rfl (z d hl d (by simp))
  · rw [if_neg h]
    have hl : d ∉ l := fun z => h ((mem_nub d l).mpr z)
    constructor
    · intro z
      refine ⟨ih.mp (by simpa using z), by simp, fun a ha b hb e => ?_⟩
      obtain rfl := List.mem_singleton.mp hb
      exact hl (e ▸ ha)
    · rintro ⟨z, _, _⟩
      have := ih.mpr z
      simp [this]
end SK
namespace SK
open PySem PyProof.Rows
/-- what a set of the signs of l holds -/
def inSigns (l : List Nat) (k : Str) : Bool := (nub l).any fun c => decide (k = ⟨#[c]⟩)
theorem inSigns_one (l : List Nat) (c : Nat) : inSigns l ⟨#[c]⟩ = decide (c ∈ nub l) := by
  unfold inSigns
  by_cases h : c ∈ nub l
  · rw [decide_eq_true h]
    exact List.any_eq_true.mpr ⟨c, h, by simp⟩
  · rw [decide_eq_false h, List.any_eq_false]
    intro d hd
    simp only [decide_eq_true_eq]
    intro z
    have : c = d := by
      injection z with z
      simpa using z
    exact h (this ▸ hd)
theorem inSigns_snoc (l : List Nat) (c : Nat) (k : Str) : inSigns (l ++ [c]) k = (inSigns l k || decide (k = ⟨#[c]⟩)) := by
  unfold inSigns
  rw [nub_snoc]
  by_cases h : c ∈ nub l
  · rw [if_pos h]
    by_cases e : k = ⟨#[c]⟩
    · have z : ((nub l).any fun c => decide (k = ⟨#[c]⟩)) = true := List.any_eq_true.mpr ⟨c, h, by simp [e]⟩
      rw [z, Bool.true_or]
    · rw [decide_eq_false e, Bool.or_false]
  · rw [if_neg h, List.any_append]
    simp
section
variable {prog : Program} {w : World} {A : Around} {R : Result → Shared → Prop} {I : Addr} {fp wr : List Addr} {G : Array GenState → Array GenState → Prop} {St : Nat → Shared → Prop}
theorem loop_text (x : Str) (W : WalksS prog w A.in1 I fp wr G x.cps.size (SignAt x) St) (S : Addr) (hSf : S ∉ fp) (hz : x.cps.size + 1 < scanBound) : ∀ (m i : Nat) (s : Shared), m + i = x.cps.size → St i s →
    s.heap.SetOf (strKind prog w) S (inSigns (x.cps.toList.take i)) (nub (x.cps.toList.take i)).length →
    (∀ s', Moved (S :: wr) G s s' → s'.heap.SetOf (strKind prog w) S (inSigns x.cps.toList) (nub x.cps.toList).length → R (.ok (.ret .none)) s') →
    codeAny (model prog w) A (.builtin "set.update.loop" ⟨[.ref S, .ref I], []⟩) R s := by
  have hSw : S ∉ wr := fun h => hSf (W.sub _ h)
  have sub : ∀ b ∈ wr, b ∈ S :: wr := fun b hb => List.mem_cons_of_mem _ hb
  have same : ∀ {i : Nat} {s s' : Shared}, Moved wr G s s' → s.heap.SetOf (strKind prog w) S (inSigns (x.cps.toList.take i)) (nub (x.cps.toList.take i)).length → s'.heap.SetOf (strKind prog w) S (inSigns (x.cps.toList.take i)) (nub (x.cps.toList.take i)).length := fun hm ⟨o, es, ep, tb, ho, r⟩ =>
    ⟨o, es, ep, tb, hm.heap S _ hSw ho, r⟩
  intro m
  induction m with
  | zero =>
    intro i s hk st hS hR
    obtain rfl : i = x.cps.size := by omega
    refine codeAny_builtin PyProof.Rows.F.entry_set_update_loop ?_
    rw [Around.under_plainId PyProof.Rows.F.plain_set_update_loop _]
    show wpAny _ A.in1 (pyNext (.ref I) >>= _) _ _ s
    refine wpAny_bind (W.done s _ _ st fun s' hm => ?_)
    have e : x.cps.toList.take x.cps.size = x.cps.toList := List.take_of_length_le (by simp)
    have q := same hm hS
    rw [e] at q
    show wpAny _ A.in1 (ret Value.none) _ _ s'
    exact wpAny_pure (hR s' (hm.mono sub) q)
  | succ m ih =>
    intro i s hk st hS hR
    have hlt : i < x.cps.size := by omega
    refine codeAny_builtin PyProof.Rows.F.entry_set_update_loop ?_
    rw [Around.under_plainId PyProof.Rows.F.plain_set_update_loop _]
    show wpAny _ A.in1 (pyNext (.ref I) >>= _) _ _ s
    refine wpAny_bind (W.item i s _ _ hlt st fun v s' hP st' hm => ?_)
    obtain ⟨c, t, hc, rfl⟩ := hP
    have q := same hm hS
    have e : x.cps.toList.take (i + 1) = x.cps.toList.take i ++ [c] := by
      have z : x.cps.toList[i]? = some c := by simpa using hc
      rw [List.take_add_one, z]
      rfl
    show wpAny _ A.in1 (holding [Value.str ⟨#[c]⟩ t] (setAdd S (.str ⟨#[c]⟩ t)) >>= _) _ _ s'
    refine wpAny_bind (wpAny_holding ?_)
    unfold setAdd
    refine wpAny_holding ?_
    have isk : (strKind prog w).is (⟨#[c]⟩ : Str) (.str ⟨#[c]⟩ t) = true := Froz.is_str _ _
    refine wpAny_bind ((strKind prog w).pyHash (k := (⟨#[c]⟩ : Str)) isk ?_)
    have room : (nub (x.cps.toList.take i)).length + 1 < scanBound := by
      have h1 := nub_le (x.cps.toList.take i)
      rw [List.length_take] at h1
      omega
    refine wpAny_setAddHashed_of (knd := strKind prog w) (s := { s' with toks := s'.toks + 1 }) isk rfl q room fun h' hsb hS2 => ?_
    have hSi : h'.SetOf (strKind prog w) S (inSigns (x.cps.toList.take (i + 1))) (nub (x.cps.toList.take (i + 1))).length := by
      rw [e]
      refine SetOf_congr hS2 (fun k => (inSigns_snoc _ c k).symm) ?_
      rw [inSigns_one, nub_snoc]
      by_cases hm : c ∈ nub (x.cps.toList.take i)
      · rw [if_pos hm, if_pos (decide_eq_true hm)]
      · rw [if_neg hm, if_neg (by rw [decide_eq_false hm]; exact Bool.false_ne_true), List.length_append]
        rfl
    refine wpAny_pure ⟨plainId_quiet PyProof.Rows.F.plain_set_update_loop _, ih (i + 1) _ (by omega) (W.frame _ s' _ _ st' (Nat.le_succ _) fun b hb o z => ?_) hSi fun s2 hm2 hS3 => ?_⟩
    · have nb : b ≠ S := fun h => hSf (h ▸ hb)
      exact (hsb.2 b nb).trans z
    · refine hR s2 (Moved.trans W.gtrans ((hm.mono sub).then_heap (Nat.le_succ _) fun b o hb z => ?_) hm2) hS3
      have nb : b ≠ S := fun h => hb (by rw [h]; exact List.mem_cons_self)
      exact (hsb.2 b nb).trans z
end
end SK
namespace SK
open PySem PyProof.Rows
theorem sub_str_set : isSubtype (.type "str") (.type "set") = pure false := by
  rw [isSubtype_type]
  kernel_rfl
theorem sub_str_froz : isSubtype (.type "str") (.type "frozenset") = pure false := by
  rw [isSubtype_type]
  kernel_rfl
section
variable {prog : Program} {w : World} {A : Around} {E : Value → Shared → Prop} {s : Shared}
theorem call_set_text {x : Str} {t : Tok} {Q : Value → Shared → Prop} (hh : A.handled = none) (ha : x.cps.all (· < 128) = true) (hz : x.cps.size + 1 < scanBound)
    (h : ∀ (h' : Heap) (tk : Nat), h'.SetOf (strKind prog w) s.heap.objs.size (inSigns x.cps.toList) (nub x.cps.toList).length → (∀ b o, b < s.heap.objs.size → s.heap.get? b = some o → h'.get? b = some o) →
      Q (.ref s.heap.objs.size) { s with heap := h', toks := tk }) : wpAny (model prog w) A (call (.type "set") [.str x t]) Q E s := by
  obtain ⟨c, tl, hmro⟩ := PySem.F.called_set.mro
  have made := PySem.F.called_set.made
  have subs := PySem.F.called_set.sub
  refine wpAny_call (codeAny_of_tree ?_)
  show wpAny _ _ (callAny (.type "set") _) _ _ _
  refine wpAny_pure ⟨Code.quiet_builtin _ (by decide +kernel), codeAny_builtin PySem.F.entry_type_call ?_⟩
  rw [Around.under_plain (weight_type_call_type "set" [.str x t] []) rfl]
  have f1 := PySem.F.called_set.notType
  have f2 := PySem.F.called_set.canCreate
  have f3 := PySem.F.typeCall_set_1 (.str x t)
  repeat (any_goals (first | assumption | wp_step))
  refine codeAny_mono (code_set_new_1 (.str x t) (E := E) (Q₁ := fun obj s₁ => ∃ led : Bool, obj = .ref s.heap.objs.size ∧ s₁ = { s with heap := s.heap.push { cls := .type "set", dict := none, data := .set #[] 0 (.fresh 0 0 led) } }) fun led => ⟨led, rfl, rfl⟩) fun r s1 hr => ?_
  cases r with
  | error e => exact hr
  | ok fl =>
    cases fl with
    | ret obj =>
      obtain ⟨led, rfl, rfl⟩ := hr
      generalize hoo : ({ cls := .type "set", dict := none, data := .set #[] 0 (.fresh 0 0 led) } : Obj) = oo
      have fro : oo.isFreed = false := by rw [← hoo]; rfl
      have hS : (s.heap.push oo).get? s.heap.objs.size = some oo := Heap.get?_push_size _ fro
      have hT : Shared.TypeIs { s with heap := s.heap.push oo } (.ref s.heap.objs.size) "set" := ⟨_, hS, by rw [← hoo]⟩
      have hli := PySem.F.called_set.init.lookup
      have hbi := PySem.F.called_set.init.bind (.ref s.heap.objs.size)
      repeat (any_goals (first | assumption | wp_step))
      refine codeAny_mono (codeAny_call_builtin (R := wants (fun r s₂ => r = .none ∧ ∃ h' tk, s₂ = { s with heap := h', toks := tk } ∧ h'.SetOf (strKind prog w) s.heap.objs.size (inSigns x.cps.toList) (nub x.cps.toList).length ∧
          (∀ b o, b < s.heap.objs.size → s.heap.get? b = some o → h'.get? b = some o)) E) PySem.F.called_set.init.plain PySem.F.entry_set_init (check_set_init_1 hT ?_)) fun r2 s2 hr2 => ?_
      · subst hoo
        have g1 := sub_str_set
        have g2 := sub_str_froz
        unfold Builtin.«set.__init__» noKeywords Builtin.Frozenset.updateFrom
        generalize hPI : pyIter = PI
        wp_walk
        subst hPI
        refine wpAny_pyIter_ascii ha ?_
        refine wpAny_bind (wpAny_runValue ?_)
        have hh3 : A.in1.in1.in1.handled = none := by simp [hh]
        generalize hoo : ({ cls := .type "set", dict := none, data := .set #[] 0 (.fresh 0 0 led) } : Obj) = oo at hS hT ⊢
        have sz : (s.heap.push oo).objs.size = s.heap.objs.size + 1 := Heap.size_push ..
        refine loop_text x ((Walks.strAscii hh3 (s.heap.push oo).objs.size x t).toS) s.heap.objs.size (by rw [sz]; simp) hz x.cps.size 0 _ (by omega) ⟨_, Heap.get?_push_size _ rfl, rfl, rfl⟩ ?_ fun s' hm hS' => ?_
        · have hget := Heap.get?_push_of_some ({ cls := .type "str_ascii_iterator", data := .fields #[.str x t, .int 0 0] } : Obj) hS
          rw [← hoo] at hget ⊢
          exact SetOf_congr ((setObjOf_fresh (knd := strKind prog w) led).setOf hget (by unfold scanBound; omega)) (fun _ => rfl) rfl
        · obtain ⟨h', g', d', tk', os'⟩ := s'
          obtain rfl : g' = s.gens := hm.gens
          obtain rfl : d' = s.drawn := hm.drawn
          obtain rfl : os' = s.os := hm.os
          show wpAny _ _ _ _ _ _
          refine wpAny_pure ?_
          show wpAny _ _ (ret Value.none) _ _ _
          refine wpAny_pure ⟨rfl, h', tk', rfl, hS', fun b o hb e => ?_⟩
          have n1 : b ≠ s.heap.objs.size := Nat.ne_of_lt hb
          have n2 : b ≠ (s.heap.push oo).objs.size := by
            rw [sz]
            exact Nat.ne_of_lt (Nat.lt_succ_of_lt hb)
          exact hm.heap b o (by simp only [List.mem_cons, List.mem_singleton, List.not_mem_nil, or_false, not_or]; exact ⟨n1, n2⟩) (Heap.get?_push_of_some _ (Heap.get?_push_of_some _ e))
      · cases r2 with
        | error e => exact hr2
        | ok f2' =>
          cases f2' with
          | ret r =>
            obtain ⟨rfl, h', tk, rfl, hS', hk'⟩ := hr2
            repeat (any_goals (first | assumption | wp_step))
            exact h _ _ hS' hk'
          | _ => exact hr2.elim
    | _ => exact hr.elim
end
end SK
namespace SK
open PySem PySem.Spec PyProof.Rows L2 LamX NdefX
section
variable {X : Cx}
/-- len(set(x)), x a text of ASCII signs -/
def tLenSetT (ta : TE) : TE := fun σ H Q => ta σ H fun v H1 => ∃ x : Str, v = .str x ∧ x.cps.all (· < 128) = true ∧ x.cps.size ≤ 1000 ∧ Q (.int ((nub x.cps.toList).length : Nat)) H1
theorem pe_lenSetT {a : Expr} {ta : TE} {p p2 q pos : Pos} (hc : X.calm = true) (hg : Gl X "len") (hm : X.mg "len" = none) (hg2 : Gl X "set") (hm2 : X.mg "set" = none) (ha : PE X a ta) (na : starEach [a] X.env = (false, eval a X.env) :: starEach [] X.env := by rfl) :
    PE X (.Call (.Name "len" p) [.Call (.Name "set" p2) [a] [] q] [] pos) (tLenSetT ta) := by
  refine ⟨fun pins s σ H Q I h => ?_⟩
  refine Call_ (ld_blt I hg hm PySem.boot_len ?_)
  refine PyProof.Rows.callWith_builtin1 (PyProof.Rows.args_cons ?_ rfl) rfl rfl
  refine Call_ (ld_blt I hg2 hm2 boot_set ?_)
  refine PyProof.Rows.callWith_type1 (PyProof.Rows.args_cons (thn (ha.run pins s σ H _ I h) fun v s1 ⟨x, H1, I1, r1, q1⟩ => PyProof.Rows.args_nil ?_) na) na rfl
  obtain ⟨x, rfl, hasc, hz, q1⟩ := q1
  obtain ⟨t, rfl⟩ := r1
  refine call_set_text (I1.ok.hd hc) hasc (by unfold scanBound; omega) fun h' tk hS hk => PyProof.Rows.args_nil ?_
  obtain ⟨o, es, ep, tb, ho, hex, hd, _, _, _, hf, hn⟩ := hS
  have I2 : Inv X pins σ H1 { s1 with heap := h', toks := tk } := I1.kept fun b o e => hk b o (Heap.lt_size e) e
  have le := nub_le x.cps.toList
  have lz : x.cps.toList.length = x.cps.size := by simp
  refine call_len_set ho hex hd hf (by rw [hn]; omega) ⟨.int _, H1, I2.tok _, ⟨_, by rw [hn]⟩, q1⟩
end
end SK
namespace SK
open PySem PySem.Spec PyProof.Rows L2 LamX NdefX
open K0 (De DeAll)
/-! ### data: of which type, letters, words, rows -/
def isS : PyData → Bool
  | .str _ => true
  | _ => false
def isB : PyData → Bool
  | .bool _ => true
  | _ => false
def isTL : PyData → Bool
  | .tuple _ => true
  | .list _ => true
  | _ => false
def okLb (x : Str) : Bool := decide (2 ≤ x.cps.size) && decide (x.cps.size ≤ 26) && (decide x.cps.toList.Nodup && x.cps.toList.all fun c => decide (c ∈ alpha.cps.toList))
def okLd : PyData → Bool
  | .str x => okLb x
  | _ => false
def okW (ls : Str) : PyData → Bool
  | .str x => decide (x.cps.size ≤ 200) && x.cps.toList.all fun c => decide (c ∈ ls.cps.toList)
  | _ => false
def okR3 (ls : Str) : List PyData → Bool
  | [a, b, c] => okW ls a && (isB b && isB c)
  | _ => false
def okR (ls : Str) : PyData → Bool
  | .tuple ds => okR3 ls ds
  | .list ds => okR3 ls ds
  | _ => false
theorem ty_of {K : PySem.W.Frag} {H : Hp} {v : V} {d : PyData} (h : De K H v d) : ∃ T : String, TyX K H v (.type T) ∧ kitB T "str" = some (isS d) ∧ kitB T "bool" = some (isB d) ∧ ∃ t1 t2, kitB T "tuple" = some t1 ∧ kitB T "list" = some t2 ∧ (t1 || t2) = isTL d := by
  cases h with
  | non => exact ⟨"NoneType", .base .non, (by show kitB "NoneType" "str" = some false; decide +kernel), (by show kitB "NoneType" "bool" = some false; decide +kernel), false, false, by decide +kernel, by decide +kernel, rfl⟩
  | bl b => exact ⟨"bool", .base (.bl b), (by show kitB "bool" "str" = some false; decide +kernel), (by show kitB "bool" "bool" = some true; decide +kernel), false, false, by decide +kernel, by decide +kernel, rfl⟩
  | int i => exact ⟨"int", .base (.int i), (by show kitB "int" "str" = some false; decide +kernel), (by show kitB "int" "bool" = some false; decide +kernel), false, false, by decide +kernel, by decide +kernel, rfl⟩
  | str x => exact ⟨"str", .base (.str x), (by show kitB "str" "str" = some true; decide +kernel), (by show kitB "str" "bool" = some false; decide +kernel), false, false, by decide +kernel, by decide +kernel, rfl⟩
  | lst ha hd => exact ⟨"list", .base (.lst ha), (by show kitB "list" "str" = some false; decide +kernel), (by show kitB "list" "bool" = some false; decide +kernel), false, true, by decide +kernel, by decide +kernel, rfl⟩
  | tup ha hd => exact ⟨"tuple", .base (.tup ha), (by show kitB "tuple" "str" = some false; decide +kernel), (by show kitB "tuple" "bool" = some false; decide +kernel), true, false, by decide +kernel, by decide +kernel, rfl⟩
  | dic ha => exact ⟨"dict", .base (.dK ha), (by show kitB "dict" "str" = some false; decide +kernel), (by show kitB "dict" "bool" = some false; decide +kernel), false, false, by decide +kernel, by decide +kernel, rfl⟩
theorem kit_two {K : PySem.W.Frag} {T : String} {t1 t2 : Bool} (h1 : kitB T "tuple" = some t1) (h2 : kitB T "list" = some t2) : PySem.W.kitAny K (.type T) [.type "tuple", .type "list"] = some (t1 || t2) := by
  refine kitAny_cons (b := t1) (kit_ty h1) (fun e => ?_) (fun e => by rw [e]; rfl)
  rw [e, Bool.false_or]
  refine kitAny_cons (b := t2) (kit_ty h2) (fun e => ?_) (fun e => e)
  rw [e]
  exact kitAny_nil
/-- all([.. for sign in x]) -/
theorem rd_all_text {K : PySem.W.Frag} {tx te : TE} {i : Nat} {vs : List Nat} {σ : St} {H : Hp} {Q : VK} {x : Str} (p : Nat → Bool) (hz : x.cps.size ≤ 1000) (htx : ∀ R : VK, R (.str x) H → tx σ H R) (hw : ∀ v, wipe ((wipe σ vs).set i (some v)) vs = wipe σ vs)
    (hte : ∀ (c : Nat) (H1 : Hp) (R : VK), R (.bl (p c)) H1 → te ((wipe σ vs).set i (some (.str ⟨#[c]⟩))) H1 R) (k : ∀ H1, Same H H1 → Q (.bl (x.cps.toList.all p)) H1) :
    tCB (rAll K) (tCons (tLc (iStr tx) (gName i) tYes te vs) tNil) σ H Q := by
  refine htx _ ⟨x, rfl, fun D nD => lc_it walk_str (fun j H' => Same H H' ∧ H' D = some (.lst ((x.cps.toList.take j).map fun c => V.bl (p c)))) ⟨upd_new nD, upd_same⟩ (fun _ _ _ _ => trivial) ?_ ?_⟩
  · rintro j y H4 H5 hj ⟨s4, h4⟩ ⟨rfl, c, hc, rfl⟩
    have z : x.cps.toList[j]? = some c := by simpa using hc
    have et : x.cps.toList.take (j + 1) = x.cps.toList.take j ++ [c] := by
      rw [List.take_add_one, z]
      rfl
    refine ⟨hw _, hte c _ _ ⟨_, h4, ?_, fun b o e => ?_, ?_⟩⟩
    · rw [List.length_map, List.length_take]
      have z : (1000 : Nat) < sizeLine := by decide
      omega
    · rw [upd_ne (ne_of_none e nD)]
      exact s4 _ _ e
    · rw [et, List.map_append]
      exact upd_same
  · rintro H4 ⟨s4, h4⟩
    have e1 : x.cps.toList.take x.cps.size = x.cps.toList := List.take_of_length_le (by simp)
    rw [e1] at h4
    have e2 : (x.cps.toList.map fun c => V.bl (p c)) = (x.cps.toList.map p).map V.bl := by
      rw [List.map_map]
      rfl
    rw [e2] at h4
    refine ⟨D, _, rfl, .inl (.inl h4), ?_⟩
    have e3 : (x.cps.toList.map p).all id = x.cps.toList.all p := by
      rw [List.all_map]
      rfl
    rw [e3]
    exact k H4 s4
def spLet (K : PySem.W.Frag) : Sp := fun vs H Q _ => ∃ (v : V) (d : PyData), vs = [v] ∧ De K H v d ∧ (∀ x, d = .str x → x.cps.all (· < 128) = true ∧ x.cps.size ≤ 1000) ∧ ∀ H', Same H H' → Q (.bl (okLd d)) H'
def spWord (K : PySem.W.Frag) : Sp := fun vs H Q _ => ∃ (ls : Str) (v : V) (d : PyData), vs = [.str ls, v] ∧ De K H v d ∧ (∀ x, d = .str x → x.cps.size ≤ 1000) ∧ ∀ H', Same H H' → Q (.bl (okW ls d)) H'
section
variable {P : Program} {w : World} {K : PySem.W.Frag} {mg : Str → Option Value} {base : Heap} {f : Addr} {fd : FuncData}
theorem sc12 : FnScope ["letters", "letter"] ["letters"] (defScope (top 16)) := ⟨rfl, rfl, rfl, by decide +kernel, rfl, by decide +kernel, by decide +kernel⟩
theorem ok_letters (F : Fun K "is_letters" "is_letters" (top 16) f fd) (gI : mg "isinstance" = none) (gS : mg "str" = none) (gL : mg "len" = none) (gE : mg "set" = none) (gAl : mg "all" = none) {tA : Tok} (gA : mg "ALPHABET" = some (.str alpha tA)) : FnOk P w K mg base CX0 1 f fd ["letters"] (spLet K) := by
  refine F.ok sc12 (fun vs H Q E h => ?_) (fun cdv A outer s H vs Q E hr h => ?_)
  · obtain ⟨v, d, rfl, _⟩ := h
    rfl
  · obtain ⟨v, d, rfl, hd, hx, k⟩ := h
    refine ⟨_, pss_cons (ps_if (pw_or (pt_not (pt_val (pe_callB call_isi (by rfl) gI PyProof.Rows.boot_isinstance (pa_cons (pv 0) (pa_cons (pe_bltn (v := .ty "str") (by rfl) gS PyProof.Rows.boot_str rfl) pa_nil)))))
        (pw_or1 (pt_not (pt_chain op_le op_le pe_int (pe_callB call_len_str (by rfl) gL PySem.boot_len (pa_cons (pv 0) pa_nil)) (pe_callB call_len_str (by rfl) gL PySem.boot_len (pa_cons (pe_glob (v := V.str alpha) (by rfl) gA ⟨_, rfl⟩) pa_nil)))))).pt (pss_one (ps_ret pe_bl)) pss_nil)
      (pss_one (ps_ret (pe_and (pe_cmpR op_eq (pe_lenSetT rfl (by rfl) gL (by rfl) gE (pv 0)) (pe_callB call_len_str (by rfl) gL PySem.boot_len (pa_cons (pv 0) pa_nil)) (nomark _))
        (pe_one (pe_callB (cr_all rfl) (by rfl) gAl PyProof.Rows.boot_all (pa_cons (pe_lc (own := [("letter", 1)]) (g := gName 1) (tt := tYes) rfl sc12.nd (pi_str (pv 0)) (blkOk_by (N := ["letters", "letter"]) (sc := defScope (top 16)) (by decide +kernel))
          (fun _ _ _ _ _ => pg_name (i := 1) sc12.nd rfl (Or.inl rfl)) (fun _ _ _ _ _ => pts_nil) (fun _ _ _ _ _ => pe_cmpR op_in_sign (pv 1) (pe_glob (v := V.str alpha) (by rfl) gA ⟨_, rfl⟩) (by rfl))) pa_nil)))))), ?_⟩
    obtain ⟨T, tx, k1, _⟩ := ty_of hd
    refine ⟨v, rfl, v, .ty "str", .type T, .type "str", isS d, rfl, .ty _, tx, kit_ty k1, _, rfl, ?_⟩
    cases d with
    | str x =>
      cases hd
      obtain ⟨hasc, hz⟩ := hx x rfl
      have hzs : x.length ≤ sizeLine := by
        have z : (1000 : Nat) ≤ sizeLine := by decide
        exact Nat.le_trans hz z
      refine iteF ⟨V.str x, rfl, x, rfl, hzs, 2, (x.length : Int), rfl, rfl, _, rfl, ?_⟩
      have el : x.length = x.cps.size := rfl
      have fin : ∀ H', Same H H' → okLb x = false → Q (.bl false) H' := fun H' sm e => by
        have z := k H' sm
        simp only [okLd, e] at z
        exact z
      refine ite2 (fun c1 => ?_) (fun c1 => ?_)
      · have c1' : 2 ≤ x.cps.size := by
          have z := of_decide_eq_true c1
          omega
        refine ⟨alpha, rfl, (by decide +kernel), (x.length : Int), ((alpha.length : Nat) : Int), rfl, rfl, _, rfl, ?_⟩
        refine ite2 (fun c2 => ?_) (fun c2 => ?_)
        · have c2' : ¬ x.cps.size ≤ 26 := by
            intro z
            have a26 : alpha.length = 26 := by decide +kernel
            have : decide ((x.length : Int) ≤ (alpha.length : Nat)) = true := decide_eq_true (by rw [a26]; omega)
            rw [this] at c2
            exact absurd c2 (by decide)
          refine fin H (Same.refl H) ?_
          unfold okLb
          rw [decide_eq_false c2']
          simp
        · have c2' : x.cps.size ≤ 26 := by
            have a26 : alpha.length = 26 := by decide +kernel
            have z : decide ((x.length : Int) ≤ (alpha.length : Nat)) = true := by simpa using c2
            have z2 := of_decide_eq_true z
            rw [a26] at z2
            omega
          refine ⟨V.str x, rfl, x, rfl, hasc, hz, V.str x, rfl, x, rfl, hzs, rfl, _, rfl, ?_⟩
          refine ite2 (fun c3 => ?_) (fun c3 => ?_)
          · have nd : x.cps.toList.Nodup := (nub_nodup _).mp (by
              have z := of_decide_eq_true c3
              injection z with z
              have z2 : (nub x.cps.toList).length = x.length := by omega
              rw [z2, el, Array.length_toList])
            refine rd_all_text (fun c => decide (c ∈ alpha.cps.toList)) hz (fun R h => ⟨_, rfl, h⟩) (fun _ => rfl) (fun c H1 R h => ⟨_, rfl, c, alpha, rfl, rfl, h⟩) fun H1 sm => ?_
            have z := k H1 sm
            simp only [okLd, okLb, decide_eq_true c1', decide_eq_true c2', decide_eq_true nd, Bool.true_and] at z
            exact z
          · refine fin H (Same.refl H) ?_
            have nd : ¬ x.cps.toList.Nodup := fun nd => c3 (decide_eq_true (by rw [(nub_nodup _).mpr nd, Array.length_toList]; rfl))
            unfold okLb
            rw [decide_eq_false nd]
            simp
      · refine ⟨_, rfl, iteT ?_⟩
        refine fin H (Same.refl H) ?_
        have c1' : ¬ 2 ≤ x.cps.size := fun z => c1 (decide_eq_true (by omega))
        unfold okLb
        rw [decide_eq_false c1']
        simp
    | _ => exact iteT (iteT (k H (Same.refl H)))
end
end SK
namespace SK
open PySem PySem.Spec PyProof.Rows L2 LamX NdefX
open K0 (De DeAll)
mutual
theorem de_mono {K : PySem.W.Frag} {H H' : Hp} (m : ∀ b o, H b = some o → H' b = some o) : ∀ (d : PyData) (v : V), De K H v d → De K H' v d
  | .none, _, h => by
    cases h
    exact .non
  | .bool b, _, h => by
    cases h
    exact .bl b
  | .int i, _, h => by
    cases h
    exact .int i
  | .str x, _, h => by
    cases h
    exact .str x
  | .list ds, _, h => by
    cases h with
    | lst ha hd => exact .lst (m _ _ ha) (de_monoAll m ds _ hd)
  | .tuple ds, _, h => by
    cases h with
    | tup ha hd => exact .tup (m _ _ ha) (de_monoAll m ds _ hd)
  | .dict _, _, h => by
    cases h with
    | dic ha => exact .dic (m _ _ ha)
theorem de_monoAll {K : PySem.W.Frag} {H H' : Hp} (m : ∀ b o, H b = some o → H' b = some o) : ∀ (ds : List PyData) (vs : List V), DeAll K H vs ds → DeAll K H' vs ds
  | [], _, h => by
    cases h
    exact .nil
  | d :: ds, _, h => by
    cases h with
    | cons h1 h2 => exact .cons (de_mono m d _ h1) (de_monoAll m ds _ h2)
end

/-- no text in it is too long -/
def Fit (d : PyData) : Prop := ∀ ds, (d = .tuple ds ∨ d = .list ds) → ∀ x, PyData.str x ∈ ds → x.cps.size ≤ 1000
def spRow (K : PySem.W.Frag) : Sp := fun vs H Q _ => ∃ (ls : Str) (v : V) (d : PyData), vs = [.str ls, v] ∧ De K H v d ∧ Fit d ∧ ∀ H', Same H H' → Q (.bl (okR ls d)) H'
theorem deAll_len {K : PySem.W.Frag} {H : Hp} : ∀ {vs : List V} {ds : List PyData}, DeAll K H vs ds → vs.length = ds.length
  | _, _, .nil => rfl
  | _, _, .cons _ t => congrArg Nat.succ (deAll_len t)
section
variable {P : Program} {w : World} {K : PySem.W.Frag} {mg : Str → Option Value} {base : Heap} {f fW : Addr} {fd fdW : FuncData}
theorem sc14 : FnScope ["letters", "word", "letter"] ["letters", "word"] (defScope (top 18)) := ⟨rfl, rfl, rfl, by decide +kernel, rfl, by decide +kernel, by decide +kernel⟩
theorem ok_word (F : Fun K "is_word" "is_word" (top 18) f fd) (gI : mg "isinstance" = none) (gS : mg "str" = none) (gL : mg "len" = none) (gAl : mg "all" = none) {tW : Tok} (gW : mg "LONGEST_WORD" = some (.int 200 tW)) : FnOk P w K mg base CX0 1 f fd ["letters", "word"] (spWord K) := by
  refine F.ok sc14 (fun vs H Q E h => ?_) (fun cdv A outer s H vs Q E hr h => ?_)
  · obtain ⟨ls, v, d, rfl, _⟩ := h
    rfl
  · obtain ⟨ls, v, d, rfl, hd, hx, k⟩ := h
    refine ⟨_, pss_cons (ps_if (pw_or (pt_not (pt_val (pe_callB call_isi (by rfl) gI PyProof.Rows.boot_isinstance (pa_cons (pv 1) (pa_cons (pe_bltn (v := .ty "str") (by rfl) gS PyProof.Rows.boot_str rfl) pa_nil)))))
        (pw_or1 (pt_cmpR op_gt (pe_callB call_len_str (by rfl) gL PySem.boot_len (pa_cons (pv 1) pa_nil)) (pe_glob (v := V.int 200) (by rfl) gW ⟨_, rfl⟩) (nomark _)))).pt (pss_one (ps_ret pe_bl)) pss_nil)
      (pss_one (ps_ret (pe_callB (cr_all rfl) (by rfl) gAl PyProof.Rows.boot_all (pa_cons (pe_lc (own := [("letter", 2)]) (g := gName 2) (tt := tYes) rfl sc14.nd (pi_str (pv 1)) (blkOk_by (N := ["letters", "word", "letter"]) (sc := defScope (top 18)) (by decide +kernel))
          (fun _ _ _ _ _ => pg_name (i := 2) sc14.nd rfl (Or.inl rfl)) (fun _ _ _ _ _ => pts_nil) (fun _ _ _ _ _ => pe_cmpR op_in_sign (pv 2) (pv 0) (by rfl))) pa_nil)))), ?_⟩
    obtain ⟨T, tx, k1, _⟩ := ty_of hd
    refine ⟨v, rfl, v, .ty "str", .type T, .type "str", isS d, rfl, .ty _, tx, kit_ty k1, _, rfl, ?_⟩
    cases d with
    | str x =>
      cases hd
      have hz := hx x rfl
      have hzs : x.length ≤ sizeLine := by
        have z : (1000 : Nat) ≤ sizeLine := by decide
        exact Nat.le_trans hz z
      have el : x.length = x.cps.size := rfl
      refine iteF ⟨V.str x, rfl, x, rfl, hzs, (x.length : Int), 200, rfl, rfl, _, rfl, ?_⟩
      have z := k H (Same.refl H)
      refine ite2 (fun c1 => ?_) (fun c1 => ?_)
      · have c1' : ¬ x.cps.size ≤ 200 := by
          have z := of_decide_eq_true c1
          omega
        simp only [okW, decide_eq_false c1', Bool.false_and] at z
        exact z
      · have c1' : x.cps.size ≤ 200 := by
          refine Decidable.byContradiction fun z => c1 (decide_eq_true ?_)
          omega
        show tCB (rAll K) (tCons (tLc (iStr (tVar 1)) (gName 2) tYes (tOp _ (tVar 2) (tVar 0)) [2]) tNil) _ H _
        refine rd_all_text (fun c => decide (c ∈ ls.cps.toList)) hz (fun R h => ⟨_, rfl, h⟩) (fun _ => rfl) (fun c H1 R h => ⟨_, rfl, _, rfl, c, ls, rfl, rfl, h⟩) fun H1 sm => ?_
        have z := k H1 sm
        simp only [okW, decide_eq_true c1', Bool.true_and] at z
        exact z
    | _ => exact iteT (k H (Same.refl H))
theorem sc18 : FnScope ["letters", "row"] ["letters", "row"] (defScope (top 22)) := ⟨rfl, rfl, rfl, by decide +kernel, rfl, by decide +kernel, by decide +kernel⟩
theorem ok_row (F : Fun K "is_row" "is_row" (top 22) f fd) (gI : mg "isinstance" = none) (gT : mg "tuple" = none) (gLs : mg "list" = none) (gB : mg "bool" = none) (gL : mg "len" = none)
    (gW : mg "is_word" = some (.ref fW)) (kW : PySem.W.keepIn K (.ref fW) = true) (GW : FnOk P w K mg base CX0 1 fW fdW ["letters", "word"] (spWord K)) (bW : Binds K fdW ["letters", "word"] []) : FnOk P w K mg base CX0 2 f fd ["letters", "row"] (spRow K) := by
  refine F.ok sc18 (fun vs H Q E h => ?_) (fun cdv A outer s H vs Q E hr h => ?_)
  · obtain ⟨ls, v, d, rfl, _⟩ := h
    rfl
  · obtain ⟨ls, v, d, rfl, hd, hF, k⟩ := h
    refine ⟨_, pss_cons (ps_if (pw_or (pt_not (pt_val (pe_callB call_isiT (by rfl) gI PyProof.Rows.boot_isinstance (pa_cons (pv 1) (pa_cons (pe_tup (pa_cons (pe_bltn (v := .ty "tuple") (by rfl) gT PyProof.Rows.boot_tuple rfl) (pa_cons (pe_bltn (v := .ty "list") (by rfl) gLs PyProof.Rows.boot_list rfl) pa_nil))) pa_nil)))))
        (pw_or1 (pt_cmpR op_ne (pe_callB call_len_seq (by rfl) gL PySem.boot_len (pa_cons (pv 1) pa_nil)) pe_int (nomark _)))).pt (pss_one (ps_ret pe_bl)) pss_nil)
      (pss_one (ps_ret (pe_and (pe_call GW hr rfl gW kW bW .nil pass0 (pa_cons (pv 0) (pa_cons (pe_ix ix_seq (pv 1) pe_int (fun _ _ => rfl)) pa_nil)))
        (pe_and (pe_callB call_isi (by rfl) gI PyProof.Rows.boot_isinstance (pa_cons (pe_ix ix_seq (pv 1) pe_int (fun _ _ => rfl)) (pa_cons (pe_bltn (v := .ty "bool") (by rfl) gB PyProof.Rows.boot_bool rfl) pa_nil)))
          (pe_one (pe_callB call_isi (by rfl) gI PyProof.Rows.boot_isinstance (pa_cons (pe_ix ix_seq (pv 1) pe_int (fun _ _ => rfl)) (pa_cons (pe_bltn (v := .ty "bool") (by rfl) gB PyProof.Rows.boot_bool rfl) pa_nil)))))))), ?_⟩
    refine ⟨v, rfl, (by show 2 ≤ sizeLine; decide), fun tp hp => ?_⟩
    have s1 := upd_new (o := .tup [.ty "tuple", .ty "list"]) hp
    have t1 : upd H tp (.tup [.ty "tuple", .ty "list"]) tp = some (.tup [.ty "tuple", .ty "list"]) := upd_same
    generalize upd H tp (.tup [.ty "tuple", .ty "list"]) = H1 at s1 t1
    have hd1 := de_mono s1 d v hd
    obtain ⟨T, tx, _, _, b1, b2, k1, k2, kk⟩ := ty_of hd1
    refine ⟨v, tp, [.ty "tuple", .ty "list"], .type T, [.type "tuple", .type "list"], isTL d, rfl, t1, .cons (.ty _) (.cons (.ty _) .nil), tx, (by rw [← kk]; exact kit_two k1 k2), _, rfl, ?_⟩
    have shape : (isTL d = false ∧ okR ls d = false) ∨ ∃ (p : Addr) (vs : List V) (ds : List PyData), v = .ref p ∧ DeAll K H1 vs ds ∧ (SqL K H1 p vs ∨ SqT K H1 p vs) ∧
        (∀ H2, Same H1 H2 → ∀ (j : Nat) (x : V), vs[j]? = some x → ∀ R : VK, R x H2 → rIx K (.ref p) (.int (j : Int)) H2 R) ∧ isTL d = true ∧ okR ls d = okR3 ls ds ∧ ∀ x, PyData.str x ∈ ds → x.cps.size ≤ 1000 := by
      cases hd1 with
      | @lst a vs ds ha hds => exact .inr ⟨a, vs, ds, rfl, hds, .inl (.inl (.inl ha)), fun H2 s2 j x hx R q => .inl ⟨a, vs, _, x, rfl, rfl, .inl (.inl (s2 _ _ ha)), atI_nat hx, q⟩, rfl, rfl, hF ds (.inr rfl)⟩
      | @tup a vs ds ha hds => exact .inr ⟨a, vs, ds, rfl, hds, .inr (.inl (.inl ha)), fun H2 s2 j x hx R q => .inr (.inl ⟨a, vs, _, x, rfl, rfl, .inl (.inl (s2 _ _ ha)), atI_nat hx, q⟩), rfl, rfl, hF ds (.inl rfl)⟩
      | _ => exact .inl ⟨rfl, rfl⟩
    rcases shape with ⟨e1, e2⟩ | ⟨p, vs, ds, rfl, hda, hsq, hix, e1, e2, hfit⟩
    · rw [e1]
      refine iteT (iteT ?_)
      have z := k H1 s1
      rw [e2] at z
      exact z
    rw [e1]
    have hl := deAll_len hda
    refine iteF ⟨V.ref p, rfl, p, vs, rfl, hsq, rfl, _, rfl, ?_⟩
    have no : ∀ H2, Same H1 H2 → okR3 ls ds = false → Q (.bl false) H2 := fun H2 s2 e => by
      have z := k H2 (s1.trans s2)
      rw [e2, e] at z
      exact z
    refine ite2 (fun c1 => ?_) (fun c1 => ?_)
    · refine no H1 (Same.refl H1) ?_
      have n3 : ds.length ≠ 3 := fun z => by
        have z2 : decide (V.int (vs.length : Nat) = V.int 3) = true := decide_eq_true (by rw [hl, z]; rfl)
        rw [z2] at c1
        exact absurd c1 (by decide)
      match ds, n3 with
      | [], _ => rfl
      | [_], _ => rfl
      | [_, _], _ => rfl
      | [_, _, _], n => exact absurd rfl n
      | _ :: _ :: _ :: _ :: _, _ => rfl
    · have l3 : vs.length = 3 := by
        have z : decide (V.int (vs.length : Nat) = V.int 3) = true := by simpa using c1
        have z2 := of_decide_eq_true z
        injection z2 with z2
        omega
      cases hda with
      | nil => cases l3
      | @cons v0 vs d0 ds h0 t0 =>
        cases t0 with
        | nil => cases l3
        | @cons v1 vs d1 ds h1 t1 =>
          cases t1 with
          | nil => cases l3
          | @cons v2 vs d2 ds h2 t2 =>
            cases t2 with
            | cons _ _ => simp at l3
            | nil =>
              refine ⟨V.str ls, rfl, V.ref p, rfl, hix H1 (Same.refl H1) 0 v0 rfl _ ⟨ls, v0, d0, rfl, h0, fun x e => hfit x (by rw [e]; simp), fun H2 s2 => ⟨okW ls d0, rfl, ?_⟩⟩⟩
              refine ite2 (fun a0 => ?_) (fun a0 => no H2 s2 (by simp only [okR3, Bool.not_eq_true] at a0 ⊢; rw [a0]; rfl))
              obtain ⟨T1, tx1, _, kb1, _⟩ := ty_of (de_mono s2 d1 v1 h1)
              refine ⟨V.ref p, rfl, hix H2 s2 1 v1 rfl _ ⟨v1, .ty "bool", .type T1, .type "bool", isB d1, rfl, .ty _, tx1, kit_ty kb1, _, rfl, ?_⟩⟩
              refine ite2 (fun a1 => ?_) (fun a1 => no H2 s2 (by simp only [okR3, Bool.not_eq_true] at a1 ⊢; rw [a1]; simp))
              obtain ⟨T2, tx2, _, kb2, _⟩ := ty_of (de_mono s2 d2 v2 h2)
              refine ⟨V.ref p, rfl, hix H2 s2 2 v2 rfl _ ⟨v2, .ty "bool", .type T2, .type "bool", isB d2, rfl, .ty _, tx2, kit_ty kb2, ?_⟩⟩
              have z := k H2 (s1.trans s2)
              rw [e2] at z
              simp only [okR3, a0, a1, Bool.true_and] at z
              exact z
end
end SK
namespace SK
open PySem PySem.Spec PyProof.Rows L2 LamX NdefX
open K0 (De DeAll XCl spX withX)
/-- what is told of an own exception class, by its name -/
structure XR (P : Program) (w : World) (K : PySem.W.Frag) (mg : Str → Option Value) (base : Heap) (x : Str) (C : Addr) (fs : List Str) : Prop where
  cl : XCl K C
  gC : mg x = some (.ref C)
  no : ∀ n ∈ fs, PySem.W.findIn K (.ref C) n = some none
  ini : ∃ f fd, PySem.W.findIn K (.ref C) "__init__" = some (some (.ref f)) ∧ PySem.W.typeIn K (.ref f) = some (.type "function") ∧ FnOk P w K mg base CX0 1 f fd (("self" : Str) :: fs) (spX C fs) ∧ Binds K fd (("self" : Str) :: fs) []
theorem withX_at {H : Hp} {a dx C : Addr} {gs : List (Str × V)} : withX H C a dx gs a = some (exo a C (some dx)) := upd_same
theorem withX_dx {H : Hp} {a dx C : Addr} {gs : List (Str × V)} (ne : dx ≠ a) : withX H C a dx gs dx = some (exd dx gs) := (upd_ne ne).trans upd_same
/-- the making of such an exception, read behind its arguments -/
theorem rd_mk {C : Addr} {fs : List Str} {vs : List V} {H1 : Hp} {Q : XK} (hl : vs.length = fs.length) (hz : vs.length ≤ 1000) (k : ∀ (d : Addr) (H' : Hp), Same H1 H' → H1 d = none → H' d = some (.xd (fs.zip vs).reverse) → Q (.ref C) (some d) H') :
    vs.length ≤ 1000 ∧ ∀ a, H1 a = none → spX C fs (.ref a :: (vs ++ [])) (upd H1 a (exo a C none))
      (fun v H2 => v = .non ∧ ∃ (d : Addr) (gs : List (Str × V)), H2 a = some (exo a C (some d)) ∧ H2 d = some (exd d gs) ∧ H1 d = none ∧ Q (.ref C) (some d) (upd (del H2 a) d (.xd gs))) (fun _ _ _ => False) := by
  refine ⟨hz, fun a na => ⟨a, vs ++ [], rfl, by rw [List.append_nil]; exact hl, upd_same, fun dx nd ne => ?_⟩⟩
  rw [upd_ne ne] at nd
  refine ⟨rfl, dx, _, withX_at, withX_dx ne, nd, k dx _ (fun b o e => ?_) nd ?_⟩
  · have n1 : b ≠ a := ne_of_none e na
    have n2 : b ≠ dx := ne_of_none e nd
    rw [upd_ne n2, del_ne n1]
    show upd (upd (upd H1 a _) dx _) a _ b = some o
    rw [upd_ne n1, upd_ne n2, upd_ne n1]
    exact e
  · rw [List.append_nil]
    exact upd_same
/-- what is wanted of an exception of the class C with the fields gs -/
def Thrown (E : XK) (C : Addr) (H : Hp) (gs : List (Str × V)) : Prop := ∀ (H' : Hp) (d : Addr), Same H H' → H d = none → H' d = some (.xd gs) → E (.ref C) (some d) H'
def spCheckL (K : PySem.W.Frag) (C : Addr) : Sp := fun vs H Q E => ∃ (v : V) (d : PyData), vs = [v] ∧ De K H v d ∧ (∀ x, d = .str x → x.cps.all (· < 128) = true ∧ x.cps.size ≤ 1000) ∧ (okLd d = true → ∀ H', Same H H' → Q .non H') ∧ (okLd d = false → Thrown E C H [("letters", v)])
def spCheckP (C : Addr) : Sp := fun vs H Q E => ∃ n : Nat, vs = [.int n] ∧ (1 ≤ n ∧ n ≤ 2000 → Q .non H) ∧ (¬ (1 ≤ n ∧ n ≤ 2000) → Thrown E C H [("most", .int 2000), ("many", .int n), ("what", .str "places")])
theorem Thrown.mono {E : XK} {C : Addr} {H H1 : Hp} {gs : List (Str × V)} (t : Thrown E C H gs) (s : Same H H1) : Thrown E C H1 gs := fun H' d s' n e => t H' d (s.trans s') (s.free n) e
section
variable {P : Program} {w : World} {K : PySem.W.Frag} {mg : Str → Option Value} {base : Heap} {f fL C : Addr} {fd fdL : FuncData}
theorem sc13 : FnScope ["letters"] ["letters"] (defScope (top 17)) := ⟨rfl, rfl, rfl, by decide +kernel, rfl, by decide +kernel, by decide +kernel⟩
theorem ok_checkL (F : Fun K "check_letters" "check_letters" (top 17) f fd) (D : XR P w K mg base "BadLetters" C ["letters"]) (gL : mg "is_letters" = some (.ref fL)) (kL : PySem.W.keepIn K (.ref fL) = true) (GL : FnOk P w K mg base CX0 1 fL fdL ["letters"] (spLet K)) (bL : Binds K fdL ["letters"] []) :
    FnOk P w K mg base (L2.CX P w) 3 f fd ["letters"] (spCheckL K C) := by
  refine F.okX sc13 (fun vs H Q E h => ?_) (fun cdv A outer s H vs Q E hr h => ?_)
  · obtain ⟨v, d, rfl, _⟩ := h
    rfl
  · obtain ⟨v, d, rfl, hd, hx, k1, k2⟩ := h
    obtain ⟨fi, fdi, iC, tI, F1, b1⟩ := D.ini
    refine ⟨_, pss_one (ps_if (pt_not (pt_val (pe_call GL (hr.mono (by decide)) rfl gL kL bL .nil pass0 (pa_cons (pv 0) pa_nil)))) (pss_one (ps_raise rfl (takes_of rfl rfl rfl rfl) (pmk_oex D.cl.T iC tI F1 hr b1 .nil pass0 (by rfl) D.gC (pa_cons (pv 0) pa_nil)))) pss_nil), ?_⟩
    refine ⟨v, rfl, v, d, rfl, hd, hx, fun H1 s1 => ⟨_, rfl, ?_⟩⟩
    cases e : okLd d with
    | true => exact iteF (k1 e H1 s1)
    | false => exact iteT ⟨v, rfl, rd_mk rfl (by show 1 ≤ 1000; decide) fun dx H' s' n q => (k2 e).mono s1 H' dx s' n q⟩
theorem sc16 : FnScope ["many"] ["many"] (defScope (top 20)) := ⟨rfl, rfl, rfl, by decide +kernel, rfl, by decide +kernel, by decide +kernel⟩
theorem ok_checkP (F : Fun K "check_places" "check_places" (top 20) f fd) (D : XR P w K mg base "TooMany" C ["what", "many", "most"]) {tM : Tok} (gM : mg "MOST_PLACES" = some (.int 2000 tM)) : FnOk P w K mg base (L2.CX P w) 3 f fd ["many"] (spCheckP C) := by
  refine F.okX sc16 (fun vs H Q E h => ?_) (fun cdv A outer s H vs Q E hr h => ?_)
  · obtain ⟨n, rfl, _⟩ := h
    rfl
  · obtain ⟨n, rfl, k1, k2⟩ := h
    obtain ⟨fi, fdi, iC, tI, F1, b1⟩ := D.ini
    refine ⟨_, pss_one (ps_if (pt_not (pt_chain op_le op_le pe_int (pv 0) (pe_glob (v := V.int 2000) (by rfl) gM ⟨_, rfl⟩))) (pss_one (ps_raise rfl (takes_of rfl rfl rfl rfl) (pmk_oex D.cl.T iC tI F1 hr b1 .nil pass0 (by rfl) D.gC (pa_cons pe_str (pa_cons (pv 0) (pa_cons (pe_glob (v := V.int 2000) (by rfl) gM ⟨_, rfl⟩) pa_nil)))))) pss_nil), ?_⟩
    refine ⟨V.int n, rfl, 1, (n : Int), rfl, rfl, _, rfl, ?_⟩
    have thr : ¬ (1 ≤ n ∧ n ≤ 2000) → tCons (tC (.str "places")) (tCons (tVar 0) (tCons (tC (.int 2000)) tNil)) (start ["many"] [V.int n]) H fun vs H1 => vs.length ≤ 1000 ∧ ∀ a, H1 a = none → spX C ["what", "many", "most"] (.ref a :: (vs ++ [])) (upd H1 a (exo a C none))
        (fun v H2 => v = .non ∧ ∃ (d : Addr) (gs : List (Str × V)), H2 a = some (exo a C (some d)) ∧ H2 d = some (exd d gs) ∧ H1 d = none ∧ E (.ref C) (some d) (upd (del H2 a) d (.xd gs))) (fun _ _ _ => False) :=
      fun no => ⟨V.int n, rfl, rd_mk rfl (by show 3 ≤ 1000; decide) fun dx H' s' n' q => k2 no H' dx s' n' q⟩
    refine ite2 (fun c1 => ?_) (fun c1 => ?_)
    · have c1' := of_decide_eq_true c1
      refine ⟨(n : Int), 2000, rfl, rfl, _, rfl, ?_⟩
      by_cases c2 : (n : Int) ≤ 2000
      · rw [decide_eq_true c2]
        exact iteF (k1 ⟨by omega, by omega⟩)
      · rw [decide_eq_false c2]
        exact iteT (thr (by omega))
    · refine ⟨_, rfl, iteT (thr fun z => c1 (decide_eq_true (by omega)))⟩
end
end SK
namespace SK
open PySem PySem.Spec PyProof.Rows L2 LamX NdefX
open K0 (De DeAll XCl spX withX)
/-! ### rows into a table -/
def elems : PyData → List PyData
  | .tuple ds => ds
  | .list ds => ds
  | _ => []
def placeOf (d : PyData) : Str := match elems d with
  | .str x :: _ => x
  | _ => Str.empty
/-- the number of the first row that is none, or whose place stands before -/
def scan (ls : Str) : List Str → Nat → List PyData → Option Nat
  | _, _, [] => none
  | seen, i, d :: r => if okR ls d = true ∧ placeOf d ∉ seen then scan ls (seen ++ [placeOf d]) (i + 1) r else some i
theorem okR_elems {ls : Str} {d : PyData} (h : okR ls d = true) : ∃ (x : Str) (b c : PyData), elems d = [.str x, b, c] ∧ isTL d = true ∧ placeOf d = x ∧ x.cps.size ≤ 200 ∧ (∀ c ∈ x.cps.toList, c ∈ ls.cps.toList) := by
  have three : ∀ ds, okR3 ls ds = true → ∃ (x : Str) (b c : PyData), ds = [.str x, b, c] ∧ x.cps.size ≤ 200 ∧ (∀ c ∈ x.cps.toList, c ∈ ls.cps.toList) := fun ds h => by
    match ds, h with
    | [a, b, c], h =>
      simp only [okR3, Bool.and_eq_true] at h
      have h1 := h.1
      match a, h1 with
      | .str x, h1 =>
        simp only [okW, Bool.and_eq_true, decide_eq_true_eq, List.all_eq_true] at h1
        exact ⟨x, b, c, rfl, h1.1, h1.2⟩
  match d, h with
  | .tuple ds, h =>
    obtain ⟨x, b, c, rfl, h1, h2⟩ := three ds h
    exact ⟨x, b, c, rfl, rfl, rfl, h1, h2⟩
  | .list ds, h =>
    obtain ⟨x, b, c, rfl, h1, h2⟩ := three ds h
    exact ⟨x, b, c, rfl, rfl, rfl, h1, h2⟩
/-- the table of the rows ds -/
def TabOk (K : PySem.W.Frag) (G : Hp) (kvs : List (Key × V)) (ds : List PyData) : Prop := kvs.map Prod.fst = ds.map (fun d => (Sum.inr (placeOf d) : Key)) ∧ ∀ (i : Nat) (d : PyData), ds[i]? = some d → ∃ v, kvs[i]? = some (Sum.inr (placeOf d), v) ∧ De K G v (.tuple (elems d))
theorem TabOk.nil {K : PySem.W.Frag} {G : Hp} : TabOk K G [] [] := ⟨rfl, fun i d h => by simp at h⟩
theorem TabOk.mono {K : PySem.W.Frag} {G G' : Hp} {kvs : List (Key × V)} {ds : List PyData} (t : TabOk K G kvs ds) (s : Same G G') : TabOk K G' kvs ds := ⟨t.1, fun i d h => by
  obtain ⟨v, h1, h2⟩ := t.2 i d h
  exact ⟨v, h1, de_mono s _ _ h2⟩⟩
theorem TabOk.snoc {K : PySem.W.Frag} {G : Hp} {kvs : List (Key × V)} {ds : List PyData} {d : PyData} {v : V} (t : TabOk K G kvs ds) (h : De K G v (.tuple (elems d))) : TabOk K G (kvs ++ [(.inr (placeOf d), v)]) (ds ++ [d]) := by
  have hl : kvs.length = ds.length := by
    have z := congrArg List.length t.1
    simpa using z
  refine ⟨by rw [List.map_append, List.map_append, t.1]; rfl, fun i e he => ?_⟩
  by_cases hi : i < ds.length
  · rw [List.getElem?_append_left hi] at he
    obtain ⟨u, h1, h2⟩ := t.2 i e he
    exact ⟨u, by rw [List.getElem?_append_left (by omega)]; exact h1, h2⟩
  · rw [List.getElem?_append_right (by omega)] at he
    have hi2 : i = ds.length := by
      have z := (List.getElem?_eq_some_iff.mp he).1
      simp at z
      omega
    subst hi2
    simp at he
    subst he
    exact ⟨v, by rw [List.getElem?_append_right (by omega), hl]; simp, h⟩
theorem TabOk.has {K : PySem.W.Frag} {G : Hp} {kvs : List (Key × V)} {ds : List PyData} (t : TabOk K G kvs ds) (x : Str) : (valV kvs (.inr x)).isSome = decide (x ∈ ds.map placeOf) := by
  rw [← valV_any]
  have e : (kvs.any fun kv => decide (kv.1 = (.inr x : Key))) = (kvs.map (·.1)).any fun k => decide (k = (.inr x : Key)) := by
    rw [List.any_map]
    rfl
  rw [e, t.1, List.any_map]
  by_cases h : x ∈ ds.map placeOf
  · rw [decide_eq_true h]
    obtain ⟨d, hd, rfl⟩ := List.mem_map.mp h
    exact List.any_eq_true.mpr ⟨d, hd, by simp⟩
  · rw [decide_eq_false h, List.any_eq_false]
    intro d hd
    simp only [Function.comp, decide_eq_true_eq]
    intro z
    injection z with z
    exact h (List.mem_map.mpr ⟨d, hd, z⟩)
def Rows (H : Hp) (a : Addr) (xs : List V) : Prop := H a = some (.lst xs) ∨ H a = some (.tup xs)
def spTable (K : PySem.W.Frag) (C : Addr) : Sp := fun vs H Q E => ∃ (ls : Str) (a : Addr) (xs : List V) (ds : List PyData), vs = [.str ls, .ref a] ∧ Rows H a xs ∧ DeAll K H xs ds ∧ (∀ d ∈ ds, Fit d) ∧ xs.length ≤ 5000 ∧
  (scan ls [] 0 ds = none → ∀ (H' : Hp) (T : Addr) (kvs : List (Key × V)), Same H H' → H T = none → H' T = some (.dK kvs) → TabOk K H' kvs ds → Q (.ref T) H') ∧ (∀ i, scan ls [] 0 ds = some i → Thrown E C H [("number", .int (i : Nat))])
theorem deAll_at {K : PySem.W.Frag} {H : Hp} : ∀ {xs : List V} {ds : List PyData}, DeAll K H xs ds → ∀ {i : Nat} {x : V}, xs[i]? = some x → ∃ d, ds[i]? = some d ∧ De K H x d
  | _, _, .nil, i, x, h => by simp at h
  | _, _, .cons h1 t, 0, x, h => by
    simp at h
    subst h
    exact ⟨_, rfl, h1⟩
  | _, _, .cons h1 t, i + 1, x, h => deAll_at t (by simpa using h)
/-- how far the loop has come -/
structure TLoop (K : PySem.W.Frag) (ls : Str) (a T : Addr) (H : Hp) (xs : List V) (ds : List PyData) (i : Nat) (σ : St) (H1 : Hp) : Prop where
  sl : ∃ x3 x4, σ = [some (.str ls), some (.ref a), some (.ref T), x3, x4]
  hp : ∃ (G : Hp) (kvs : List (Key × V)), Same H G ∧ G T = none ∧ Same G H1 ∧ H1 T = some (.dK kvs) ∧ TabOk K G kvs (ds.take i)
  sc : scan ls [] 0 ds = scan ls ((ds.take i).map placeOf) i (ds.drop i)
section
variable {P : Program} {w : World} {K : PySem.W.Frag} {mg : Str → Option Value} {base : Heap} {f fR C : Addr} {fd fdR : FuncData}
theorem sc19 : FnScope ["letters", "rows", "table", "number", "row"] ["letters", "rows"] (defScope (top 23)) := ⟨rfl, rfl, rfl, by decide +kernel, rfl, by decide +kernel, by decide +kernel⟩
theorem ok_table (F : Fun K "table_of" "table_of" (top 23) f fd) (D : XR P w K mg base "BadRow" C ["number"]) (gE : mg "enumerate" = none) (gT : mg "tuple" = none) (gR : mg "is_row" = some (.ref fR)) (kR : PySem.W.keepIn K (.ref fR) = true)
    (GR : FnOk P w K mg base CX0 2 fR fdR ["letters", "row"] (spRow K)) (bR : Binds K fdR ["letters", "row"] []) : FnOk P w K mg base (L2.CX P w) 3 f fd ["letters", "rows"] (spTable K C) := by
  refine F.okX sc19 (fun vs H Q E h => ?_) (fun cdv A outer s H vs Q E hr h => ?_)
  · obtain ⟨ls, a, xs, ds, rfl, _⟩ := h
    rfl
  · obtain ⟨ls, a, xs, ds, rfl, hrows, hda, hfit, hz, k1, k2⟩ := h
    obtain ⟨fi, fdi, iC, tI, F1, b1⟩ := D.ini
    have hu := hu_of hr
    have hlen := deAll_len hda
    rcases hrows with ha | ha
    · refine ⟨_, pss_cons (ps_set (i := 2) sc19.nd rfl (Or.inl rfl) pe_dnewK) (pss_cons (ps_for (passes_of rfl) rfl (pi_enum (by rfl) gE (pa_cons (pv 1) pa_nil)) (pg_tup rfl (pgs_cons (pg_name (i := 3) sc19.nd rfl (Or.inl rfl)) (pgs_cons (pg_name (i := 4) sc19.nd rfl (Or.inl rfl)) pgs_nil)))
        (pss_cons (ps_if (pw_or (pt_not (pt_val (pe_call GR hr (by rfl) gR kR bR .nil pass0 (pa_cons (pv 0) (pa_cons (pv 4) pa_nil))))) (pw_or1 (pt_cmp (pc_din hu (pe_ix ix_seq (pv 4) pe_int (fun _ _ => rfl)) (pv 2))))).pt
            (pss_one (ps_raise rfl (takes_of rfl rfl rfl rfl) (pmk_oex D.cl.T iC tI F1 hr b1 .nil pass0 (by rfl) D.gC (pa_cons (pv 3) pa_nil)))) pss_nil)
          (pss_one (ps_dput hu (pv 2) (pe_ix ix_seq (pv 4) pe_int (fun _ _ => rfl)) (pe_callTy call_tuple_of (by rfl) gT PyProof.Rows.boot_tuple (pa_cons (pv 4) pa_nil)) rfl))))
        (pss_one (ps_ret (pv 2)))), ?_⟩
      refine fun T nT => ⟨V.ref a, rfl, a, xs, rfl, .inl (.inl (upd_new nT _ _ ha)), for_it (walk_enum (K := K) (xs := xs)) (TLoop K ls a T H xs ds) ?st (fun i σ H1 _ q => ?go) ?tn ?en⟩
      case st => exact ⟨⟨none, none, rfl⟩, ⟨H, [], Same.refl H, nT, upd_new nT, upd_same, TabOk.nil⟩, rfl⟩
      case go =>
        obtain ⟨G, kvs, s1, n1, s2, _, _⟩ := q.hp
        exact .inl (.inl (s2 _ _ (s1 _ _ ha)))
      case en =>
        rintro σ H1 ⟨⟨x3, x4, rfl⟩, ⟨G, kvs, s1, n1, s2, hT, tb⟩, hsc⟩
        rw [hlen, List.take_length] at tb
        rw [hlen, List.drop_length, List.take_length] at hsc
        exact ⟨V.ref T, rfl, k1 hsc H1 T kvs (s1.trans s2) nT hT (tb.mono s2)⟩
      case tn =>
        rintro i x σ H1 H2 hi ⟨⟨x3, x4, rfl⟩, ⟨G, kvs, s1, n1, s2, hT, tb⟩, hsc⟩ ⟨T1, x1, y1, rfl, nT1, rfl, ex, ey⟩
        obtain rfl : V.int (i : Nat) = x1 := Option.some.inj ex
        obtain ⟨d, hdi, hd⟩ := deAll_at hda ey
        have s3 : Same H1 (upd H1 T1 (.tup [.int (i : Nat), y1])) := upd_new nT1
        refine ⟨T1, _, rfl, .inl (.inl upd_same), rfl, _, _, rfl, _, _, rfl, rfl, ?_⟩
        generalize upd H1 T1 (.tup [.int (i : Nat), y1]) = H2 at s3
        have hd2 : De K H2 y1 d := de_mono ((s1.trans s2).trans s3) d y1 hd
        refine ⟨V.str ls, rfl, y1, rfl, ls, y1, d, rfl, hd2, hfit d (List.mem_of_getElem? hdi), fun H3 s4 => ⟨okR ls d, rfl, ?_⟩⟩
        have s13 := (s1.trans s2).trans (s3.trans s4)
        have hil : i < ds.length := by omega
        have ed : ds.drop i = d :: ds.drop (i + 1) := by
          have z := List.drop_eq_getElem_cons hil
          have e2 : ds[i] = d := by
            rw [List.getElem?_eq_getElem hil] at hdi
            exact Option.some.inj hdi
          rw [z, e2]
        have et : ds.take (i + 1) = ds.take i ++ [d] := by
          rw [List.take_add_one, hdi]
          rfl
        rw [ed] at hsc
        have thr : ¬ (okR ls d = true ∧ placeOf d ∉ (ds.take i).map placeOf) → ∀ H4, Same H H4 → Thrown E C H4 [("number", .int (i : Nat))] := fun no H4 s5 => by
          have z : scan ls [] 0 ds = some i := by
            rw [hsc]
            show (if okR ls d = true ∧ placeOf d ∉ (ds.take i).map placeOf then _ else _) = _
            rw [if_neg no]
          exact (k2 i z).mono s5
        cases eR : okR ls d with
        | false => exact iteT (iteT ⟨V.int (i : Nat), rfl, rd_mk rfl (by show 1 ≤ 1000; decide) fun dx H' s' n q => thr (fun z => by rw [eR] at z; exact absurd z.1 (by decide)) H3 s13 H' dx s' n q⟩)
        | true =>
        obtain ⟨px, pb, pc, he, hTL, hpl, hp1, hp2⟩ := okR_elems eR
        have hT3 : H3 T = some (.dK kvs) := s4 _ _ (s3 _ _ hT)
        have hd3 : De K H3 y1 d := de_mono s4 d y1 hd2
        have hdG : De K G y1 d := de_mono s1 d y1 hd
        -- the row as a tuple or a list
        obtain ⟨p, v0, vr, rfl, hG, hsq, hix⟩ : ∃ (p : Addr) (v0 : V) (vr : List V), y1 = .ref p ∧ DeAll K G (v0 :: vr) (elems d) ∧ (G p = some (.lst (v0 :: vr)) ∨ (G p = some (.tup (v0 :: vr)) ∧ De K G (.ref p) (.tuple (elems d)))) ∧
            ∀ H5, Same G H5 → ∀ R : VK, R v0 H5 → rIx K (.ref p) (.int 0) H5 R := by
          cases hdG with
          | @lst a1 vs ds1 ha1 hds =>
            have he' : ds1 = [.str px, pb, pc] := he
            subst he'
            cases hds with
            | @cons v0 vr _ _ h0 t0 => exact ⟨a1, v0, vr, rfl, .cons h0 t0, .inl ha1, fun H5 s5 R q => .inl ⟨a1, _, 0, v0, rfl, rfl, .inl (.inl (s5 _ _ ha1)), atI_nat (j := 0) rfl, q⟩⟩
          | @tup a1 vs ds1 ha1 hds =>
            have he' : ds1 = [.str px, pb, pc] := he
            subst he'
            cases hds with
            | @cons v0 vr _ _ h0 t0 => exact ⟨a1, v0, vr, rfl, .cons h0 t0, .inr ⟨ha1, .tup ha1 (.cons h0 t0)⟩, fun H5 s5 R q => .inr (.inl ⟨a1, _, 0, v0, rfl, rfl, .inl (.inl (s5 _ _ ha1)), atI_nat (j := 0) rfl, q⟩)⟩
          | _ => cases hTL
        have hv0 : v0 = .str (placeOf d) := by
          rw [he] at hG
          cases hG with
          | cons h0 _ =>
            cases h0
            rw [hpl]
        subst hv0
        have sG3 : Same G H3 := s2.trans (s3.trans s4)
        have hget : DGet H3 T (.str (placeOf d)) (valV kvs (.inr (placeOf d))) := DGet.k (k := (.inr (placeOf d) : Key)) hT3
        refine iteF ⟨V.ref p, rfl, hix H3 sG3 _ ⟨V.ref T, rfl, T, _, rfl, hget, _, rfl, ?_⟩⟩
        rw [tb.has]
        refine ite2 (fun c1 => ?_) (fun c1 => ?_)
        · have hm := of_decide_eq_true c1
          exact ⟨V.int (i : Nat), rfl, rd_mk rfl (by show 1 ≤ 1000; decide) fun dx H' s' n q => thr (fun z => z.2 hm) H3 s13 H' dx s' n q⟩
        · have hm : placeOf d ∉ (ds.take i).map placeOf := fun z => c1 (decide_eq_true z)
          have hsc2 : scan ls [] 0 ds = scan ls ((ds.take (i + 1)).map placeOf) (i + 1) (ds.drop (i + 1)) := by
            rw [hsc, et, List.map_append]
            show (if okR ls d = true ∧ placeOf d ∉ (ds.take i).map placeOf then _ else _) = _
            rw [if_pos ⟨eR, hm⟩]
            rfl
          have hnone : valV kvs (.inr (placeOf d)) = none := by
            have z := tb.has (placeOf d)
            rw [decide_eq_false hm] at z
            cases q : valV kvs (.inr (placeOf d)) with
            | none => rfl
            | some v =>
              rw [q] at z
              cases z
          have hkl : kvs.length < sizeLine := by
            have z := congrArg List.length tb.1
            rw [List.length_map, List.length_map, List.length_take] at z
            have z2 : (5000 : Nat) < sizeLine := by decide
            omega
          -- behind the store
          have fin : ∀ (tv : V) (G2 H4 : Hp), Same G G2 → G2 T = none → Same G2 H4 → H4 T = some (.dK kvs) → De K G2 tv (.tuple (elems d)) → TLoop K ls a T H xs ds (i + 1) [some (.str ls), some (.ref a), some (.ref T), some (.int (i : Nat)), some (.ref p)] (upd H4 T (.dK (putK kvs (.inr (placeOf d)) tv))) := fun tv G2 H4 g1 g2 g3 g4 g5 => by
            refine ⟨⟨_, _, rfl⟩, ⟨G2, kvs ++ [(.inr (placeOf d), tv)], s1.trans g1, g2, fun b o e => ?_, ?_, ?_⟩, hsc2⟩
            · rw [upd_ne (ne_of_none e g2)]
              exact g3 _ _ e
            · rw [putK_new tv hnone]
              exact upd_same
            · rw [et]
              exact (tb.mono g1).snoc g5
          rcases hsq with hl | ⟨ht, htd⟩
          · refine ⟨V.ref p, rfl, p, _, rfl, .inl ⟨.inl (.inl (sG3 _ _ hl)), fun l nl => ?_⟩⟩
            have gl : G l = none := sG3.free nl
            have nTl : T ≠ l := fun z => by
              rw [← z, hT3] at nl
              cases nl
            refine ⟨V.ref T, rfl, V.ref p, rfl, hix _ (sG3.trans (upd_new nl)) _ ⟨T, _, rfl, DPut.k (k := (.inr (placeOf d) : Key)) ((upd_ne nTl).trans hT3) hkl, ?_⟩⟩
            refine fin (.ref l) (upd G l (.tup _)) (upd H3 l (.tup _)) (upd_new gl) ((upd_ne nTl).trans n1) (fun b o e => ?_) ((upd_ne nTl).trans hT3) (.tup upd_same (de_monoAll (upd_new gl) _ _ hG))
            by_cases hb : b = l
            · subst hb
              rw [upd_same] at e ⊢
              exact e
            · rw [upd_ne hb] at e ⊢
              exact sG3 _ _ e
          · refine ⟨V.ref p, rfl, p, _, rfl, .inr ⟨.inl (.inl (sG3 _ _ ht)), ?_⟩⟩
            refine ⟨V.ref T, rfl, V.ref p, rfl, hix _ sG3 _ ⟨T, _, rfl, DPut.k (k := (.inr (placeOf d) : Key)) hT3 hkl, ?_⟩⟩
            exact fin (.ref p) G H3 (Same.refl G) n1 sG3 hT3 htd
    · refine ⟨_, pss_cons (ps_set (i := 2) sc19.nd rfl (Or.inl rfl) pe_dnewK) (pss_cons (ps_for (passes_of rfl) rfl (pi_enumT (by rfl) gE (pa_cons (pv 1) pa_nil)) (pg_tup rfl (pgs_cons (pg_name (i := 3) sc19.nd rfl (Or.inl rfl)) (pgs_cons (pg_name (i := 4) sc19.nd rfl (Or.inl rfl)) pgs_nil)))
        (pss_cons (ps_if (pw_or (pt_not (pt_val (pe_call GR hr (by rfl) gR kR bR .nil pass0 (pa_cons (pv 0) (pa_cons (pv 4) pa_nil))))) (pw_or1 (pt_cmp (pc_din hu (pe_ix ix_seq (pv 4) pe_int (fun _ _ => rfl)) (pv 2))))).pt
            (pss_one (ps_raise rfl (takes_of rfl rfl rfl rfl) (pmk_oex D.cl.T iC tI F1 hr b1 .nil pass0 (by rfl) D.gC (pa_cons (pv 3) pa_nil)))) pss_nil)
          (pss_one (ps_dput hu (pv 2) (pe_ix ix_seq (pv 4) pe_int (fun _ _ => rfl)) (pe_callTy call_tuple_of (by rfl) gT PyProof.Rows.boot_tuple (pa_cons (pv 4) pa_nil)) rfl))))
        (pss_one (ps_ret (pv 2)))), ?_⟩
      refine fun T nT => ⟨V.ref a, rfl, a, xs, rfl, upd_new nT _ _ ha, for_it (walk_enumT (xs := xs)) (TLoop K ls a T H xs ds) ?st (fun i σ H1 _ q => ?go) ?tn ?en⟩
      case st => exact ⟨⟨none, none, rfl⟩, ⟨H, [], Same.refl H, nT, upd_new nT, upd_same, TabOk.nil⟩, rfl⟩
      case go =>
        obtain ⟨G, kvs, s1, n1, s2, _, _⟩ := q.hp
        exact s2 _ _ (s1 _ _ ha)
      case en =>
        rintro σ H1 ⟨⟨x3, x4, rfl⟩, ⟨G, kvs, s1, n1, s2, hT, tb⟩, hsc⟩
        rw [hlen, List.take_length] at tb
        rw [hlen, List.drop_length, List.take_length] at hsc
        exact ⟨V.ref T, rfl, k1 hsc H1 T kvs (s1.trans s2) nT hT (tb.mono s2)⟩
      case tn =>
        rintro i x σ H1 H2 hi ⟨⟨x3, x4, rfl⟩, ⟨G, kvs, s1, n1, s2, hT, tb⟩, hsc⟩ ⟨T1, x1, y1, rfl, nT1, rfl, ex, ey⟩
        obtain rfl : V.int (i : Nat) = x1 := Option.some.inj ex
        obtain ⟨d, hdi, hd⟩ := deAll_at hda ey
        have s3 : Same H1 (upd H1 T1 (.tup [.int (i : Nat), y1])) := upd_new nT1
        refine ⟨T1, _, rfl, .inl (.inl upd_same), rfl, _, _, rfl, _, _, rfl, rfl, ?_⟩
        generalize upd H1 T1 (.tup [.int (i : Nat), y1]) = H2 at s3
        have hd2 : De K H2 y1 d := de_mono ((s1.trans s2).trans s3) d y1 hd
        refine ⟨V.str ls, rfl, y1, rfl, ls, y1, d, rfl, hd2, hfit d (List.mem_of_getElem? hdi), fun H3 s4 => ⟨okR ls d, rfl, ?_⟩⟩
        have s13 := (s1.trans s2).trans (s3.trans s4)
        have hil : i < ds.length := by omega
        have ed : ds.drop i = d :: ds.drop (i + 1) := by
          have z := List.drop_eq_getElem_cons hil
          have e2 : ds[i] = d := by
            rw [List.getElem?_eq_getElem hil] at hdi
            exact Option.some.inj hdi
          rw [z, e2]
        have et : ds.take (i + 1) = ds.take i ++ [d] := by
          rw [List.take_add_one, hdi]
          rfl
        rw [ed] at hsc
        have thr : ¬ (okR ls d = true ∧ placeOf d ∉ (ds.take i).map placeOf) → ∀ H4, Same H H4 → Thrown E C H4 [("number", .int (i : Nat))] := fun no H4 s5 => by
          have z : scan ls [] 0 ds = some i := by
            rw [hsc]
            show (if okR ls d = true ∧ placeOf d ∉ (ds.take i).map placeOf then _ else _) = _
            rw [if_neg no]
          exact (k2 i z).mono s5
        cases eR : okR ls d with
        | false => exact iteT (iteT ⟨V.int (i : Nat), rfl, rd_mk rfl (by show 1 ≤ 1000; decide) fun dx H' s' n q => thr (fun z => by rw [eR] at z; exact absurd z.1 (by decide)) H3 s13 H' dx s' n q⟩)
        | true =>
        obtain ⟨px, pb, pc, he, hTL, hpl, hp1, hp2⟩ := okR_elems eR
        have hT3 : H3 T = some (.dK kvs) := s4 _ _ (s3 _ _ hT)
        have hd3 : De K H3 y1 d := de_mono s4 d y1 hd2
        have hdG : De K G y1 d := de_mono s1 d y1 hd
        -- the row as a tuple or a list
        obtain ⟨p, v0, vr, rfl, hG, hsq, hix⟩ : ∃ (p : Addr) (v0 : V) (vr : List V), y1 = .ref p ∧ DeAll K G (v0 :: vr) (elems d) ∧ (G p = some (.lst (v0 :: vr)) ∨ (G p = some (.tup (v0 :: vr)) ∧ De K G (.ref p) (.tuple (elems d)))) ∧
            ∀ H5, Same G H5 → ∀ R : VK, R v0 H5 → rIx K (.ref p) (.int 0) H5 R := by
          cases hdG with
          | @lst a1 vs ds1 ha1 hds =>
            have he' : ds1 = [.str px, pb, pc] := he
            subst he'
            cases hds with
            | @cons v0 vr _ _ h0 t0 => exact ⟨a1, v0, vr, rfl, .cons h0 t0, .inl ha1, fun H5 s5 R q => .inl ⟨a1, _, 0, v0, rfl, rfl, .inl (.inl (s5 _ _ ha1)), atI_nat (j := 0) rfl, q⟩⟩
          | @tup a1 vs ds1 ha1 hds =>
            have he' : ds1 = [.str px, pb, pc] := he
            subst he'
            cases hds with
            | @cons v0 vr _ _ h0 t0 => exact ⟨a1, v0, vr, rfl, .cons h0 t0, .inr ⟨ha1, .tup ha1 (.cons h0 t0)⟩, fun H5 s5 R q => .inr (.inl ⟨a1, _, 0, v0, rfl, rfl, .inl (.inl (s5 _ _ ha1)), atI_nat (j := 0) rfl, q⟩)⟩
          | _ => cases hTL
        have hv0 : v0 = .str (placeOf d) := by
          rw [he] at hG
          cases hG with
          | cons h0 _ =>
            cases h0
            rw [hpl]
        subst hv0
        have sG3 : Same G H3 := s2.trans (s3.trans s4)
        have hget : DGet H3 T (.str (placeOf d)) (valV kvs (.inr (placeOf d))) := DGet.k (k := (.inr (placeOf d) : Key)) hT3
        refine iteF ⟨V.ref p, rfl, hix H3 sG3 _ ⟨V.ref T, rfl, T, _, rfl, hget, _, rfl, ?_⟩⟩
        rw [tb.has]
        refine ite2 (fun c1 => ?_) (fun c1 => ?_)
        · have hm := of_decide_eq_true c1
          exact ⟨V.int (i : Nat), rfl, rd_mk rfl (by show 1 ≤ 1000; decide) fun dx H' s' n q => thr (fun z => z.2 hm) H3 s13 H' dx s' n q⟩
        · have hm : placeOf d ∉ (ds.take i).map placeOf := fun z => c1 (decide_eq_true z)
          have hsc2 : scan ls [] 0 ds = scan ls ((ds.take (i + 1)).map placeOf) (i + 1) (ds.drop (i + 1)) := by
            rw [hsc, et, List.map_append]
            show (if okR ls d = true ∧ placeOf d ∉ (ds.take i).map placeOf then _ else _) = _
            rw [if_pos ⟨eR, hm⟩]
            rfl
          have hnone : valV kvs (.inr (placeOf d)) = none := by
            have z := tb.has (placeOf d)
            rw [decide_eq_false hm] at z
            cases q : valV kvs (.inr (placeOf d)) with
            | none => rfl
            | some v =>
              rw [q] at z
              cases z
          have hkl : kvs.length < sizeLine := by
            have z := congrArg List.length tb.1
            rw [List.length_map, List.length_map, List.length_take] at z
            have z2 : (5000 : Nat) < sizeLine := by decide
            omega
          -- behind the store
          have fin : ∀ (tv : V) (G2 H4 : Hp), Same G G2 → G2 T = none → Same G2 H4 → H4 T = some (.dK kvs) → De K G2 tv (.tuple (elems d)) → TLoop K ls a T H xs ds (i + 1) [some (.str ls), some (.ref a), some (.ref T), some (.int (i : Nat)), some (.ref p)] (upd H4 T (.dK (putK kvs (.inr (placeOf d)) tv))) := fun tv G2 H4 g1 g2 g3 g4 g5 => by
            refine ⟨⟨_, _, rfl⟩, ⟨G2, kvs ++ [(.inr (placeOf d), tv)], s1.trans g1, g2, fun b o e => ?_, ?_, ?_⟩, hsc2⟩
            · rw [upd_ne (ne_of_none e g2)]
              exact g3 _ _ e
            · rw [putK_new tv hnone]
              exact upd_same
            · rw [et]
              exact (tb.mono g1).snoc g5
          rcases hsq with hl | ⟨ht, htd⟩
          · refine ⟨V.ref p, rfl, p, _, rfl, .inl ⟨.inl (.inl (sG3 _ _ hl)), fun l nl => ?_⟩⟩
            have gl : G l = none := sG3.free nl
            have nTl : T ≠ l := fun z => by
              rw [← z, hT3] at nl
              cases nl
            refine ⟨V.ref T, rfl, V.ref p, rfl, hix _ (sG3.trans (upd_new nl)) _ ⟨T, _, rfl, DPut.k (k := (.inr (placeOf d) : Key)) ((upd_ne nTl).trans hT3) hkl, ?_⟩⟩
            refine fin (.ref l) (upd G l (.tup _)) (upd H3 l (.tup _)) (upd_new gl) ((upd_ne nTl).trans n1) (fun b o e => ?_) ((upd_ne nTl).trans hT3) (.tup upd_same (de_monoAll (upd_new gl) _ _ hG))
            by_cases hb : b = l
            · subst hb
              rw [upd_same] at e ⊢
              exact e
            · rw [upd_ne hb] at e ⊢
              exact sG3 _ _ e
          · refine ⟨V.ref p, rfl, p, _, rfl, .inr ⟨.inl (.inl (sG3 _ _ ht)), ?_⟩⟩
            refine ⟨V.ref T, rfl, V.ref p, rfl, hix _ sG3 _ ⟨T, _, rfl, DPut.k (k := (.inr (placeOf d) : Key)) hT3 hkl, ?_⟩⟩
            exact fin (.ref p) G H3 (Same.refl G) n1 sG3 hT3 htd
end
end SK
namespace SK
open PySem PySem.Spec PyProof.Rows L2 LamX NdefX
open K0 (De DeAll XCl spX withX)
/-! ### the letters below each place -/
def initS (p : Str) : Str := ⟨p.cps.toList.dropLast.toArray⟩
theorem cut_init (p : Str) : cutS p none (some (-1)) = initS p := by
  have e : HT.sIx p.length p.length (some (-1)) = p.length - 1 := by
    show (if (-1 : Int) < 0 then (-1 + (p.length : Int)).toNat else min (-1 : Int).toNat p.length) = _
    rw [if_pos (by decide)]
    omega
  unfold cutS initS
  rw [e, HT.sIx_none, List.drop_zero, Nat.sub_zero, List.dropLast_eq_take]
  have z : p.length = p.cps.toList.length := by simp [Str.length]
  rw [z]
theorem at_last {p : Str} (h : p ≠ Str.ofString "") : ∃ c, atI p.cps.toList (-1) = some c := by
  have hn : p.cps.toList ≠ [] := fun z => h (by
    have e : p.cps = #[] := by simpa using z
    obtain ⟨cps⟩ := p
    have e : cps = #[] := e
    rw [e]
    decide +kernel)
  have hp : 0 < p.cps.toList.length := List.length_pos_iff.mpr hn
  have e : ixN p.cps.toList.length (-1) = some (p.cps.toList.length - 1) := by
    unfold ixN
    rw [if_neg (by decide), if_pos (by omega)]
    congr 1
    omega
  exact ⟨_, by unfold atI; rw [e]; exact List.getElem?_eq_getElem (by omega)⟩
def isLone (ps : List Str) (p : Str) : Bool := decide (p ≠ Str.ofString "") && !decide (initS p ∈ ps)
def lone (ps : List Str) : Option Str := ps.find? (isLone ps)
def Keys (kvs : List (Key × V)) (ps : List Str) : Prop := kvs.map Prod.fst = ps.map fun p => (Sum.inr p : Key)
theorem Keys.has {kvs : List (Key × V)} {ps : List Str} (t : Keys kvs ps) (x : Str) : (valV kvs (.inr x)).isSome = decide (x ∈ ps) := by
  rw [← valV_any]
  have e : (kvs.any fun kv => decide (kv.1 = (.inr x : Key))) = (kvs.map Prod.fst).any fun k => decide (k = (.inr x : Key)) := by
    rw [List.any_map]
    rfl
  rw [e, t, List.any_map]
  by_cases h : x ∈ ps
  · rw [decide_eq_true h]
    exact List.any_eq_true.mpr ⟨x, h, by simp⟩
  · rw [decide_eq_false h, List.any_eq_false]
    intro d hd
    simp only [Function.comp, decide_eq_true_eq]
    intro z
    injection z with z
    exact h (z ▸ hd)
theorem Keys.len {kvs : List (Key × V)} {ps : List Str} (t : Keys kvs ps) : kvs.length = ps.length := by
  have z := congrArg List.length t
  simpa using z
theorem Keys.put {kvs : List (Key × V)} {ps : List Str} {x : Str} {v : V} (t : Keys kvs ps) (h : x ∈ ps) : Keys (putK kvs (.inr x) v) ps := by
  have e : (kvs.any fun kv => decide (kv.1 = (.inr x : Key))) = true := by
    rw [valV_any, t.has, decide_eq_true h]
  unfold putK
  rw [if_pos e]
  unfold Keys
  rw [List.map_map, ← t]
  refine List.map_congr_left fun kv _ => ?_
  show (if kv.1 = _ then (kv.1, v) else kv).1 = kv.1
  split <;> rfl
/-! ### what stands below each place -/
def belL (ps : List Str) (q : Str) : List Nat := ps.filterMap fun r => if r ≠ Str.ofString "" ∧ initS r = q then r.cps.toList.getLast? else none
def belS (ps : List Str) (q : Str) : Str := ⟨(belL ps q).toArray⟩
theorem belL_snoc (l : List Str) (p q : Str) : belL (l ++ [p]) q = belL l q ++ (if p ≠ Str.ofString "" ∧ initS p = q then p.cps.toList.getLast? else none).toList := by
  have one : ∀ (f : Str → Option Nat) (x : Str), [x].filterMap f = (f x).toList := fun f x => by
    cases h : f x <;> simp [List.filterMap_cons, h]
  unfold belL
  rw [List.filterMap_append, one]
theorem belL_len (l : List Str) (q : Str) : (belL l q).length ≤ l.length := List.length_filterMap_le _ _
theorem take_next {ps : List Str} {i : Nat} {p : Str} (h : ps[i]? = some p) : ps.take (i + 1) = ps.take i ++ [p] := by
  rw [List.take_add_one, h]
  rfl
theorem valV_key {kvs : List (Key × V)} {k : Key} {v : V} (h : valV kvs k = some v) : ∃ kv ∈ kvs, kv.1 = k ∧ kv.2 = v := by
  unfold valV at h
  cases e : kvs.find? (fun kv => decide (kv.1 = k)) with
  | none =>
    rw [e] at h
    cases h
  | some kv =>
    rw [e] at h
    exact ⟨kv, List.mem_of_find?_eq_some e, (by have z := List.find?_some e; simpa using z), Option.some.inj h⟩
/-- how far the dict is filled -/
def Below (ps : List Str) (i : Nat) (kvs : List (Key × V)) : Prop := ∀ kv ∈ kvs, ∃ q z : Str, kv.1 = .inr q ∧ kv.2 = .str z ∧ z = belS (ps.take i) q ∧ z.length ≤ i
theorem Below.zero {ps : List Str} {kvs : List (Key × V)} (hk : Keys kvs ps) (hv : ∀ kv ∈ kvs, kv.2 = .str "") : Below ps 0 kvs := fun kv h => by
  have m : kv.1 ∈ kvs.map Prod.fst := List.mem_map.mpr ⟨kv, h, rfl⟩
  rw [show kvs.map Prod.fst = _ from hk] at m
  obtain ⟨q, _, e⟩ := List.mem_map.mp m
  exact ⟨q, "", e.symm, hv kv h, (by show Str.ofString "" = (⟨#[]⟩ : Str); decide +kernel), by decide +kernel⟩
theorem Below.nil {ps : List Str} {i : Nat} {kvs : List (Key × V)} {p : Str} (h : Below ps i kvs) (hp : ps[i]? = some p) (he : p = Str.ofString "") : Below ps (i + 1) kvs := fun kv hkv => by
  obtain ⟨q, z, h1, h2, h3, h4⟩ := h kv hkv
  refine ⟨q, z, h1, h2, ?_, by omega⟩
  rw [h3]
  unfold belS
  rw [take_next hp, belL_snoc, if_neg (fun z => z.1 he)]
  simp
theorem Below.at_ {ps : List Str} {i : Nat} {kvs : List (Key × V)} {q : Str} {v : V} (h : Below ps i kvs) (hv : valV kvs (.inr q) = some v) : ∃ z : Str, v = .str z ∧ z = belS (ps.take i) q ∧ z.length ≤ i := by
  obtain ⟨kv, m, e1, e2⟩ := valV_key hv
  obtain ⟨q', z, h1, h2, h3, h4⟩ := h kv m
  rw [e1] at h1
  injection h1 with h1
  subst h1
  exact ⟨z, e2.symm.trans h2, h3, h4⟩
theorem at_get {l : List Nat} {c : Nat} (h : atI l (-1) = some c) : l.getLast? = some c := by
  unfold atI at h
  cases e : ixN l.length (-1) with
  | none =>
    rw [e] at h
    cases h
  | some j =>
    rw [e] at h
    have ej : j = l.length - 1 := by
      unfold ixN at e
      rw [if_neg (by decide)] at e
      split at e
      · have := Option.some.inj e
        omega
      · cases e
    subst ej
    rw [List.getLast?_eq_getElem?]
    exact h
theorem Below.put {ps : List Str} {i : Nat} {kvs : List (Key × V)} {p zz : Str} {cc : Nat} (h : Below ps i kvs) (hp : ps[i]? = some p) (he : p ≠ Str.ofString "") (hc : atI p.cps.toList (-1) = some cc) (hv : valV kvs (.inr (initS p)) = some (.str zz)) (hz : zz = belS (ps.take i) (initS p)) :
    Below ps (i + 1) (putK kvs (.inr (initS p)) (.str (zz ++ ⟨#[cc]⟩))) := fun kv hkv => by
  have last := at_get hc
  have any : (kvs.any fun kv => decide (kv.1 = (.inr (initS p) : Key))) = true := by
    rw [valV_any, hv]
    rfl
  unfold putK at hkv
  rw [if_pos any] at hkv
  obtain ⟨kv0, m, rfl⟩ := List.mem_map.mp hkv
  obtain ⟨q, z, h1, h2, h3, h4⟩ := h kv0 m
  by_cases hk0 : kv0.1 = (.inr (initS p) : Key)
  · rw [if_pos hk0]
    refine ⟨initS p, _, hk0, rfl, ?_, ?_⟩
    · rw [hz]
      unfold belS
      rw [take_next hp, belL_snoc, if_pos ⟨he, rfl⟩, last]
      show (⟨(belL (ps.take i) (initS p)).toArray ++ #[cc]⟩ : Str) = _
      simp
    · obtain ⟨z', e1, _, e3⟩ := h.at_ hv
      injection e1 with e1
      subst e1
      rw [PySem.Str.length_append]
      show zz.length + 1 ≤ i + 1
      omega
  · rw [if_neg hk0]
    refine ⟨q, z, h1, h2, ?_, by omega⟩
    rw [h3]
    unfold belS
    rw [take_next hp, belL_snoc, if_neg (fun w => hk0 (by rw [h1, w.2]))]
    simp
theorem Below.done {ps : List Str} {kvs : List (Key × V)} (h : Below ps ps.length kvs) (hk : Keys kvs ps) : ∀ p ∈ ps, valV kvs (.inr p) = some (.str (belS ps p)) := fun p hp => by
  have z := hk.has p
  rw [decide_eq_true hp] at z
  obtain ⟨v, hv⟩ := Option.isSome_iff_exists.mp z
  obtain ⟨zz, rfl, e, _⟩ := h.at_ hv
  rw [List.take_length] at e
  rw [hv, e]
def spBelow (C : Addr) : Sp := fun vs H Q E => ∃ (a : Addr) (ps : List Str), vs = [.ref a] ∧ H a = some (.lst (ps.map V.str)) ∧ ps.Nodup ∧ (∀ p ∈ ps, p.cps.size ≤ 200) ∧ ps.length ≤ 5000 ∧
  (lone ps = none → ∀ (H' : Hp) (B : Addr) (kvs : List (Key × V)), Same H H' → H B = none → H' B = some (.dK kvs) → Keys kvs ps → (∀ p ∈ ps, valV kvs (.inr p) = some (.str (belS ps p))) → Q (.ref B) H') ∧ (∀ p, lone ps = some p → Thrown E C H [("place", .str p)])
structure BLoop (a B : Addr) (H : Hp) (ps : List Str) (i : Nat) (σ : St) (H1 : Hp) : Prop where
  sl : ∃ x2 x3, σ = [some (.ref a), some (.ref B), x2, x3]
  hp : ∃ kvs : List (Key × V), Same H H1 ∧ H1 B = some (.dK kvs) ∧ Keys kvs ps ∧ Below ps i kvs
  no : ∀ j p, j < i → ps[j]? = some p → isLone ps p = false
theorem valV_mem {kvs : List (Key × V)} {k : Key} {v : V} (h : valV kvs k = some v) : ∃ kv ∈ kvs, kv.2 = v := by
  unfold valV at h
  cases e : kvs.find? (fun kv => decide (kv.1 = k)) with
  | none =>
    rw [e] at h
    cases h
  | some kv =>
    rw [e] at h
    exact ⟨kv, List.mem_of_find?_eq_some e, Option.some.inj h⟩
theorem lone_none {ps : List Str} (h : ∀ j p, j < ps.length → ps[j]? = some p → isLone ps p = false) : lone ps = none := by
  unfold lone
  rw [List.find?_eq_none]
  intro p hp
  obtain ⟨j, hj⟩ := List.mem_iff_getElem?.mp hp
  rw [h j p (List.getElem?_eq_some_iff.mp hj).1 hj]
  exact Bool.false_ne_true
theorem lone_first {ps : List Str} {i : Nat} {p : Str} (h : ∀ j q, j < i → ps[j]? = some q → isLone ps q = false) (hi : ps[i]? = some p) (hl : isLone ps p = true) : lone ps = some p := by
  unfold lone
  have hlt := (List.getElem?_eq_some_iff.mp hi).1
  have e : ps = ps.take i ++ p :: ps.drop (i + 1) := by
    have z := List.drop_eq_getElem_cons hlt
    have e2 : ps[i] = p := by
      rw [List.getElem?_eq_getElem hlt] at hi
      exact Option.some.inj hi
    rw [e2] at z
    rw [← z, List.take_append_drop]
  generalize hp : isLone ps = P at h hl ⊢
  rw [e, List.find?_append]
  have n : (ps.take i).find? P = none := by
    rw [List.find?_eq_none]
    intro q hq
    obtain ⟨j, hj⟩ := List.mem_iff_getElem?.mp hq
    have hji : j < i := by
      have z := (List.getElem?_eq_some_iff.mp hj).1
      rw [List.length_take] at z
      omega
    rw [List.getElem?_take_of_lt hji] at hj
    rw [h j q hji hj]
    exact Bool.false_ne_true
  rw [n]
  simp [List.find?_cons, hl]
section
variable {P : Program} {w : World} {K : PySem.W.Frag} {mg : Str → Option Value} {base : Heap} {f C : Addr} {fd : FuncData}
theorem sc20 : FnScope ["places", "below", "place", "parent"] ["places"] (defScope (top 24)) := ⟨rfl, rfl, rfl, by decide +kernel, rfl, by decide +kernel, by decide +kernel⟩
theorem ok_below (F : Fun K "letters_below" "letters_below" (top 24) f fd) (D : XR P w K mg base "Lone" C ["place"]) : FnOk P w K mg base (L2.CX P w) 3 f fd ["places"] (spBelow C) := by
  refine F.okX sc20 (fun vs H Q E h => ?_) (fun cdv A outer s H vs Q E hr h => ?_)
  · obtain ⟨a, ps, rfl, _⟩ := h
    rfl
  · obtain ⟨a, ps, rfl, ha, nd, h200, hz, k1, k2⟩ := h
    obtain ⟨fi, fdi, iC, tI, F1, b1⟩ := D.ini
    have hu := hu_of hr
    refine ⟨_, pss_cons (ps_setDc (i := 1) (own := [("place", 2)]) (g := gName 2) (tt := tYes) rfl sc20.nd rfl rfl (swD_true rfl rfl rfl (by decide +kernel)) (pi_list (pv 0)) (blkOk_by (N := ["places", "below", "place", "parent"]) (sc := defScope (top 24)) (by decide +kernel))
        (fun _ _ _ _ _ => pg_name (i := 2) sc20.nd rfl (Or.inl rfl)) (fun _ _ _ _ _ => pts_nil) (fun _ _ _ _ _ => pv 2) (fun _ _ _ _ _ => pe_str))
      (pss_cons (ps_for (passes_of rfl) rfl (pi_list (pv 0)) (pg_name (i := 2) sc20.nd rfl (Or.inl rfl))
        (pss_one (ps_if (pt_cmpR op_ne (pv 2) pe_str (nomark _)) (pss_cons (ps_set (i := 3) sc20.nd rfl (Or.inl rfl) (pe_slice sl_str (pv 2) po_none (po_some (pe_un un_neg pe_int))))
          (pss_cons (ps_if (pt_cmp (pc_dnotin hu (pv 3) (pv 1))) (pss_one (ps_raise rfl (takes_of rfl rfl rfl rfl) (pmk_oex D.cl.T iC tI F1 hr b1 .nil pass0 (by rfl) D.gC (pa_cons (pv 2) pa_nil)))) pss_nil)
          (pss_one (ps_daug hu (pv 1) (pv 3) (pe_ix ix_str (pv 2) (pe_un un_neg pe_int) (fun _ _ => rfl)) in_addS (fun _ _ _ => rfl))))) pss_nil)))
      (pss_one (ps_ret (pv 1)))), ?_⟩
    refine ⟨V.ref a, rfl, a, rfl, ⟨_, .inl (.inl ha)⟩, fun B nB => dc_it (walk_list (K := K) (xs := ps.map V.str)) (fun i H1 => ∃ kvs : List (Key × V), Same H H1 ∧ H1 B = some (.dK kvs) ∧ Keys kvs (ps.take i) ∧ ∀ kv ∈ kvs, kv.2 = .str "")
      ⟨[], upd_new nB, upd_same, rfl, fun kv h => absurd h (by simp)⟩ (fun i H1 _ ⟨kvs, sm, _⟩ => .inl (.inl (sm _ _ ha))) ?_ ?_⟩
    · rintro i x H1 H2 hi ⟨kvs, sm, hB, hk, hv⟩ ⟨rfl, hx⟩
      obtain ⟨p, hp, rfl⟩ : ∃ p, ps[i]? = some p ∧ V.str p = x := by
        rw [List.getElem?_map] at hx
        cases q : ps[i]? with
        | none =>
          rw [q] at hx
          cases hx
        | some p =>
          rw [q] at hx
          exact ⟨p, rfl, Option.some.inj hx⟩
      have et : ps.take (i + 1) = ps.take i ++ [p] := by
        rw [List.take_add_one, hp]
        rfl
      have hnone : valV kvs (.inr p) = none := by
        have z := hk.has p
        have nm : p ∉ ps.take i := fun hm => by
          obtain ⟨j, hj⟩ := List.mem_iff_getElem?.mp hm
          have hji : j < i := by
            have z := (List.getElem?_eq_some_iff.mp hj).1
            rw [List.length_take] at z
            omega
          rw [List.getElem?_take_of_lt hji] at hj
          have := nd_ix nd hj hp
          omega
        rw [decide_eq_false nm] at z
        cases q : valV kvs (.inr p) with
        | none => rfl
        | some v =>
          rw [q] at z
          cases z
      refine ⟨rfl, V.str p, rfl, kvs, .inr p, rfl, hB, ?_, kvs ++ [(.inr p, .str "")], fun b o e => ?_, ?_, ?_, fun kv hkv => ?_⟩
      · have z := hk.len
        rw [List.length_take] at z
        have z2 : (5000 : Nat) < sizeLine := by decide
        omega
      · rw [upd_ne (ne_of_none e nB)]
        exact sm _ _ e
      · rw [putK_new _ hnone]
        exact upd_same
      · unfold Keys
        rw [et, List.map_append, List.map_append]
        have z : kvs.map Prod.fst = _ := hk
        rw [z]
        rfl
      · rcases List.mem_append.mp hkv with z | z
        · exact hv kv z
        · rw [List.mem_singleton.mp z]
    rintro H1 ⟨kvs, sm, hB, hk, hv⟩
    rw [List.length_map, List.take_length] at hk
    refine ⟨V.ref a, rfl, a, rfl, ⟨_, .inl (.inl (sm _ _ ha))⟩, for_it (walk_list (K := K) (xs := ps.map V.str)) (BLoop a B H ps) ⟨⟨none, none, rfl⟩, ⟨kvs, sm, hB, hk, Below.zero hk hv⟩, fun j p h => absurd h (Nat.not_lt_zero _)⟩
      (fun i σ H2 _ q => by
        obtain ⟨_, s2, _⟩ := q.hp
        exact .inl (.inl (s2 _ _ ha))) ?_ ?_⟩
    · rintro i x σ H2 H3 hi ⟨⟨x2, x3, rfl⟩, ⟨kvs, sm, hB, hk, hv⟩, hno⟩ ⟨rfl, hx⟩
      obtain ⟨p, hp, rfl⟩ : ∃ p, ps[i]? = some p ∧ V.str p = x := by
        rw [List.getElem?_map] at hx
        cases q : ps[i]? with
        | none =>
          rw [q] at hx
          cases hx
        | some p =>
          rw [q] at hx
          exact ⟨p, rfl, Option.some.inj hx⟩
      have hp2 := h200 p (List.mem_of_getElem? hp)
      have hpl : p.length ≤ sizeLine := Nat.le_trans hp2 (by decide)
      have next : ∀ (kvs2 : List (Key × V)) (H4 : Hp) (y2 y3 : Option V), isLone ps p = false → Same H H4 → H4 B = some (.dK kvs2) → Keys kvs2 ps → Below ps (i + 1) kvs2 → BLoop a B H ps (i + 1) [some (.ref a), some (.ref B), y2, y3] H4 := fun kvs2 H4 y2 y3 nl s4 h4 k4 v4 =>
        ⟨⟨_, _, rfl⟩, ⟨kvs2, s4, h4, k4, v4⟩, fun j q hj hq => by
          by_cases hji : j = i
          · subst hji
            rw [hp] at hq
            obtain rfl := Option.some.inj hq
            exact nl
          · exact hno j q (by omega) hq⟩
      refine ⟨V.str p, rfl, rfl, _, rfl, ?_⟩
      by_cases he : p = Str.ofString ""
      · have hd : (!decide (V.str p = V.str (Str.ofString ""))) = false := by
          rw [he]
          simp
        rw [hd]
        refine iteF (next kvs _ _ _ ?_ sm hB hk (hv.nil hp he))
        unfold isLone
        rw [he]
        simp
      · have hd : (!decide (V.str p = V.str (Str.ofString ""))) = true := by
          have z : ¬ V.str p = V.str (Str.ofString "") := fun z => he (by injection z)
          rw [decide_eq_false z]
          rfl
        rw [hd]
        refine iteT ⟨V.str p, rfl, 1, rfl, (-1 : Int), rfl, p, rfl, hpl, ?_⟩
        rw [cut_init]
        refine ⟨V.str (initS p), rfl, V.ref B, rfl, B, _, rfl, DGet.k (k := (.inr (initS p) : Key)) hB, _, rfl, ?_⟩
        rw [hk.has]
        by_cases hm : initS p ∈ ps
        · rw [decide_eq_true hm]
          have hnl : isLone ps p = false := by
            unfold isLone
            rw [decide_eq_true hm]
            simp
          refine iteF ?_
          obtain ⟨v, hvv⟩ : ∃ v, valV kvs (.inr (initS p)) = some v := by
            have z := hk.has (initS p)
            rw [decide_eq_true hm] at z
            exact Option.isSome_iff_exists.mp z
          obtain ⟨zz, rfl, hz1, hz2⟩ := hv.at_ hvv
          obtain ⟨cc, hcc⟩ := at_last he
          have dg := DGet.k (k := (.inr (initS p) : Key)) hB
          rw [hvv] at dg
          have hkl : kvs.length < sizeLine := by
            have z := hk.len
            have z2 : (5000 : Nat) < sizeLine := by decide
            omega
          have hil : i < ps.length := by simpa using hi
          refine ⟨V.ref B, rfl, V.str (initS p), rfl, B, _, rfl, dg, V.str p, rfl, 1, rfl, p, (-1 : Int), cc, rfl, rfl, hpl, hcc, zz, ⟨#[cc]⟩, rfl, rfl, ?_, _, DPut.k (k := (.inr (initS p) : Key)) hB hkl, next _ _ _ _ hnl (fun b o e => ?_) upd_same (hk.put hm) (hv.put hp he hcc hvv hz1)⟩
          · have z2 : (5001 : Nat) ≤ sizeLine := by decide
            show zz.length + 1 ≤ sizeLine
            omega
          · rw [upd_ne (ne_of_none e nB)]
            exact sm _ _ e
        · rw [decide_eq_false hm]
          have hil : isLone ps p = true := by
            unfold isLone
            rw [decide_eq_false hm, decide_eq_true he]
            rfl
          refine iteT ⟨V.str p, rfl, rd_mk rfl (by show 1 ≤ 1000; decide) fun dx H' s' n q => ((k2 p (lone_first hno hp hil)).mono sm) H' dx s' n q⟩
    · rintro σ H2 ⟨⟨x2, x3, rfl⟩, ⟨kvs, sm, hB, hk, hv⟩, hno⟩
      rw [List.length_map] at hno hv
      exact ⟨V.ref B, rfl, k1 (lone_none hno) H2 B kvs sm nB hB hk (hv.done hk)⟩
end
end SK
namespace SK
open PySem PySem.Spec PyProof.Rows L2 LamX NdefX
open K0 (De DeAll XCl spX withX)
/-! ### a tree is made, or refused -/
theorem okL_of {x : Str} (h : okLb x = true) : OkL x := by
  simp only [okLb, Bool.and_eq_true, decide_eq_true_eq, List.all_eq_true] at h
  refine ⟨h.1.1, h.1.2, h.2.1, fun c hc => ?_⟩
  have z : ∀ c ∈ alpha.cps.toList, 97 ≤ c ∧ c < 123 := by decide +kernel
  exact z c (h.2.2 c hc)
theorem scan_none {ls : Str} : ∀ {ds : List PyData} {seen : List Str} {i : Nat}, scan ls seen i ds = none → (∀ d ∈ ds, okR ls d = true ∧ placeOf d ∉ seen) ∧ (ds.map placeOf).Nodup
  | [], _, _, _ => ⟨fun d h => absurd h (by simp), by simp⟩
  | d :: r, seen, i, h => by
    have h' : (if okR ls d = true ∧ placeOf d ∉ seen then scan ls (seen ++ [placeOf d]) (i + 1) r else some i) = none := h
    by_cases c : okR ls d = true ∧ placeOf d ∉ seen
    · rw [if_pos c] at h'
      obtain ⟨h1, h2⟩ := scan_none h'
      refine ⟨fun e he => ?_, ?_⟩
      · rcases List.mem_cons.mp he with rfl | he
        · exact c
        · exact ⟨(h1 e he).1, fun z => (h1 e he).2 (List.mem_append_left _ z)⟩
      · rw [List.map_cons, List.nodup_cons]
        refine ⟨fun z => ?_, h2⟩
        obtain ⟨e, he, e2⟩ := List.mem_map.mp z
        exact (h1 e he).2 (by rw [e2]; simp)
    · rw [if_neg c] at h'
      cases h'
theorem sortW_perm (ls : Str) (ws : List Str) : (sortW ls ws).Perm ws := List.mergeSort_perm _ _
def ThrownN (E : XK) (C : Addr) (H : Hp) (gs : List (Str × V)) (T : List (Addr × Str)) : Prop := ∀ (H' : Hp) (d : Addr), ExtN H H' → Tabs T H' → H' d = some (.xd gs) → E (.ref C) (some d) H'
theorem ThrownN.to {E : XK} {C : Addr} {H H1 : Hp} {gs : List (Str × V)} {T : List (Addr × Str)} (t : ThrownN E C H gs T) (e : ExtN H H1) (tb : Tabs T H1) : Thrown E C H1 gs := fun H' d s n q => t H' d (e.trans (ExtN.of s)) (tb.ext s) q
/-- how a tree is refused -/
inductive Way where
  | letters
  | places (n : Nat)
  | row (i : Nat)
  | lone (p : Str)
  | fine
def strOf : PyData → Str
  | .str x => x
  | _ => Str.empty
def way (L : PyData) (ds : List PyData) : Way := if okLd L = true then (if 1 ≤ ds.length ∧ ds.length ≤ 2000 then (match scan (strOf L) [] 0 ds with
  | some i => .row i
  | none => match lone (sortW (strOf L) (ds.map placeOf)) with
    | some p => .lone p
    | none => .fine) else .places ds.length) else .letters
/-- the four error classes -/
structure Cs where
  l : Addr
  m : Addr
  r : Addr
  o : Addr
def Refused (E : XK) (C : Cs) (vL : V) (H : Hp) (T : List (Addr × Str)) (w : Way) : Prop :=
  (w = .letters → ThrownN E C.l H [("letters", vL)] T) ∧ (∀ n : Nat, w = .places n → ThrownN E C.m H [("most", .int 2000), ("many", .int n), ("what", .str "places")] T) ∧
  (∀ i : Nat, w = .row i → ThrownN E C.r H [("number", .int i)] T) ∧ (∀ p, w = .lone p → ThrownN E C.o H [("place", .str p)] T)
/-- what a tree's fields hold -/
def six6 : List Str := ["_below", "_table", "letters", "rows", "size", "height"]
def TreeAt (K : PySem.W.Frag) (H : Hp) (fs : List (Str × V)) (ls : Str) (ds : List PyData) : Prop := ∃ (B Tb l : Addr) (kvs kv2 : List (Key × V)) (ps : List Str) (m : Int), fs.lookup ("_below" : Str) = some (.ref B) ∧ fs.lookup ("_table" : Str) = some (.ref Tb) ∧ fs.lookup ("rows" : Str) = some (.ref l) ∧
  (fs.lookup ("letters" : Str) = some (.str ls) ∧ fs.lookup ("size" : Str) = some (.int (ps.length : Nat)) ∧ fs.lookup ("height" : Str) = some (.int m) ∧ (∃ y ∈ ps, m = (y.length : Nat)) ∧ ∀ y ∈ ps, ((y.length : Nat) : Int) ≤ m) ∧
  (∀ g : Str, g ∉ six6 → fs.lookup g = none) ∧ H Tb = some (.dK kvs) ∧ TabOk K H kvs ds ∧ H B = some (.dK kv2) ∧ Keys kv2 ps ∧ (∀ p ∈ ps, valV kv2 (.inr p) = some (.str (belS ps p))) ∧ H l = some (.tup (ps.map fun y => (valV kvs (.inr y)).getD .non)) ∧ ps = sortW ls (ds.map placeOf) ∧ kvs.length ≤ 5000
mutual
theorem de_insN {K : PySem.W.Frag} {H H' : Hp} {x CT dx : Addr} {fs : List (Str × V)} (hx : H x = some (.ins CT dx fs)) (m : ∀ b o, b ≠ x → H b = some o → (∀ ps, o ≠ .tbl ps) → H' b = some o) : ∀ {d : PyData} {v : V}, De K H v d → De K H' v d
  | _, _, .non => .non
  | _, _, .bl b => .bl b
  | _, _, .int i => .int i
  | _, _, .str x => .str x
  | _, _, .lst ha hd => .lst (m _ _ (ne_of ha hx (by intro z; cases z)) ha fun ps z => nomatch z) (de_insNAll hx m hd)
  | _, _, .tup ha hd => .tup (m _ _ (ne_of ha hx (by intro z; cases z)) ha fun ps z => nomatch z) (de_insNAll hx m hd)
  | _, _, .dic ha => .dic (m _ _ (ne_of ha hx (by intro z; cases z)) ha fun ps z => nomatch z)
theorem de_insNAll {K : PySem.W.Frag} {H H' : Hp} {x CT dx : Addr} {fs : List (Str × V)} (hx : H x = some (.ins CT dx fs)) (m : ∀ b o, b ≠ x → H b = some o → (∀ ps, o ≠ .tbl ps) → H' b = some o) : ∀ {ds : List PyData} {vs : List V}, DeAll K H vs ds → DeAll K H' vs ds
  | _, _, .nil => .nil
  | _, _, .cons h1 h2 => .cons (de_insN hx m h1) (de_insNAll hx m h2)
end
def spInit (K : PySem.W.Frag) (CT : Addr) (C : Cs) (T : List (Addr × Str)) : Sp := fun vs H Q E => ∃ (x dx a : Addr) (vL : V) (L : PyData) (xs : List V) (ds : List PyData), vs = [.ref x, vL, .ref a] ∧ H x = some (.ins CT dx []) ∧ De K H vL L ∧ (∀ z, L = .str z → z.cps.all (· < 128) = true ∧ z.cps.size ≤ 1000) ∧
  Rows H a xs ∧ DeAll K H xs ds ∧ (∀ d ∈ ds, Fit d) ∧ xs.length ≤ 5000 ∧ Tabs T H ∧ Refused E C vL H T (way L ds) ∧
  (way L ds = .fine → ∀ (H' : Hp) (fs : List (Str × V)), (∀ b o, b ≠ x → H b = some o → (∀ ps, o ≠ .tbl ps) → H' b = some o) → Tabs T H' → H' x = some (.ins CT dx fs) → TreeAt K H' fs (strOf L) ds → Q .non H')
theorem Tabs.but {T : List (Addr × Str)} {H H' : Hp} {x CT dx : Addr} {fs : List (Str × V)} (t : Tabs T H) (hx : H x = some (.ins CT dx fs)) (e : ∀ b o, b ≠ x → H b = some o → H' b = some o) : Tabs T H' := fun p hp => by
  obtain ⟨ps, h1, h2, h3⟩ := t p hp
  refine ⟨ps, e _ _ (fun z => by rw [z, hx] at h1; cases h1) h1, h2, fun pos cv hc => ?_⟩
  obtain ⟨c, e1, e2⟩ := h3 pos cv hc
  refine ⟨c, e1, e _ _ (fun z => ?_) e2⟩
  rw [z, hx] at e2
  unfold CodeO at e2
  cases e2
theorem putF_le (f : Str) (y : V) (fs : List (Str × V)) : (putF f y fs).length ≤ fs.length + 1 := by
  induction fs with
  | nil => exact Nat.le_refl _
  | cons g r ih =>
    obtain ⟨g, v⟩ := g
    unfold putF
    split
    · simp
    · simp only [List.length_cons]
      omega
theorem Rows.mono {H H' : Hp} {a : Addr} {xs : List V} (r : Rows H a xs) (e : ExtN H H') : Rows H' a xs := r.elim (fun h => .inl (e _ _ h fun ps z => nomatch z)) fun h => .inr (e _ _ h fun ps z => nomatch z)
theorem Rows.seq {K : PySem.W.Frag} {H : Hp} {a : Addr} {xs : List V} (r : Rows H a xs) : SqL K H a xs ∨ SqT K H a xs := r.elim (fun h => .inl (.inl (.inl h))) fun h => .inr (.inl (.inl h))
section
variable {P : Program} {w : World} {K : PySem.W.Frag} {mg : Str → Option Value} {base : Heap} {f fCL fCP fT fO fB CT : Addr} {fd fdCL fdCP fdT fdO fdB : FuncData} {C : Cs} {T : List (Addr × Str)}
theorem sc24 : FnScope ["self", "letters", "rows", "table", "places", "place"] ["self", "letters", "rows"] (defScope (inClass (top 28) 0)) := ⟨rfl, rfl, rfl, by decide +kernel, rfl, by decide +kernel, by decide +kernel⟩
theorem ok_init (F : Fun K "__init__" "Tree.__init__" (inClass (top 28) 0) f fd) (cT : Cls K CT) (no : ∀ g ∈ (["_below", "_table", "letters", "rows", "size", "height"] : List Str), NoAttr K CT g)
    (gN : mg "len" = none) (gLs : mg "list" = none) (gTu : mg "tuple" = none) (gM : mg "max" = none)
    (gCL : mg "check_letters" = some (.ref fCL)) (kCL : PySem.W.keepIn K (.ref fCL) = true) (GCL : FnOk P w K mg base (L2.CX P w) 3 fCL fdCL ["letters"] (spCheckL K C.l)) (bCL : Binds K fdCL ["letters"] [])
    (gCP : mg "check_places" = some (.ref fCP)) (kCP : PySem.W.keepIn K (.ref fCP) = true) (GCP : FnOk P w K mg base (L2.CX P w) 3 fCP fdCP ["many"] (spCheckP C.m)) (bCP : Binds K fdCP ["many"] [])
    (gT : mg "table_of" = some (.ref fT)) (kT : PySem.W.keepIn K (.ref fT) = true) (GT : FnOk P w K mg base (L2.CX P w) 3 fT fdT ["letters", "rows"] (spTable K C.r)) (bT : Binds K fdT ["letters", "rows"] [])
    (gO : mg "in_order" = some (.ref fO)) (kO : PySem.W.keepIn K (.ref fO) = true) (GO : FnOk P w K mg base CX0 5 fO fdO ["letters", "words"] (spOrder K T)) (bO : Binds K fdO ["letters", "words"] [])
    (gB : mg "letters_below" = some (.ref fB)) (kB : PySem.W.keepIn K (.ref fB) = true) (GB : FnOk P w K mg base (L2.CX P w) 3 fB fdB ["places"] (spBelow C.o)) (bB : Binds K fdB ["places"] []) :
    FnOk P w K mg base (L2.CX P w) 6 f fd ["self", "letters", "rows"] (spInit K CT C T) := by
  refine F.okX sc24 (fun vs H Q E h => ?_) (fun cdv A outer s H vs Q E hr h => ?_)
  · obtain ⟨x, dx, a, vL, L, xs, ds, rfl, _⟩ := h
    rfl
  · obtain ⟨x, dx, a, vL, L, xs, ds, rfl, hx, hL, hasc, hrows, hda, hfit, hz, hT, hbad, kk⟩ := h
    have hu := hu_of hr
    have hlen := deAll_len hda
    refine ⟨_, pss_cons (ps_expr (pe_call GCL (hr.mono (by decide)) (by rfl) gCL kCL bCL .nil (passes_call (takes_of rfl rfl rfl rfl) (fun _ _ _ _ h => h)) (pa_cons (pv 1) pa_nil)))
      (pss_cons (ps_expr (pe_call GCP (hr.mono (by decide)) (by rfl) gCP kCP bCP .nil (passes_call (takes_of rfl rfl rfl rfl) (fun _ _ _ _ h => h)) (pa_cons (pe_callB call_len_seq (by rfl) gN PySem.boot_len (pa_cons (pv 2) pa_nil)) pa_nil)))
      (pss_cons (ps_set (i := 3) sc24.nd rfl (Or.inr rfl) (pe_call GT (hr.mono (by decide)) (by rfl) gT kT bT .nil (passes_call (takes_of rfl rfl rfl rfl) (fun _ _ _ _ h => h)) (pa_cons (pv 1) (pa_cons (pv 2) pa_nil))))
      (pss_cons (ps_set (i := 4) sc24.nd rfl (Or.inl rfl) (pe_call GO hr (by rfl) gO kO bO .nil pass0 (pa_cons (pv 1) (pa_cons (pe_callTy (call_list_dK rfl) (by rfl) gLs PyProof.Rows.boot_list (pa_cons (pv 3) pa_nil)) pa_nil))))
      (pss_cons (ps_fld (pv 0) (pe_call GB (hr.mono (by decide)) (by rfl) gB kB bB .nil (passes_call (takes_of rfl rfl rfl rfl) (fun _ _ _ _ h => h)) (pa_cons (pv 4) pa_nil)) rfl)
      (pss_cons (ps_fld (pv 0) (pv 3) rfl)
      (pss_cons (ps_fld (pv 0) (pv 1) rfl)
      (pss_cons (ps_fld (pv 0) (pe_callTy call_tuple_of (by rfl) gTu PyProof.Rows.boot_tuple (pa_cons (pe_lc (own := [("place", 5)]) (g := gName 5) (tt := tYes) rfl sc24.nd (pi_list (pv 4)) (blkOk_by (N := ["self", "letters", "rows", "table", "places", "place"]) (sc := defScope (inClass (top 28) 0)) (by decide +kernel))
          (fun _ _ _ _ _ => pg_name (i := 5) sc24.nd rfl (Or.inl rfl)) (fun _ _ _ _ _ => pts_nil) (fun _ _ _ _ _ => pe_dget hu (pv 3) (pv 5) (fun _ _ => rfl))) pa_nil)) rfl)
      (pss_cons (ps_fld (pv 0) (pe_callB call_len_seq (by rfl) gN PySem.boot_len (pa_cons (pv 4) pa_nil)) rfl)
      (pss_one (ps_fld (pv 0) (pe_callB (cr_max rfl) (by rfl) gM PyProof.Rows.boot_max (pa_cons (pe_lc (own := [("place", 5)]) (g := gName 5) (tt := tYes) rfl sc24.nd (pi_list (pv 4)) (blkOk_by (N := ["self", "letters", "rows", "table", "places", "place"]) (sc := defScope (inClass (top 28) 0)) (by decide +kernel))
          (fun _ _ _ _ _ => pg_name (i := 5) sc24.nd rfl (Or.inl rfl)) (fun _ _ _ _ _ => pts_nil) (fun _ _ _ _ _ => pe_callB call_len_str (by rfl) gN PySem.boot_len (pa_cons (pv 5) pa_nil))) pa_nil)) rfl)))))))))), ?_⟩
    obtain ⟨bad1, bad2, bad3, bad4⟩ := hbad
    refine ⟨vL, rfl, vL, L, rfl, hL, hasc, fun okL H1 s1 => ?_, fun no => (bad1 (by unfold way; rw [no]; rfl)).to (ExtN.refl H) hT⟩
    obtain ⟨ls, rfl⟩ : ∃ ls, L = .str ls := by
      cases L with
      | str z => exact ⟨z, rfl⟩
      | _ => cases okL
    cases hL
    have hoL := okL_of okL
    have w1 : way (.str ls) ds = (if 1 ≤ ds.length ∧ ds.length ≤ 2000 then (match scan ls [] 0 ds with
      | some i => .row i
      | none => match lone (sortW ls (ds.map placeOf)) with
        | some p => .lone p
        | none => .fine) else .places ds.length) := by
      unfold way
      rw [if_pos okL]
      rfl
    have e1 := ExtN.of s1
    refine ⟨V.ref a, rfl, a, xs, rfl, (hrows.mono e1).seq, xs.length, rfl, fun hn => ?_, fun hn => (bad2 xs.length (by rw [w1, ← hlen, if_neg hn])).to e1 (hT.ext s1)⟩
    rw [hlen] at hn
    rw [if_pos hn] at w1
    refine ⟨V.str ls, rfl, V.ref a, rfl, ls, a, xs, ds, rfl, hrows.mono e1, de_monoAll s1 _ _ hda, hfit, hz, fun hsc H2 Tb kvs s2 nT hTb tb => ?_, fun i e => (bad3 i (by rw [w1, e])).to e1 (hT.ext s1)⟩
    rw [hsc] at w1
    have w2 : way (.str ls) ds = (match lone (sortW ls (ds.map placeOf)) with
        | some p => .lone p
        | none => .fine) := w1
    obtain ⟨hall, hnd⟩ := scan_none hsc
    have e2 := ExtN.of (s1.trans s2)
    have T2 := hT.ext (s1.trans s2)
    have hkeys : (kvs.map fun kv => kV kv.1) = (ds.map placeOf).map V.str := by
      have z := congrArg (List.map kV) tb.1
      rw [List.map_map, List.map_map] at z
      rw [List.map_map]
      exact z
    refine ⟨V.str ls, rfl, V.ref Tb, rfl, Tb, kvs, rfl, hTb, fun q nq => ?_⟩
    have s3 : Same H2 (upd H2 q (.lst (kvs.map fun kv => kV kv.1))) := upd_new nq
    have hq : upd H2 q (.lst (kvs.map fun kv => kV kv.1)) q = some (.lst (kvs.map fun kv => kV kv.1)) := upd_same
    generalize upd H2 q (.lst (kvs.map fun kv => kV kv.1)) = H3 at s3 hq
    rw [hkeys] at hq
    refine ⟨ls, q, ds.map placeOf, rfl, hoL, .inl (.inl hq), fun y hy => ?_, T2.ext s3, fun H4 p eN T4 h4 => ?_⟩
    · obtain ⟨d, hd, rfl⟩ := List.mem_map.mp hy
      obtain ⟨z, b, c, _, _, h3, h4, h5⟩ := okR_elems (hall d hd).1
      rw [h3]
      exact ⟨h4, h5⟩
    have pm := sortW_perm ls (ds.map placeOf)
    have e4 : ExtN H H4 := (e2.trans (ExtN.of s3)).trans eN
    have hTb4 : H4 Tb = some (.dK kvs) := eN _ _ (s3 _ _ hTb) fun ps z => nomatch z
    have hx4 : H4 x = some (.ins CT dx []) := e4 _ _ hx fun ps z => nomatch z
    have p200 : ∀ y ∈ sortW ls (ds.map placeOf), y.cps.size ≤ 200 := fun y hy => by
      obtain ⟨d, hd, rfl⟩ := List.mem_map.mp (pm.mem_iff.mp hy)
      obtain ⟨z, b, c, _, _, h3, h4, h5⟩ := okR_elems (hall d hd).1
      rw [h3]
      exact h4
    have plen : (sortW ls (ds.map placeOf)).length = ds.length := by rw [pm.length_eq, List.length_map]
    have vals : ∀ y ∈ sortW ls (ds.map placeOf), ∃ v, valV kvs (.inr y) = some v := fun y hy => by
      have z := tb.has y
      rw [decide_eq_true (pm.mem_iff.mp hy)] at z
      exact Option.isSome_iff_exists.mp z
    generalize hps : sortW ls (ds.map placeOf) = ps at *
    refine ⟨V.ref p, rfl, p, ps, rfl, h4, pm.nodup_iff.mpr hnd, p200, by omega, fun lo H5 B kv2 s5 nB hB hk hbel => ?_, fun y e => (bad4 y (by rw [w2, e])).to e4 T4⟩
    rw [lo] at w2
    have e5 : ExtN H H5 := e4.trans (ExtN.of s5)
    have T5 := T4.ext s5
    have hx5 := s5 _ _ hx4
    have hT5 := s5 _ _ hTb4
    have hp5 := s5 _ _ h4
    have nxp : p ≠ x := fun z => by
      rw [z, hx5] at hp5
      cases hp5
    have nxT : Tb ≠ x := fun z => by
      rw [z, hx5] at hT5
      cases hT5
    have keep : ∀ (G : Hp) (f : Str) (y : V) (fs : List (Str × V)), (∀ b o, b ≠ x → H5 b = some o → G b = some o) → ∀ b o, b ≠ x → H5 b = some o → upd G x (.ins CT dx (putF f y fs)) b = some o := fun G f y fs g b o hb e => by
      rw [upd_ne hb]
      exact g b o hb e
    have memP : ∀ {i : Nat} {z : V}, (ps.map V.str)[i]? = some z → ∃ y, ps[i]? = some y ∧ V.str y = z := fun {i z} hz => by
      rw [List.getElem?_map] at hz
      cases q : ps[i]? with
      | none =>
        rw [q] at hz
        cases hz
      | some y =>
        rw [q] at hz
        exact ⟨y, rfl, Option.some.inj hz⟩
    have psz : ps.length ≤ 5000 := by omega
    refine ⟨V.ref x, rfl, x, CT, dx, _, rfl, hx5, cT, no _ (by simp), (by decide), ?_⟩
    have g1 := keep H5 "_below" (.ref B) [] (fun b o _ e => e)
    have x1 : upd H5 x (.ins CT dx (putF "_below" (.ref B) [])) x = some (.ins CT dx (putF "_below" (.ref B) [])) := upd_same
    have l1 := putF_le "_below" (.ref B) []
    have k1 : ∀ g : Str, (putF "_below" (V.ref B) []).lookup g = if g = "_below" then some (V.ref B) else ([] : List (Str × V)).lookup g := fun g => lookup_putF _ _ _ _
    generalize putF "_below" (V.ref B) [] = f1 at g1 x1 l1 k1 ⊢
    generalize upd H5 x (.ins CT dx f1) = G1 at g1 x1 ⊢
    refine ⟨V.ref Tb, rfl, V.ref x, rfl, x, CT, dx, _, rfl, x1, cT, no _ (by simp), (by simp at l1; omega), ?_⟩
    have g2 := keep G1 "_table" (.ref Tb) f1 g1
    have x2 : upd G1 x (.ins CT dx (putF "_table" (.ref Tb) f1)) x = some (.ins CT dx (putF "_table" (.ref Tb) f1)) := upd_same
    have l2 := putF_le "_table" (.ref Tb) f1
    have k2 : ∀ g : Str, (putF "_table" (V.ref Tb) f1).lookup g = if g = "_table" then some (V.ref Tb) else f1.lookup g := fun g => lookup_putF _ _ _ _
    generalize putF "_table" (V.ref Tb) f1 = f2 at g2 x2 l2 k2 ⊢
    generalize upd G1 x (.ins CT dx f2) = G2 at g2 x2 ⊢
    refine ⟨V.str ls, rfl, V.ref x, rfl, x, CT, dx, _, rfl, x2, cT, no _ (by simp), (by simp at l1; omega), ?_⟩
    have g3 := keep G2 "letters" (.str ls) f2 g2
    have x3 : upd G2 x (.ins CT dx (putF "letters" (.str ls) f2)) x = some (.ins CT dx (putF "letters" (.str ls) f2)) := upd_same
    have l3 := putF_le "letters" (.str ls) f2
    have k3 : ∀ g : Str, (putF "letters" (V.str ls) f2).lookup g = if g = "letters" then some (V.str ls) else f2.lookup g := fun g => lookup_putF _ _ _ _
    generalize putF "letters" (V.str ls) f2 = f3 at g3 x3 l3 k3 ⊢
    generalize upd G2 x (.ins CT dx f3) = G3 at g3 x3 ⊢
    refine ⟨V.ref p, rfl, p, rfl, ⟨_, .inl (.inl (g3 _ _ nxp hp5))⟩, fun D nD => lc_it (walk_list (K := K) (xs := ps.map V.str)) (fun i G => Same G3 G ∧ G D = some (.lst ((ps.take i).map fun y => (valV kvs (.inr y)).getD .non))) ⟨upd_new nD, upd_same⟩ (fun i G _ q => .inl (.inl (q.1 _ _ (g3 _ _ nxp hp5)))) ?_ ?_⟩
    · rintro i z G G' hi ⟨sG, hD⟩ ⟨rfl, hz2⟩
      obtain ⟨y, hy, rfl⟩ := memP hz2
      obtain ⟨v, hv⟩ := vals y (List.mem_of_getElem? hy)
      have dg := DGet.k (k := (.inr y : Key)) (sG _ _ (g3 _ _ nxT hT5))
      rw [hv] at dg
      have hil : i < ps.length := by simpa using hi
      have z2 : (5000 : Nat) < sizeLine := by decide
      refine ⟨rfl, V.ref Tb, rfl, V.str y, rfl, Tb, v, rfl, dg, _, hD, by rw [List.length_map, List.length_take]; omega, fun b o e => ?_, ?_⟩
      · rw [upd_ne (ne_of_none e nD)]
        exact sG _ _ e
      · rw [take_next hy, List.map_append]
        show upd _ D (.lst (_ ++ [v])) D = some (.lst (_ ++ [(valV kvs (.inr y)).getD .non]))
        rw [hv]
        exact upd_same
    rintro G4 ⟨s4, hD4⟩
    have etk0 : ps.take (ps.map V.str).length = ps := List.take_of_length_le (by simp)
    rw [etk0] at hD4
    refine ⟨D, _, rfl, .inl ⟨.inl (.inl hD4), fun l nl => ?_⟩⟩
    generalize hacc : (ps.map fun y => (valV kvs (.inr y)).getD .non) = acc at hD4
    have s5' := s4.trans (upd_new (o := .tup acc) nl)
    have hl5 : upd G4 l (.tup acc) l = some (.tup acc) := upd_same
    generalize upd G4 l (.tup acc) = G5 at s5' hl5
    have g5 : ∀ b o, b ≠ x → H5 b = some o → G5 b = some o := fun b o hb e => s5' _ _ (g3 b o hb e)
    refine ⟨V.ref x, rfl, x, CT, dx, _, rfl, s5' _ _ x3, cT, no _ (by simp), (by simp at l1; omega), ?_⟩
    have g6 := keep G5 "rows" (.ref l) f3 g5
    have nlx : l ≠ x := fun z => by
      rw [z, s5' _ _ x3] at hl5
      cases hl5
    have hl6 : upd G5 x (.ins CT dx (putF "rows" (.ref l) f3)) l = some (.tup acc) := by
      rw [upd_ne nlx]
      exact hl5
    have x6 : upd G5 x (.ins CT dx (putF "rows" (.ref l) f3)) x = some (.ins CT dx (putF "rows" (.ref l) f3)) := upd_same
    have l6 := putF_le "rows" (.ref l) f3
    have k6 : ∀ g : Str, (putF "rows" (V.ref l) f3).lookup g = if g = "rows" then some (V.ref l) else f3.lookup g := fun g => lookup_putF _ _ _ _
    generalize putF "rows" (V.ref l) f3 = f6 at g6 x6 l6 k6 hl6 ⊢
    generalize upd G5 x (.ins CT dx f6) = G6 at g6 x6 hl6 ⊢
    refine ⟨V.ref p, rfl, p, ps.map V.str, rfl, .inl (.inl (.inl (g6 _ _ nxp hp5))), V.ref x, rfl, x, CT, dx, _, rfl, x6, cT, no _ (by simp), (by simp at l1; omega), ?_⟩
    have g7 := keep G6 "size" (.int (ps.map V.str).length) f6 g6
    have hl7 : upd G6 x (.ins CT dx (putF "size" (.int (ps.map V.str).length) f6)) l = some (.tup acc) := by
      rw [upd_ne nlx]
      exact hl6
    have x7 : upd G6 x (.ins CT dx (putF "size" (.int (ps.map V.str).length) f6)) x = some (.ins CT dx (putF "size" (.int (ps.map V.str).length) f6)) := upd_same
    have l7 := putF_le "size" (.int (ps.map V.str).length) f6
    have k7 : ∀ g : Str, (putF "size" (V.int (ps.map V.str).length) f6).lookup g = if g = "size" then some (V.int (ps.map V.str).length) else f6.lookup g := fun g => lookup_putF _ _ _ _
    generalize putF "size" (V.int (ps.map V.str).length) f6 = f7 at g7 x7 l7 k7 hl7 ⊢
    generalize upd G6 x (.ins CT dx f7) = G7 at g7 x7 hl7 ⊢
    refine ⟨V.ref p, rfl, p, rfl, ⟨_, .inl (.inl (g7 _ _ nxp hp5))⟩, fun D2 nD2 => lc_it (walk_list (K := K) (xs := ps.map V.str)) (fun i G => Same G7 G ∧ G D2 = some (.lst (((ps.take i).map fun y => (y.length : Int)).map V.int))) ⟨upd_new nD2, upd_same⟩ (fun i G _ q => .inl (.inl (q.1 _ _ (g7 _ _ nxp hp5)))) ?_ ?_⟩
    · rintro i z G G' hi ⟨sG, hD⟩ ⟨rfl, hz2⟩
      obtain ⟨y, hy, rfl⟩ := memP hz2
      have hil : i < ps.length := by simpa using hi
      have z2 : (5000 : Nat) < sizeLine := by decide
      have et : ps.take (i + 1) = ps.take i ++ [y] := by
        rw [List.take_add_one, hy]
        rfl
      refine ⟨rfl, V.str y, rfl, y, rfl, Nat.le_trans (p200 y (List.mem_of_getElem? hy)) (by decide), _, hD, by rw [List.length_map, List.length_map, List.length_take]; omega, fun b o e => ?_, ?_⟩
      · rw [upd_ne (ne_of_none e nD2)]
        exact sG _ _ e
      · rw [et, List.map_append, List.map_append]
        exact upd_same
    rintro G8 ⟨s8, hD8⟩
    have etk : ps.take (ps.map V.str).length = ps := List.take_of_length_le (by simp)
    rw [etk] at hD8
    refine ⟨D2, _, rfl, .inl (.inl hD8), by rw [List.length_map]; omega, fun m hm1 hm2 => ?_⟩
    refine ⟨V.ref x, rfl, x, CT, dx, _, rfl, s8 _ _ x7, cT, no _ (by simp), (by simp at l1; omega), ?_⟩
    have g9 := keep G8 "height" (.int m) f7 (fun b o hb e => s8 _ _ (g7 b o hb e))
    have hl8 := s8 _ _ hl7
    have k9 : ∀ g : Str, (putF "height" (V.int m) f7).lookup g = if g = "height" then some (V.int m) else f7.lookup g := fun g => lookup_putF _ _ _ _
    have nBx : B ≠ x := fun z => by
      rw [z, hx5] at hB
      cases hB
    have hx2 := (s1.trans s2) _ _ hx
    have tail : ∀ b o, b ≠ x → H2 b = some o → (∀ ps, o ≠ .tbl ps) → upd G8 x (.ins CT dx (putF "height" (.int m) f7)) b = some o := fun b o hb e ht => g9 b o hb (s5 _ _ (eN _ _ (s3 _ _ e) ht))
    have hlen := congrArg List.length tb.1
    rw [List.length_map, List.length_map] at hlen
    refine kk w2 _ _ (fun b o hb e ht => g9 b o hb (e5 b o e ht)) (Tabs.but T5 hx5 g9) upd_same ⟨B, Tb, l, kvs, kv2, ps, m, ?_, ?_, ?_, ⟨?_, ?_, ?_, ?_, ?_⟩, ?_, g9 _ _ nxT hT5, ⟨tb.1, fun i d hd => ?_⟩, g9 _ _ nBx hB, hk, hbel, ?_, ?_, by omega⟩
    · rw [k9, if_neg (by decide), k7, if_neg (by decide), k6, if_neg (by decide), k3, if_neg (by decide), k2, if_neg (by decide), k1, if_pos rfl]
    · rw [k9, if_neg (by decide), k7, if_neg (by decide), k6, if_neg (by decide), k3, if_neg (by decide), k2, if_pos rfl]
    · rw [k9, if_neg (by decide), k7, if_neg (by decide), k6, if_pos rfl]
    · rw [k9, if_neg (by decide), k7, if_neg (by decide), k6, if_neg (by decide), k3, if_pos rfl]
      rfl
    · rw [k9, if_neg (by decide), k7, if_pos rfl, List.length_map]
    · rw [k9, if_pos rfl]
    · obtain ⟨y, hy, e⟩ := List.mem_map.mp hm1
      exact ⟨y, hy, e.symm⟩
    · intro y hy
      exact hm2 _ (List.mem_map.mpr ⟨y, hy, rfl⟩)
    · intro g hg
      unfold six6 at hg
      simp only [List.mem_cons, List.not_mem_nil, or_false, not_or] at hg
      rw [k9, if_neg hg.2.2.2.2.2, k7, if_neg hg.2.2.2.2.1, k6, if_neg hg.2.2.2.1, k3, if_neg hg.2.2.1, k2, if_neg hg.2.1, k1, if_neg hg.1]
      rfl
    · obtain ⟨v, h1, h2⟩ := tb.2 i d hd
      exact ⟨v, h1, de_insN hx2 tail h2⟩
    · rw [upd_ne nlx, hl8, hacc]
    · exact hps.symm
end
end SK
/-! ### several except clauses, each with a name -/
namespace SK
open PySem PySem.Spec PyProof.Rows L2 LamX NdefX
abbrev Cl := Value × (Addr → Value → Option Addr → TS)
/-- what the clauses wish; i is the slot of their name -/
def wAsM (K : PySem.W.Frag) (Wout : WX) (i : Nat) (D : Ends) : List Cl → WX
  | [] => Wout
  | (c, ts) :: r => wAs K c i ts (wAsM K Wout i D r) D
inductive HdsAs (X : Cx) (n : Str) : List ExceptHandler → List Cl → Prop
  | nil : HdsAs X n [] []
  | cons {x : Str} {c : Value} {ts : Addr → Value → Option Addr → TS} {b₀ : Stmt} {suite : List Stmt} {np pos' : Pos} {hds : List ExceptHandler} {l : List Cl} (hc : Names X x c)
      (hsu : ∀ (a : Addr) (oe : Obj) (cls : Value) (d : Option Addr) (pn : List (Addr × Obj)), Zc cls d oe → (∃ vs, oe.data = .fields vs) → PSs (X.suite a ((a, oe) :: pn)) (b₀ :: suite) (ts a cls d)) (r : HdsAs X n hds l) :
      HdsAs X n (.ExceptHandler (some (.Name x np)) (some n) (b₀ :: suite) pos' :: hds) ((c, ts) :: l)
section
variable {X : Cx} {n : Str} {i : Nat} {body : List Stmt} {h₀ : ExceptHandler} {hds : List ExceptHandler} {l : List Cl} {pos : Pos} {tb : WX → TS} {Wout : WX}
theorem ps_try_asM (hs : X.stack = X.env :: X.outer) (hf : X.env.frame = some X.env.locals) (hN : X.N.Nodup) (hi : X.N[i]? = some n) (hln : X.env.kindOf n = some .local) (tk : Takes X Wout)
    (hb : ∀ (W : WX) (pn : List (Addr × Obj)) (xe : Value → Shared → Prop), Takes (X.tr pn xe) W → PassesOwn (model X.prog X.w) X.A X.env xe → PSs (X.tr pn xe) body (tb W))
    (hh : HdsAs X n (h₀ :: hds) l) : PS X (.Try body (h₀ :: hds) [] [] pos) (fun D σ H => tb (wAsM X.K Wout i D l) D σ H) := by
  refine ⟨fun pins s σ H D I h => ?_⟩
  have ok := I.ok
  have hfr : X.A.frames = some (X.env :: X.outer) := by rw [ok.frames, hs]
  have hloc : Loc X.env.scope n := .inl hln
  refine wpAny_Try_except ?_
  refine wpAny_mono ((hb (wAsM X.K Wout i D l) (X.pn ++ pins) (fun e s₁ => wpAny (model X.prog X.w) X.A (noteFrame e X.env) (fun _ s₂ => wpAny (model X.prog X.w) X.A (setFlight e none) (fun _ s₃ =>
    wpAny (model X.prog X.w) X.A (handleBy e X.env (h₀ :: hds)) (SP X pins D) X.xe s₃) X.xe s₂) X.xe s₁) (fun u s' xx => ?_) PassesOwn.looking).run [] s σ H D (I.toTry _) h) (fun f s1 hsp => ?_) (fun e s1 he => he)
  · obtain ⟨a, B, sI, pins', σ', H', cls, d, rfl, J', nb, up, sky, na, os, ag, w⟩ := xx
    have J : Inv X pins σ' H' sI := J'.ofTry ok
    have sky' : Sky B (X.env :: X.outer) a (Zc cls d) X.env.locals s'.heap := by rw [← hs]; exact sky
    show wpAny (model X.prog X.w) X.A (noteFrame (.ref a) X.env) _ _ _
    refine Sky.land Zc.steady hfr hf sky' fun h3 fl3 up3 => ?_
    have J3 : Inv X pins σ' H' { s' with heap := h3 } := J.landed nb fl3.1 (up.trans up3) os ag
    obtain ⟨oe3, vs3, he3, hz3, hd3⟩ := fl3.there
    have apart : ∀ {h : Heap} {o : Obj} {vs : Array Value}, h.FunFrames B (X.env :: X.outer) → h.get? a = some o → o.data = .fields vs → a ∉ frs (X.env :: X.outer) := fun {h o vs} ff e dd hm => by
      obtain ⟨_, o', e', hnf⟩ := ff.mem hm
      rw [e] at e'
      cases e'
      exact hnf _ dd
    have nfr := apart fl3.2.2.1 he3 hd3
    have nL : a ≠ X.env.locals := fun z => nfr (List.mem_filterMap.mpr ⟨X.env, List.mem_cons_self, by rw [hf, z]⟩)
    have nF : a ∉ X.fs := fun hm => by
      obtain ⟨e, he, q⟩ := List.mem_filterMap.mp hm
      exact nfr (List.mem_filterMap.mpr ⟨e, List.mem_cons_of_mem _ he, q⟩)
    have S3 := J3.suite he3 hd3 na nL nF
    have go : ∀ {hds' : List ExceptHandler} {l' : List Cl}, HdsAs X n hds' l' → wAsM X.K Wout i D l' cls d σ' H' → wpAny (model X.prog X.w) X.A (handleBy (.ref a) X.env hds') (SP X pins D) X.xe { s' with heap := h3 } := by
      intro hds' l' hk
      induction hk with
      | nil =>
        intro w
        refine wpAny_handleBy_nil ?_
        obtain ⟨k1, k2, k3, oe, vs, T, oT, ts', he, hz, hd, h1, hr⟩ := id fl3
        unfold PySem.passOn
        refine wpAny_bind (wpAny_field he hd h1 ?_)
        rw [if_neg (show ¬ ((Value.ref T == Value.none) = true) from by simp)]
        have fin : wpAny (model X.prog X.w) X.A (setFlight (.ref a) X.env.frame) (fun _ s4 => wpAny (model X.prog X.w) X.A (throw (.ref a) : Sem Flow) (SP X pins D) X.xe s4) X.xe { s' with heap := h3 } := by
          rw [hf]
          refine HandSPX.setFlight_upZ fl3 fun h4 hh4 up4 => wpAny_throw (tk _ _ ?_)
          exact ⟨a, B, sI, pins, σ', H', cls, d, rfl, J, nb, (up.trans up3).trans up4, .inr (.inr (by rw [hs]; exact hh4)), na, os, ag, w⟩
        first
          | exact wpAny_bind (wpAny_pure (wpAny_bind fin))
          | exact wpAny_bind fin
      | @cons x c ts b₀ suite np pos' hds2 l2 hc hsu r ih =>
        intro w
        obtain ⟨b, hb1, hyes, hno⟩ := w
        refine wpAny_handleBy_cons (codeAny_handlers_test ?_) (by intro q; cases q)
        have LT : PySem.W.Looks (model X.prog X.w) h3 (typeOf (.ref a)) cls := fun A Q E s k q => wpAny_typeOf_ref (k _ _ he3) (by rw [hz3.1]; exact q)
        have LM := PySem.W.exm_one (M := model X.prog X.w) (J3.kIn) LT hb1
        have test : ∀ {Q : Value → Shared → Prop} {E : Value → Shared → Prop}, Q c { s' with heap := h3 } → wpAny (model X.prog X.w) (X.A.mark (some (.ref a))) (eval (.Name x np) X.env) Q E { s' with heap := h3 } := fun {Q E} q => by
          obtain ⟨hg, hdbg, hm | ⟨hm, hv, hnn⟩⟩ := hc
          · exact ld_glob (X := X.suite a ((a, oe3) :: (X.pn ++ pins))) S3 hg hm q hdbg
          · exact ld_blt (X := X.suite a ((a, oe3) :: (X.pn ++ pins))) S3 hg hm hv q hnn hdbg
        refine test (LM.here ?_)
        cases b with
        | true =>
          refine codeAny_handlers_suite_as ?_
          refine HandSPX.lands_againZ fl3 fun h4 fl4 up4 => ?_
          have J4 : Inv X pins σ' H' { s' with heap := h4 } := J.landed nb fl4.1 ((up.trans up3).trans up4) os ag
          obtain ⟨oe4, vs4, he4, hz4, hd4⟩ := fl4.there
          have S4 := J4.suite he4 hd4 na nL nF
          refine store_ok (X := X.suite a ((a, oe4) :: (X.pn ++ pins))) (v := .ref a) S4 hN hi hloc rfl (fun s5 S5 => ?_) (.inr hln)
          refine wpAny_mono ((hsu a oe4 cls d (X.pn ++ pins) hz4 ⟨_, hd4⟩).run [] s5 _ H' _ S5 (hyes rfl a na)) (fun f s6 hsp => ?_) (fun _ _ z => False.elim z)
          have ends : ∀ {σ6 : St} {H6 : Hp} {Q : Shared → Prop}, Inv (X.suite a ((a, oe4) :: (X.pn ++ pins))) [] σ6 H6 s6 → (∀ s7, Inv X pins (σ6.set i none) H6 s7 → Q s7) →
              wpAny (model X.prog X.w) X.A (do bindName X.env n .none; unbindBehindTheSuite X.env n pos') (fun _ s7 => Q s7) X.xe s6 := fun {σ6 H6 Q} S6 hq => gone_ok (S6.unsuite ok) hN hi hln hq
          cases f with
          | next =>
            obtain ⟨σ6, H6, S6, q6⟩ := hsp
            exact ends S6 fun s7 J7 => ⟨_, _, J7, q6⟩
          | brk =>
            obtain ⟨σ6, H6, S6, q6⟩ := hsp
            exact ends S6 fun s7 J7 => ⟨_, _, J7, q6⟩
          | cont =>
            obtain ⟨σ6, H6, S6, q6⟩ := hsp
            exact ends S6 fun s7 J7 => ⟨_, _, J7, q6⟩
          | ret u =>
            obtain ⟨v6, σ6, H6, S6, r6, q6⟩ := hsp
            exact ends S6 fun s7 J7 => ⟨_, _, _, J7, r6, q6⟩
        | false =>
          show wpAny _ X.A (handleBy (.ref a) X.env hds2) _ _ _
          exact ih (hno rfl)
    exact go hh w
  · cases f with
    | next =>
      obtain ⟨σ', H', J', q⟩ := hsp
      exact wpAny_execs_nil ⟨σ', H', J'.ofTry ok, q⟩
    | brk =>
      obtain ⟨σ', H', J', q⟩ := hsp
      exact ⟨σ', H', J'.ofTry ok, q⟩
    | cont =>
      obtain ⟨σ', H', J', q⟩ := hsp
      exact ⟨σ', H', J'.ofTry ok, q⟩
    | ret u =>
      obtain ⟨v, σ', H', J', r, q⟩ := hsp
      exact ⟨v, σ', H', J'.ofTry ok, r, q⟩
end
/-- isinstance(e, c), e the exception that the suite holds, with fields -/
def rIsD (K : PySem.W.Frag) (a : Addr) (cls : Value) (d : Option Addr) : List V → Hp → VK → Prop := fun xs H Q => ∃ (D dx : Addr) (fs : List (Str × V)), cls = .ref D ∧ d = some dx ∧ ExcC K D ∧ H dx = some (.xd fs) ∧ rIsE K D a xs H Q
theorem call_isD {X : Cx} {a : Addr} {cls : Value} {d : Option Addr} {oe : Obj} {pn : List (Addr × Obj)} (hz : Zc cls d oe) (hf : ∃ vs, oe.data = .fields vs) : CallR (X.suite a ((a, oe) :: pn)) (.builtin "isinstance") (rIsD X.K a cls d) := by
  intro pins s σ H xs us Q I r h
  obtain ⟨D, dx, fs, rfl, rfl, C, hdx, c, cv, b, rfl, hcv, e, q⟩ := h
  obtain ⟨u1, u2, rfl, r1, r2⟩ := vals2 r
  obtain rfl : u1 = Value.ref a := r1
  obtain rfl := hcv _ r2
  obtain ⟨hget, _⟩ := I.pin (a, oe) (List.mem_append.mpr (.inl List.mem_cons_self))
  obtain ⟨vs, hv⟩ := hf
  have hx : ObjOk X.prog X.w H s.heap dx (.xd fs) := I.hok dx _ hdx
  obtain ⟨mA, hns, hr⟩ := hx
  obtain ⟨od, ho, hl⟩ := lookIn_ns hns
  have J : PySem.W.InstAt s.heap a oe D (some od) := ⟨hget, hz.1, by unfold PySem.W.notCls; rw [hv] <;> rfl, by rw [hz.2]; exact ho⟩
  have hc : (PySem.W.clsIn X.K D).isSome = true := by
    obtain ⟨cd, hcd, _⟩ := PySem.W.any_some C.hd
    rw [hcd]
    rfl
  exact PySem.W.kia_one (PySem.W.kitx_exc (ox := oe) (od := some od) hc C.hg C.hk C.hs C.ha C.hn C.ht C.hm) I.kIn J e (fun z => nomatch z) fun tk => ⟨.bl b, H, I.kept (t' := tk) fun _ _ z => z, rfl, q⟩
end SK
namespace SK
open PySem PySem.Spec PyProof.Rows L2 LamX NdefX
open K0 (De DeAll XCl spX withX)
/-! ### defs that are called where no repr is under way -/
structure FnG (P : Program) (w : World) (K : PySem.W.Frag) (mg : Str → Option Value) (base : Heap) (CX : CXT) (k : Nat) (f : Addr) (fd : FuncData) (ps : List Str) (sp : Sp) : Prop where
  len : ∀ vs H Q E, sp vs H Q E → vs.length = ps.length
  run : ∀ (A : Around) (outer : List Env) (s : Shared) (H : Hp) (args : Args) (us : List Value) (vs : List V) (Q : VK) (E : XK), A.guards = some [] → Room k A → Env0 P w K mg base A outer s H → BindsTo s fd args (ps.zip us) → Vals vs us → sp vs H Q E →
    codeAny (model P w) A (.call (.ref f) args) (CR CX outer P w H s Q E) s
theorem FnG.ok {P : Program} {w : World} {K : PySem.W.Frag} {mg : Str → Option Value} {base : Heap} {x qual : Str} {st : Stmt} {f : Addr} {fd : FuncData} {N ps : List Str} {k : Nat} {sp : Sp} (F : Fun K x qual st f fd) (S : FnScope N ps (defScope st)) (len : ∀ vs H Q E, sp vs H Q E → vs.length = ps.length)
    (hbody : ∀ (cdv : Value) (A : Around) (outer : List Env) (s : Shared) (H : Hp) (vs : List V) (Q : VK) (E : XK), (A.deeper (envOfC qual (defScope st) s.heap.objs.size f cdv)).guards = some [] → Room k (A.deeper (envOfC qual (defScope st) s.heap.objs.size f cdv)) → sp vs H Q E →
      ∃ t, PSs (cxOf CX0 P w K mg base N qual (defScope st) f cdv A outer s H E).nox (defBody st) t ∧ t { nx := fun _ H' => Q .non H', rt := Q } (start N vs) H) : FnG P w K mg base CX0 (k + 1) f fd ps sp := by
  obtain ⟨oc, od, kV, doc, pm, an, cdv, ct, osl, rfl, lk, hcd⟩ := F.ex
  refine ⟨len, fun A outer s H args us vs Q E hg hr e0 hb r hsp => run_ofS lk hcd S hr e0 hb r (len _ _ _ _ hsp) fun hr' => ?_⟩
  obtain ⟨t, h, q⟩ := hbody cdv A outer s H vs Q E hg hr' hsp
  exact ⟨t, h.nox, q⟩
def tCallG (sp : Sp) (E : XK) (t : TA) : TE := fun σ H Q => t σ H fun vs H1 => sp vs H1 Q E
section
variable {X : Cx} {CX : CXT} {k : Nat} {f C : Addr} {fd : FuncData} {ps : List Str} {ds : List Value} {dvs : List V} {sp : Sp} {E : XK} {x : Str} {p pos : Pos} {e : Expr} {es : List Expr} {t : TA}
theorem run_fnG {pins : List (Addr × Obj)} {σ : St} {H : Hp} {s : Shared} {Q : VK} {us : List Value} {vs : List V} (F : FnG X.prog X.w X.K X.mg X.base CX k f fd ps sp) (hgd : X.A.guards = some []) (hr : Room k X.A) (hb : Binds X.K fd ps []) (hx : Passes CX X E) (I : Inv X pins σ H s) (r : Vals vs us)
    (h : sp vs H Q E) : wpAny (model X.prog X.w) X.A (call (.ref f) us) (EP X pins σ Q) X.xe s := by
  have hl : us.length = ps.length := by
    rw [← r.length]
    exact F.len _ _ _ _ h
  have b := hb s us I.kIn (by rw [List.append_nil]; exact hl)
  rw [List.append_nil] at b
  refine wpAny_call (codeAny_mono (F.run X.A X.stack s H ⟨us, []⟩ us vs Q E hgd hr I.env0 b r h) fun r s' hq => ?_)
  cases r with
  | error e => exact hx pins σ H s e s' I hq
  | ok fl =>
    cases fl with
    | ret u => exact I.after hq
    | next => exact False.elim hq
    | brk => exact False.elim hq
    | cont => exact False.elim hq
theorem pe_callG (F : FnG X.prog X.w X.K X.mg X.base CX k f fd ps sp) (hgd : X.A.guards = some []) (hr : Room k X.A) (hg : Gl X x) (hm : X.mg x = some (.ref f)) (hk : PySem.W.keepIn X.K (.ref f) = true) (hb : Binds X.K fd ps []) (hx : Passes CX X E)
    (ha : PA X (e :: es) t) (hdb : (x == ("__debug__" : Str)) = false := by decide) (he : starEach (e :: es) X.env = (false, eval e X.env) :: starEach es X.env := by rfl) (hpl : (backTo pos (starEach es X.env)).any (·.1) = false := by rfl) :
    PE X (.Call (.Name x p) (e :: es) [] pos) (tCallG sp E t) := by
  refine ⟨fun pins s σ H Q I h => ?_⟩
  refine wpAny_Call_Name_kw (ld_glob I hg hm ?_ hdb)
  refine PySem.W.callWith_K (h₀ := X.base) I.ok.mod.kin hk (thn (ha.run pos pins s σ H _ I h) fun us s1 ⟨vs, H1, I1, r, q⟩ => ⟨I1.kIn, ?_⟩) he hpl
  exact run_fnG F hgd hr hb hx I1 r q
/-- C(..), what is raised wished for at the caller's slots -/
def tMakeS (C : Addr) (sp : Sp) (E : St → XK) (t : TA) : TE := fun σ H Q => t σ H fun vs H1 => ∀ x dx, H1 x = none → H1 dx = none → dx ≠ x → sp (.ref x :: vs) (upd (upd H1 dx (.own x)) x (.ins C dx [])) (fun v H2 => v = .non ∧ Q (.ref x) H2) (E σ)
theorem pe_makeS {E : St → XK} (M : Mk X.K C f) (F : FnOk X.prog X.w X.K X.mg X.base CX k f fd ps sp) (hr : Room (k + 1) X.A) (hg : Gl X x) (hm : X.mg x = some (.ref C)) (hb : Binds X.K fd ps []) (hx : ∀ σ, PassesAt CX X σ (E σ)) (ha : PA X (e :: es) t)
    (hdb : (x == ("__debug__" : Str)) = false := by decide) (he : starEach (e :: es) X.env = (false, eval e X.env) :: starEach es X.env := by rfl) (hpl : (backTo pos (starEach es X.env)).any (·.1) = false := by rfl) :
    PE X (.Call (.Name x p) (e :: es) [] pos) (tMakeS C sp E t) := by
  refine ⟨fun pins s σ H Q I h => ?_⟩
  refine wpAny_Call_Name_kw (ld_glob I hg hm ?_ hdb)
  refine PySem.W.callWith_K (h₀ := X.base) I.ok.mod.kin M.kp (thn (ha.run pos pins s σ H _ I h) fun us s1 ⟨vs, H1, I1, r, q⟩ => ⟨I1.kIn, ?_⟩) he hpl
  have hq := q (s1.heap.objs.size + 1) s1.heap.objs.size (I1.hok.fresh (Nat.le_succ _)) (I1.hok.fresh (Nat.le_refl _)) (Nat.ne_of_lt (Nat.lt_succ_self _))
  have I2 := Inv.made (C := C) I1
  have r2 : Vals (V.ref (s1.heap.objs.size + 1) :: vs) (Value.ref (s1.heap.objs.size + 1) :: us) := .cons rfl r
  have hl : (Value.ref (s1.heap.objs.size + 1) :: us).length = ps.length := by
    have z := r2.length
    rw [F.len _ _ _ _ hq] at z
    exact z.symm
  have b := hb _ (Value.ref (s1.heap.objs.size + 1) :: us) I2.kIn (by rw [List.append_nil]; exact hl)
  rw [List.append_nil] at b
  show wpAny _ _ (call (.ref C) us) _ _ _
  refine wpAny_call (make_map (f := f) I1.kIn M.makes M.init (beq_iff_eq.mp M.fn) (codeAny_mono (F.run _ X.stack _ _ ⟨Value.ref (s1.heap.objs.size + 1) :: us, []⟩ (Value.ref (s1.heap.objs.size + 1) :: us) _ _ (E σ) (hr.make C us [])
    (I2.env0.make C us []) b r2 hq) fun r s' hq' => ?_))
  cases r with
  | error er => exact hx σ pins _ _ er s' I2 hq'
  | ok fl =>
    cases fl with
    | ret u =>
      obtain ⟨v, H', I3, rv, ev, q3⟩ := I2.after hq'
      subst ev
      exact ⟨rv, ⟨V.ref (s1.heap.objs.size + 1), H', I3, rfl, q3⟩⟩
    | next => exact False.elim hq'
    | brk => exact False.elim hq'
    | cont => exact False.elim hq'
/-- repr(x), x any data -/
def rRepD (K : PySem.W.Frag) : List V → Hp → VK → Prop := fun xs H Q => ∃ (v : V) (d : PyData), xs = [v] ∧ De K H v d ∧ d.showable = true ∧ d.depth ≤ 8 ∧ d.shown.length ≤ sizeLine ∧ Q (.str d.shown) H
theorem call_repD (hg : X.A.guards = some []) (hu : X.A.units + 64 < cLine) (hsys : ∃ o, X.K.lookup sysModules = some o) : CallR X (.builtin "repr") (rRepD X.K) := by
  intro pins s σ H xs us Q I r h
  obtain ⟨v, d, rfl, hd, hsh, hdp, hz, q⟩ := h
  cases hd with
  | non =>
    obtain ⟨u, rfl, ru⟩ := vals1 r
    obtain rfl : u = Value.none := ru
    exact PySem.P.repr_of_none ⟨.str _, H, I.tok _, ⟨_, rfl⟩, q⟩
  | bl b =>
    obtain ⟨u, rfl, ru⟩ := vals1 r
    obtain rfl : u = Value.bool b := ru
    exact PySem.P.repr_of_bool ⟨.str _, H, I.tok _, ⟨_, rfl⟩, by cases b <;> exact q⟩
  | int i =>
    obtain ⟨u, rfl, t, rfl⟩ := vals1 r
    refine PySem.P.repr_of_int (by simpa [PyData.showable] using hsh) ⟨.str _, H, I.tok _, ⟨_, rfl⟩, q⟩
  | str x =>
    obtain ⟨u, rfl, t, rfl⟩ := vals1 r
    exact PySem.P.repr_of_str ⟨.str _, H, I.tok _, ⟨_, rfl⟩, q⟩ hz
  | @lst a vs ds ha hds => exact K0.call_rep hg hu hsys pins s σ H _ us Q I r ⟨a, _, rfl, .lst ha hds, hsh, hdp, hz, q⟩
  | @tup a vs ds ha hds => exact K0.call_rep hg hu hsys pins s σ H _ us Q I r ⟨a, _, rfl, .tup ha hds, hsh, hdp, hz, q⟩
  | @dic a ha => exact K0.call_rep hg hu hsys pins s σ H _ us Q I r ⟨a, _, rfl, .dic ha, hsh, hdp, hz, q⟩
end
end SK
namespace SK
open PySem PySem.Spec PyProof.Rows L2 LamX NdefX
open K0 (De DeAll XCl spX withX)
/-! ### how a tree is met -/
/-- what is told of the four error classes together -/
structure Excs (P : Program) (w : World) (K : PySem.W.Frag) (mg : Str → Option Value) (base : Heap) (C : Cs) (tE : Addr) : Prop where
  dl : XR P w K mg base "BadLetters" C.l ["letters"]
  dm : XR P w K mg base "TooMany" C.m ["what", "many", "most"]
  dr : XR P w K mg base "BadRow" C.r ["number"]
  dn : XR P w K mg base "Lone" C.o ["place"]
  gX : mg "TreesError" = some (.ref tE)
  ll : PySem.W.exmOne K (.ref C.l) (.ref C.l) = some true
  ml : PySem.W.exmOne K (.ref C.m) (.ref C.l) = some false
  mm : PySem.W.exmOne K (.ref C.m) (.ref C.m) = some true
  rl : PySem.W.exmOne K (.ref C.r) (.ref C.l) = some false
  rm : PySem.W.exmOne K (.ref C.r) (.ref C.m) = some false
  rr : PySem.W.exmOne K (.ref C.r) (.ref C.r) = some true
  ol : PySem.W.exmOne K (.ref C.o) (.ref C.l) = some false
  om : PySem.W.exmOne K (.ref C.o) (.ref C.m) = some false
  or : PySem.W.exmOne K (.ref C.o) (.ref C.r) = some false
  oo : PySem.W.exmOne K (.ref C.o) (.ref C.o) = some true
  kr : PySem.W.kitOne K (.ref C.r) (.ref tE) = some true
theorem xf_of {K : PySem.W.Frag} {C : Addr} (c : XCl K C) : XfC K C := ⟨c.ga, c.gg, c.T.exC, c.hd⟩
theorem ec_of {K : PySem.W.Frag} {C : Addr} (c : XCl K C) : ExcC K C := ⟨c.ga, c.gg, c.T.exC, c.hd, c.ha, c.hn, c.ht, c.hm⟩
/-- the answer, by the way -/
def ansV (L : PyData) : Way → List V
  | .letters => [.str "letters", .str L.shown]
  | .places n => [.str "places", .int n, .int 2000]
  | .row i => [.str "row", .int i, .bl true]
  | .lone p => [.str "lone", .str p]
  | .fine => []
structure Small (d : PyData) : Prop where
  sh : d.showable = true
  dp : d.depth ≤ 8
  ln : d.shown.length ≤ 5000
/-- what is asked of letters and rows -/
structure Asked (K : PySem.W.Frag) (T : List (Addr × Str)) (H : Hp) (vL : V) (a : Addr) (L : PyData) (xs : List V) (ds : List PyData) : Prop where
  let_ : De K H vL L
  asc : ∀ z, L = .str z → z.cps.all (· < 128) = true ∧ z.cps.size ≤ 1000
  sm : Small L
  rows : Rows H a xs
  all : DeAll K H xs ds
  fit : ∀ d ∈ ds, Fit d
  len : xs.length ≤ 5000
  tab : Tabs T H
theorem lk3 {n : Nat} (j : Nat) : ([(("most" : Str), V.int 2000), ("many", V.int n), ("what", V.str "places")] : List (Str × V)).lookup ((["most", "many", "what"] : List Str).getD j "most") = some (([V.int 2000, V.int n, V.str "places"] : List V).getD j (V.int 2000)) := by
  match j with
  | 0 => simp [List.lookup]
  | 1 => simp [List.lookup, show ((("many" : Str)) == ("most" : Str)) = false from by decide +kernel]
  | 2 => simp [List.lookup, show ((("what" : Str)) == ("most" : Str)) = false from by decide +kernel, show ((("what" : Str)) == ("many" : Str)) = false from by decide +kernel]
  | j + 3 => simp [List.lookup]
mutual
theorem de_ext {K : PySem.W.Frag} {H H' : Hp} (m : ExtN H H') : ∀ {d : PyData} {v : V}, De K H v d → De K H' v d
  | _, _, .non => .non
  | _, _, .bl b => .bl b
  | _, _, .int i => .int i
  | _, _, .str x => .str x
  | _, _, .lst ha hd => .lst (m _ _ ha fun ps z => nomatch z) (de_extAll m hd)
  | _, _, .tup ha hd => .tup (m _ _ ha fun ps z => nomatch z) (de_extAll m hd)
  | _, _, .dic ha => .dic (m _ _ ha fun ps z => nomatch z)
theorem de_extAll {K : PySem.W.Frag} {H H' : Hp} (m : ExtN H H') : ∀ {ds : List PyData} {vs : List V}, DeAll K H vs ds → DeAll K H' vs ds
  | _, _, .nil => .nil
  | _, _, .cons h1 h2 => .cons (de_ext m h1) (de_extAll m h2)
end
end SK
namespace SK
open PySem PySem.Spec PyProof.Rows L2 LamX NdefX
open K0 (De DeAll XCl spX withX)
/-! ### the law's own look at a row -/
inductive Plain : PyData → Prop
  | non : Plain .none
  | bl (b : Bool) : Plain (.bool b)
  | zero : Plain (.int 0)
  | one : Plain (.int 1)
  | tr : Plain (.str "True")
def FitP (d : PyData) : Prop := ∀ a b c, elems d = [a, b, c] → Plain b ∧ Plain c
theorem plain_shown {d : PyData} (h : Plain d) : isB d = inV (.str d.shown) [.str "True", .str "False"] := by
  cases h with
  | bl b => cases b <;> decide +kernel
  | _ => decide +kernel
theorem plain_ok {d : PyData} (h : Plain d) : d.showable = true ∧ d.shown.length ≤ sizeLine := by
  cases h with
  | bl b => cases b <;> exact ⟨by decide +kernel, by decide +kernel⟩
  | _ => exact ⟨by decide +kernel, by decide +kernel⟩
section
variable {X : Cx}
/-- repr(x), x plain -/
def rRepP (K : PySem.W.Frag) : List V → Hp → VK → Prop := fun xs H Q => ∃ (v : V) (d : PyData), xs = [v] ∧ De K H v d ∧ Plain d ∧ Q (.str d.shown) H
theorem call_repP : CallR X (.builtin "repr") (rRepP X.K) := by
  intro pins s σ H xs us Q I r h
  obtain ⟨v, d, rfl, hd, hp, q⟩ := h
  obtain ⟨hsh, hz⟩ := plain_ok hp
  cases hd with
  | non =>
    obtain ⟨u, rfl, ru⟩ := vals1 r
    obtain rfl : u = Value.none := ru
    exact PySem.P.repr_of_none ⟨.str _, H, I.tok _, ⟨_, rfl⟩, q⟩
  | bl b =>
    obtain ⟨u, rfl, ru⟩ := vals1 r
    obtain rfl : u = Value.bool b := ru
    exact PySem.P.repr_of_bool ⟨.str _, H, I.tok _, ⟨_, rfl⟩, by cases b <;> exact q⟩
  | int i =>
    obtain ⟨u, rfl, t, rfl⟩ := vals1 r
    refine PySem.P.repr_of_int (by simpa [PyData.showable] using hsh) ⟨.str _, H, I.tok _, ⟨_, rfl⟩, q⟩
  | str x =>
    obtain ⟨u, rfl, t, rfl⟩ := vals1 r
    exact PySem.P.repr_of_str ⟨.str _, H, I.tok _, ⟨_, rfl⟩, q⟩ hz
  | _ => cases hp
end
end SK
namespace SK
open PySem PySem.Spec PyProof.Rows L2 LamX NdefX
open K0 (De DeAll XCl spX withX)
/-! ### sorted of data, any length -/
def rSortE {β : Type} (K : PySem.W.Frag) (ad : β → Addr) (enc : β → PyData) : List V → Hp → VK → Prop := fun xs H Q => ∃ (a : Addr) (bs : List β), xs = [.ref a] ∧ SqL K H a (bs.map fun b => V.ref (ad b)) ∧ (∀ b ∈ bs, De K H (.ref (ad b)) (enc b)) ∧ PySem.W.AllAlike (bs.map enc) ∧ PySem.W.Sortable (bs.map enc) ∧ (∀ b ∈ bs, (enc b).depth ≤ 8) ∧
  ∀ p, H p = none → Q (.ref p) (upd H p (.lst ((bs.mergeSort (PySem.W.dataLe false enc)).map fun b => V.ref (ad b))))
theorem each_of {β : Type} {ad : β → Addr} : ∀ {us : List Value} {bs : List β}, Vals (bs.map fun b => V.ref (ad b)) us → PySem.W.EachIs (fun v b => v = Value.ref (ad b)) us bs
  | [], [], _ => .nil
  | _ :: _, [], h => by cases h
  | [], _ :: _, h => by cases h
  | u :: us, b :: bs, h => by
    cases h with
    | cons h1 h2 => exact .cons h1 (each_of h2)
theorem each_to {β : Type} {ad : β → Addr} : ∀ {us : List Value} {bs : List β}, PySem.W.EachIs (fun v b => v = Value.ref (ad b)) us bs → Vals (bs.map fun b => V.ref (ad b)) us
  | _, _, .nil => .nil
  | _, _, .cons h1 h2 => .cons h1 (each_to h2)
theorem cr_sortE {X : Cx} {β : Type} {ad : β → Addr} {enc : β → PyData} (hu : X.A.units + 64 < cLine) (hsys : ∃ o, X.K.lookup sysModules = some o) : CallR X (.builtin "sorted") (rSortE X.K ad enc) := by
  intro pins s σ H xs us Q I r h
  obtain ⟨a, bs, rfl, hS, hd, hal, hk, hdp, q⟩ := h
  obtain ⟨u, rfl, ru⟩ := vals1 r
  obtain rfl : u = Value.ref a := ru
  obtain ⟨oS, hoS⟩ := hsys
  have hs : H sysModules = none := (I.bs _ _ (I.ok.mod.kin _ _ hoS)).2
  obtain ⟨its, rv, hl, hz⟩ := I.list hS
  rw [List.length_map] at hz
  have e := each_of rv
  have er : PySem.W.EachIs (fun v b => ∃ as, Reads s.heap v (enc b) as) its bs := by
    have z : ∀ {us : List Value} {cs : List β}, PySem.W.EachIs (fun v b => v = Value.ref (ad b)) us cs → (∀ b ∈ cs, De X.K H (.ref (ad b)) (enc b)) → PySem.W.EachIs (fun v b => ∃ as, Reads s.heap v (enc b) as) us cs := fun {us cs} ee => by
      induction ee with
      | nil => exact fun _ => .nil
      | cons h1 h2 ih =>
        intro hh
        obtain ⟨as, hr, _⟩ := K0.de_reads I hs _ _ _ (hh _ (by simp)) (show RelV (V.ref (ad _)) _ from h1)
        exact .cons ⟨as, hr⟩ (ih fun b hb => hh b (List.mem_cons_of_mem _ hb))
    exact z e hd
  refine PySem.W.sorted_data (R := fun v b => v = Value.ref (ad b)) hl.isList e er hal hk hz (fun b hb => by have := hdp b hb; omega) fun out ho eo => ?_
  obtain ⟨ep, he'⟩ := PyProof.Rows.sortedAll_at s.heap its out.toArray
  have hlen : ((bs.mergeSort (PySem.W.dataLe false enc)).map fun b => V.ref (ad b)).length ≤ sizeLine := by
    rw [List.length_map, List.length_mergeSort]
    exact hz
  exact ⟨.ref _, upd H (s.heap.objs.size + 1) (.lst ((bs.mergeSort (PySem.W.dataLe false enc)).map fun b => V.ref (ad b))), I.laid (t' := s.toks) (fun _ _ => PyProof.Rows.sortedAll_old) (Nat.le_succ _) ⟨hlen, _, ep, each_to eo, he'⟩, rfl, q _ (I.hok.fresh (Nat.le_succ _))⟩
/-! ### the two orders are one -/
def ranks (ls w : Str) : List Int := w.cps.toList.map fun c => (rankOf ls c : Nat)
def encW (ls w : Str) : PyData := .tuple [.list ((ranks ls w).map PyData.int), .str w]
theorem lt_map (f : Nat → Int) (g : Nat → Nat) (hfg : ∀ a b, f a < f b ↔ g a < g b) (he : ∀ a b, f a = f b ↔ g a = g b) : ∀ x y : List Nat, x.map f < y.map f ↔ x.map g < y.map g
  | [], [] => by simp
  | [], _ :: _ => by simp
  | _ :: _, [] => by simp
  | a :: x, b :: y => by
    rw [List.map_cons, List.map_cons, List.map_cons, List.map_cons, List.cons_lt_cons_iff, List.cons_lt_cons_iff, hfg a b, he a b, lt_map f g hfg he x y]
theorem eqv_ints : ∀ xs ys : List Int, PyData.eqvAll (xs.map PyData.int) (ys.map PyData.int) = decide (xs = ys)
  | [], [] => by simp [PyData.eqvAll]
  | [], _ :: _ => by simp [PyData.eqvAll]
  | _ :: _, [] => by simp [PyData.eqvAll]
  | x :: xs, y :: ys => by
    simp only [List.map_cons, PyData.eqvAll, PyData.eqv, eqv_ints xs ys]
    by_cases h : x = y <;> by_cases h2 : xs = ys <;> simp [h, h2]
theorem ranks_inj {ls : Str} : ∀ x y : List Nat, (∀ c ∈ x, c ∈ ls.cps.toList) → (∀ c ∈ y, c ∈ ls.cps.toList) → (x.map fun c => ((rankOf ls c : Nat) : Int)) = (y.map fun c => ((rankOf ls c : Nat) : Int)) → x = y
  | [], [], _, _, _ => rfl
  | [], _ :: _, _, _, h => by simp at h
  | _ :: _, [], _, _, h => by simp at h
  | a :: x, b :: y, hx, hy, h => by
    rw [List.map_cons, List.map_cons] at h
    injection h with h1 h2
    have e1 : rankOf ls a = rankOf ls b := by omega
    have ha : ls.cps.toList.idxOf a < ls.cps.toList.length := List.idxOf_lt_length_of_mem (hx a (by simp))
    have hb : ls.cps.toList.idxOf b < ls.cps.toList.length := List.idxOf_lt_length_of_mem (hy b (by simp))
    have e2 : a = b := by
      have z1 : ls.cps.toList[ls.cps.toList.idxOf a] = a := List.getElem_idxOf ha
      have z2 : ls.cps.toList[ls.cps.toList.idxOf b] = b := List.getElem_idxOf hb
      unfold rankOf at e1
      rw [← z1, ← z2]
      simp only [e1]
    rw [e2, ranks_inj x y (fun c hc => hx c (List.mem_cons_of_mem _ hc)) (fun c hc => hy c (List.mem_cons_of_mem _ hc)) h2]
theorem lt_same {ls x y : Str} (hx : OverL ls x) (hy : OverL ls y) : PySem.W.dataLt (encW ls x) (encW ls y) = PySem.W.dataLt (.str (keyW ls x)) (.str (keyW ls y)) := by
  unfold encW
  rw [PySem.W.dataLt_pair (by simp [PySem.W.alike, PySem.W.alike_ints]) (by simp [PySem.W.alike])]
  have ek2 : PySem.W.dataLt (.str (keyW ls x)) (.str (keyW ls y)) = decide ((keyW ls x).cps.toList < (keyW ls y).cps.toList) := PySem.W.dataLt_str _ _
  have ek : (keyW ls x).cps.toList < (keyW ls y).cps.toList ↔ ranks ls x < ranks ls y := by
    unfold keyW ranks
    rw [List.toList_toArray, List.toList_toArray]
    exact (lt_map (fun c => ((rankOf ls c : Nat) : Int)) (fun c => 97 + rankOf ls c) (fun a b => by omega) (fun a b => by omega) _ _).symm
  have el : PySem.W.dataLt (.list ((ranks ls x).map PyData.int)) (.list ((ranks ls y).map PyData.int)) = decide (ranks ls x < ranks ls y) := by
    rw [PySem.W.dataLt_list]
    exact PySem.W.dataLt_ints _ _
  have ee : PyData.eqv (.list ((ranks ls x).map PyData.int)) (.list ((ranks ls y).map PyData.int)) = decide (ranks ls x = ranks ls y) := by
    simp only [PyData.eqv]
    exact eqv_ints _ _
  rw [ee, el]
  by_cases h : ranks ls x = ranks ls y
  · have hxy : x = y := by
      have z := ranks_inj _ _ hx.2 hy.2 h
      obtain ⟨a⟩ := x
      obtain ⟨b⟩ := y
      have z : a = b := by simpa using z
      rw [z]
    subst hxy
    rw [if_pos (by simp)]
    have e1 : PyData.eqv (.str x) (.str x) = true := by simp [PyData.eqv]
    rw [if_pos e1]
    have irr : ¬ ((keyW ls x).cps.toList < (keyW ls x).cps.toList) := List.lt_irrefl _
    rw [ek2]
    exact (decide_eq_false irr).symm
  · rw [if_neg (by simp [h]), ek2]
    exact decide_eq_decide.mpr ek.symm
theorem sort_same {ls : Str} {ws : List Str} (h : ∀ y ∈ ws, OverL ls y) : ws.mergeSort (PySem.W.dataLe false (encW ls)) = sortW ls ws := by
  have z := List.map_mergeSort (r := PySem.W.dataLe false (encW ls)) (s := PySem.W.dataLe false fun x => .str (keyW ls x)) (f := id) (l := ws) (fun a ha b hb => by
    rw [PySem.W.dataLe_eq, PySem.W.dataLe_eq]
    show (!PySem.W.dataLt (encW ls b) (encW ls a)) = !PySem.W.dataLt (.str (keyW ls b)) (.str (keyW ls a))
    rw [lt_same (h b hb) (h a ha)])
  unfold sortW
  simpa using z
theorem before_idx (c : Nat) : ∀ (l : List Nat) (i : Nat), i < l.idxOf c → l[i]? ≠ some c
  | [], i, _ => by simp
  | a :: l, 0, h => by
    rw [List.idxOf_cons] at h
    intro z
    simp at z
    subst z
    simp at h
  | a :: l, i + 1, h => by
    rw [List.idxOf_cons] at h
    by_cases e : a = c
    · subst e
      simp at h
    · have e2 : (a == c) = false := by simpa using e
      rw [e2] at h
      simp only [cond_false] at h
      rw [List.getElem?_cons_succ]
      exact before_idx c l i (by omega)
theorem index_of {ls : Str} {c : Nat} (h : c ∈ ls.cps.toList) : ∃ r, Builtin.Str.occurrences ls ⟨#[c]⟩ 0 ls.length 1 = rankOf ls c :: r := by
  have hlt : ls.cps.toList.idxOf c < ls.cps.toList.length := List.idxOf_lt_length_of_mem h
  have hat : StrLaws.At ls ⟨#[c]⟩ ls.length (rankOf ls c) := (StrLaws.subAt_one ls c _).mpr (by
    unfold rankOf
    rw [List.getElem?_eq_getElem hlt, List.getElem_idxOf])
  rcases StrLaws.occ_head ls ⟨#[c]⟩ 1 (Nat.le_refl 1) with ⟨_, hn⟩ | ⟨i, r, e, hi, hn⟩
  · exact absurd hat (hn _)
  · have hi' : ls.cps.toList[i]? = some c := (StrLaws.subAt_one ls c i).mp hi
    have e1 : i = rankOf ls c := by
      rcases Nat.lt_trichotomy i (rankOf ls c) with z | z | z
      · exact absurd hi' (before_idx c _ i z)
      · exact z
      · exact absurd hat (hn _ z)
    exact ⟨r, by rw [e, e1]⟩
end SK
namespace SK
open PySem PySem.Spec PyProof.Rows L2 LamX NdefX
open K0 (De DeAll XCl spX withX)
/-! ### the law's own order -/
def asE : Stmt → Expr
  | .Assign _ e _ => e
  | _ => .Name "" ⟨0, 0, 0, 0⟩
def argE : Expr → Expr
  | .Call _ (a :: _) _ _ => a
  | e => e
def lcSc : Expr → Scope
  | .ListComp _ _ s _ => s
  | _ => { kind := .function, names := [], isGenerator := false, isCoroutine := false, more := [] }
def rSIdx : V → List V → Hp → VK → Prop := fun x xs H Q => ∃ a b i rest, x = .str a ∧ xs = [.str b] ∧ Builtin.Str.occurrences a b 0 a.length 1 = i :: rest ∧ Q (.int (i : Nat)) H
def teI (K : PySem.W.Frag) : TE := tBM K "str" rSIdx (tVar 0) (tCons (tVar 4) tNil)
def teW (K : PySem.W.Frag) : TE := tTup (tCons (tLc (iStr (tVar 3)) (gName 4) tYes (teI K) [4]) (tCons (tVar 3) tNil))
def spOrdL (K : PySem.W.Frag) : Sp := fun vs H Q _ => ∃ (ls : Str) (a : Addr) (ws : List Str), vs = [.str ls, .ref a] ∧ SqL K H a (ws.map V.str) ∧ (∀ y ∈ ws, OverL ls y) ∧ ws.length ≤ 5000 ∧
  ∀ (H' : Hp) (p : Addr), Same H H' → H p = none → H' p = some (.lst ((sortW ls ws).map V.str)) → Q (.ref p) H'
/-- the tuple at b.1 is that of the word b.2 -/
def TupW (ls : Str) (D : Addr) (H : Hp) (b : Addr × Str) : Prop := ∃ l : Addr, H b.1 = some (.tup [.ref l, .str b.2]) ∧ H l = some (.lst ((ranks ls b.2).map V.int)) ∧ b.1 ≠ D ∧ l ≠ D
theorem TupW.mono {ls : Str} {D : Addr} {H H' : Hp} {b : Addr × Str} (t : TupW ls D H b) (s : ∀ c o, c ≠ D → H c = some o → H' c = some o) : TupW ls D H' b := by
  obtain ⟨l, h1, h2, n1, n2⟩ := t
  exact ⟨l, s _ _ n1 h1, s _ _ n2 h2, n1, n2⟩
theorem de_ints {K : PySem.W.Frag} {H : Hp} : ∀ ns : List Int, DeAll K H (ns.map V.int) (ns.map PyData.int)
  | [] => .nil
  | n :: r => .cons (.int n) (de_ints r)
theorem TupW.de {K : PySem.W.Frag} {ls : Str} {D : Addr} {H : Hp} {b : Addr × Str} (t : TupW ls D H b) : De K H (.ref b.1) (encW ls b.2) := by
  obtain ⟨l, h1, h2, _, _⟩ := t
  exact .tup h1 (.cons (.lst h2 (de_ints _)) (.cons (.str _) .nil))
def relabelS (scope sc : Scope) : Scope :=
  { scope with names := scope.names.map fun (n, k) => if (k == .free && sc.kind == .function && sc.names.lookup n == some .cell) then (n, .cell) else (n, k) }
theorem blkOk_in {N : List Str} {env : Env} {sc lc scope : Scope} {own : List (Str × Nat)} (hs : env.scope = sc) (h : blkC N (relabelS lc sc) scope own = true) : BlkOk N (relabel lc env) scope own := by
  subst hs
  exact blkOk_by h
theorem depth_ints : ∀ ns : List Int, PyData.depthAll (ns.map PyData.int) = 0
  | [] => rfl
  | n :: r => by
    rw [List.map_cons]
    simp [PyData.depthAll, PyData.depth, depth_ints r]
theorem depth_encW (ls w : Str) : (encW ls w).depth ≤ 8 := by
  unfold encW
  simp [PyData.depth, PyData.depthAll, depth_ints]
theorem alike_encW {ls x y : Str} : PySem.W.alike (encW ls x) (encW ls y) = true := by
  simp [encW, PySem.W.alike, PySem.W.alikeAll, PySem.W.alike_ints]
section
variable {P : Program} {w : World} {K : PySem.W.Frag} {mg : Str → Option Value} {base : Heap} {f : Addr} {fd : FuncData}
theorem sc32 : FnScope ["letters", "words", "rows", "word", "letter", "row"] ["letters", "words"] (defScope (top 46)) := ⟨rfl, rfl, rfl, by decide +kernel, rfl, by decide +kernel, by decide +kernel⟩
theorem ok_ordL (F : Fun K "_law_in_order" "_law_in_order" (top 46) f fd) (gS : mg "sorted" = none) (hsys : ∃ o, K.lookup sysModules = some o) : FnOk P w K mg base CX0 1 f fd ["letters", "words"] (spOrdL K) := by
  refine F.ok sc32 (fun vs H Q E h => ?_) (fun cdv A outer s H vs Q E hr h => ?_)
  · obtain ⟨ls, a, ws, rfl, _⟩ := h
    rfl
  · obtain ⟨ls, a, ws, rfl, hS, hW, hz, k⟩ := h
    have hu64 := hr.units
    refine ⟨_, pss_cons (ps_set (i := 2) sc32.nd rfl (Or.inl rfl) (pe_callB (r := rSortE K Prod.fst fun b : Addr × Str => encW ls b.2) (cr_sortE hu64 hsys) (by rfl) gS PyProof.Rows.boot_sorted (pa_cons
        (pe_lc (own := [("word", 3)]) (g := gName 3) (tt := tYes) (te := teW K) rfl sc32.nd (pi_list (pv 1)) (blkOk_by (N := ["letters", "words", "rows", "word", "letter", "row"]) (sc := defScope (top 46)) (by decide +kernel))
          (fun _ _ _ _ _ => pg_name (i := 3) sc32.nd rfl (Or.inl rfl)) (fun _ _ _ _ _ => pts_nil)
          (fun _ _ _ _ _ => pe_tup (pa_cons (pe_lc (own := [("letter", 4)]) (g := gName 4) (tt := tYes) (te := teI K) rfl sc32.nd (pi_str (pv 3)) (blkOk_in (N := ["letters", "words", "rows", "word", "letter", "row"]) (sc := defScope (top 46)) (lc := lcSc (argE (asE ((defBody (top 46)).getD 0 (.Pass ⟨0, 0, 0, 0⟩))))) rfl (by decide +kernel))
            (fun _ _ _ _ _ => pg_name (i := 4) sc32.nd rfl (Or.inl rfl)) (fun _ _ _ _ _ => pts_nil)
            (fun _ _ _ _ _ => pe_bm PySem.F.plainAttrs_str PySem.F.slot_str_index PySem.F.type_str_index mt_sindex (pv 0) (pa_cons (pv 4) pa_nil))) (pa_cons (pv 3) pa_nil)))) pa_nil)))
      (pss_one (ps_ret (pe_lc (own := [("row", 5)]) (g := gName 5) (tt := tYes) (te := tOp (rIxT K) (tVar 5) (tC (.int 1))) rfl sc32.nd (pi_list (pv 2)) (blkOk_by (N := ["letters", "words", "rows", "word", "letter", "row"]) (sc := defScope (top 46)) (by decide +kernel))
          (fun _ _ _ _ _ => pg_name (i := 5) sc32.nd rfl (Or.inl rfl)) (fun _ _ _ _ _ => pts_nil) (fun _ _ _ _ _ => pe_ix ix_tup (pv 5) pe_int (fun _ _ => rfl))))), ?_⟩
    refine ⟨V.ref a, rfl, a, rfl, ⟨_, hS⟩, fun D nD => lc_list (K := K) (a := a) (xs := ws.map V.str) (fun i H1 => Same H H1 ∧ ∃ bs : List (Addr × Str), bs.map Prod.snd = ws.take i ∧ H1 D = some (.lst (bs.map fun b => V.ref b.1)) ∧ ∀ b ∈ bs, TupW ls D H1 b)
      ⟨upd_new nD, [], rfl, upd_same, fun b hb => absurd hb (by simp)⟩ (fun i H1 _ p => p.1.seq hS) ?_ ?_⟩
    · rintro i x H1 hi ⟨s1, bs, e1, d1, t1⟩
      obtain ⟨w, hw, rfl⟩ : ∃ w, ws[i]? = some w ∧ V.str w = x := by
        rw [List.getElem?_map] at hi
        cases q : ws[i]? with
        | none =>
          rw [q] at hi
          cases hi
        | some w =>
          rw [q] at hi
          exact ⟨w, rfl, Option.some.inj hi⟩
      have hlt : i < ws.length := by
        have z := List.getElem?_eq_some_iff.mp hw
        exact z.1
      obtain ⟨hw1, hw2⟩ := hW w (List.mem_of_getElem? hw)
      refine ⟨rfl, V.str w, rfl, w, rfl, fun D2 nD2 => lc_it walk_str (fun j H' => Same H1 H' ∧ H' D2 = some (.lst ((w.cps.toList.take j).map fun c => V.int (rankOf ls c : Nat)))) ⟨upd_new nD2, upd_same⟩ (fun _ _ _ _ => trivial) ?_ ?_⟩
      · rintro j y H4 H5 hj ⟨s4, h4⟩ ⟨rfl, cc, hcc, rfl⟩
        have z : w.cps.toList[j]? = some cc := by simpa using hcc
        have hm : cc ∈ w.cps.toList := List.mem_of_getElem? z
        have et : w.cps.toList.take (j + 1) = w.cps.toList.take j ++ [cc] := by
          rw [List.take_add_one, z]
          rfl
        obtain ⟨r, er⟩ := index_of (hw2 cc hm)
        refine ⟨rfl, V.str ls, rfl, rfl, V.str ⟨#[cc]⟩, rfl, ls, ⟨#[cc]⟩, _, r, rfl, rfl, er, _, h4, ?_, fun b o e => ?_, ?_⟩
        · rw [List.length_map, List.length_take]
          have z : (200 : Nat) < sizeLine := by decide
          omega
        · rw [upd_ne (ne_of_none e nD2)]
          exact s4 _ _ e
        · rw [et, List.map_append]
          exact upd_same
      · rintro H4 ⟨s4, h4⟩
        have e2 : w.cps.toList.take w.cps.size = w.cps.toList := List.take_of_length_le (by simp)
        rw [e2] at h4
        have e3 : (w.cps.toList.map fun c => V.int (rankOf ls c : Nat)) = (ranks ls w).map V.int := by
          unfold ranks
          rw [List.map_map]
          rfl
        rw [e3] at h4
        refine ⟨V.str w, rfl, (by show 2 ≤ sizeLine; decide), fun q nq => ⟨_, (upd_new nq) _ _ (s4 _ _ d1), ?_, ?_, bs ++ [(q, w)], ?_, ?_, ?_⟩⟩
        · have z : bs.length = i := by
            have z := congrArg List.length e1
            rw [List.length_map, List.length_take] at z
            omega
          rw [List.length_map]
          have z : (5000 : Nat) < sizeLine := by decide
          omega
        · exact fun b o e => by
            rw [upd_ne (ne_of_none e nD)]
            exact upd_new nq _ _ (s4 _ _ (s1 _ _ e))
        · rw [List.map_append, e1, List.take_add_one, hw]
          rfl
        · rw [List.map_append]
          exact upd_same
        · have nqD : q ≠ D := fun z => by
            rw [z, s4 _ _ d1] at nq
            cases nq
          have nDD : D2 ≠ D := fun z => by
            rw [z, d1] at nD2
            cases nD2
          intro b hb
          rcases List.mem_append.mp hb with hb | hb
          · exact (t1 b hb).mono fun c o hc e => by
              rw [upd_ne hc]
              exact upd_new nq _ _ (s4 _ _ e)
          · obtain rfl : b = (q, w) := by simpa using hb
            have nDq : D2 ≠ q := fun z => by
              rw [← z, h4] at nq
              cases nq
            refine ⟨D2, ?_, ?_, nqD, nDD⟩
            · rw [upd_ne nqD]
              exact upd_same
            · rw [upd_ne nDD, upd_ne nDq]
              exact h4
    rintro H1 ⟨s1, bs, e1, d1, t1⟩
    rw [List.length_map, List.take_length] at e1
    have hl : bs.length ≤ 5000 := by
      have z := congrArg List.length e1
      rw [List.length_map] at z
      omega
    refine ⟨D, bs, rfl, .inl (.inl d1), fun b hb => (t1 b hb).de, ?_, .inl ?_, fun b _ => depth_encW ls b.2, fun p np => ?_⟩
    · intro d hd d' hd'
      obtain ⟨b, _, rfl⟩ := List.mem_map.mp hd
      obtain ⟨b', _, rfl⟩ := List.mem_map.mp hd'
      exact alike_encW
    · intro d hd
      obtain ⟨b, _, rfl⟩ := List.mem_map.mp hd
      exact ⟨_, _, rfl⟩
    have ew : (bs.mergeSort (PySem.W.dataLe false fun b => encW ls b.2)).map Prod.snd = sortW ls ws := by
      have z := List.map_mergeSort (r := PySem.W.dataLe false fun b : Addr × Str => encW ls b.2) (s := PySem.W.dataLe false (encW ls)) (f := Prod.snd) (l := bs) (fun a _ b _ => by
        rw [PySem.W.dataLe_eq, PySem.W.dataLe_eq])
      rw [z, e1]
      exact sort_same hW
    have em : ∀ b ∈ bs.mergeSort (PySem.W.dataLe false fun b => encW ls b.2), b ∈ bs := fun b hb => (List.mergeSort_perm _ _).mem_iff.mp hb
    generalize bs.mergeSort (PySem.W.dataLe false fun b => encW ls b.2) = cs at ew em
    have el : cs.length ≤ 5000 := by
      have z := congrArg List.length ew
      rw [List.length_map] at z
      have z2 : (sortW ls ws).length = ws.length := List.length_mergeSort _
      omega
    have h2 : (upd H1 p (.lst (cs.map fun b => V.ref b.1))) p = some (.lst (cs.map fun b => V.ref b.1)) := upd_same
    have s2 : Same H1 (upd H1 p (.lst (cs.map fun b => V.ref b.1))) := upd_new np
    generalize upd H1 p (.lst (cs.map fun b => V.ref b.1)) = H2 at h2 s2
    refine ⟨V.ref p, rfl, p, rfl, ⟨_, .inl (.inl h2)⟩, fun D3 nD3 => lc_list (K := K) (a := p) (xs := cs.map fun b => V.ref b.1) (fun i H3 => Same H2 H3 ∧ H3 D3 = some (.lst ((cs.take i).map fun b => V.str b.2)))
      ⟨upd_new nD3, upd_same⟩ (fun i H3 _ q => .inl (.inl (q.1 _ _ h2))) ?_ ?_⟩
    · rintro i x H3 hi ⟨s3, d3⟩
      obtain ⟨b, hb, rfl⟩ : ∃ b, cs[i]? = some b ∧ V.ref b.1 = x := by
        rw [List.getElem?_map] at hi
        cases q : cs[i]? with
        | none =>
          rw [q] at hi
          cases hi
        | some b =>
          rw [q] at hi
          exact ⟨b, rfl, Option.some.inj hi⟩
      have hlt : i < cs.length := (List.getElem?_eq_some_iff.mp hb).1
      obtain ⟨l, t, _⟩ := t1 b (em b (List.mem_of_getElem? hb))
      refine ⟨rfl, V.ref b.1, rfl, b.1, _, 1, V.str b.2, rfl, rfl, .inl (.inl (s3 _ _ (s2 _ _ t))), rfl, _, d3, ?_, fun c o e => ?_, ?_⟩
      · rw [List.length_map, List.length_take]
        have z : (5000 : Nat) < sizeLine := by decide
        omega
      · rw [upd_ne (ne_of_none e nD3)]
        exact s3 _ _ e
      · rw [List.take_add_one, hb, List.map_append]
        exact upd_same
    · rintro H3 ⟨s3, d3⟩
      rw [List.length_map, List.take_length] at d3
      have e4 : (cs.map fun b => V.str b.2) = (sortW ls ws).map V.str := by
        rw [← ew, List.map_map]
        rfl
      rw [e4] at d3
      have nH : H D3 = none := by
        cases q : H D3 with
        | none => rfl
        | some o =>
          rw [s2 _ _ (s1 _ _ q)] at nD3
          cases nD3
      exact k H3 D3 ((s1.trans s2).trans s3) nH d3
end
end SK
namespace SK
open PySem PySem.Spec PyProof.Rows L2 LamX NdefX
open K0 (De DeAll XCl spX withX)
/-! ### the pen -/
def pen (l : Addr) (k lf : Int) : List (Key × V) := [(Sum.inr "cells", V.ref l), (Sum.inr "next", V.int k), (Sum.inr "left", V.int lf)]
theorem pen_cells (l : Addr) (k lf : Int) : valV (pen l k lf) (Sum.inr "cells") = some (.ref l) := by kernel_rfl
theorem pen_next (l : Addr) (k lf : Int) : valV (pen l k lf) (Sum.inr "next") = some (.int k) := by kernel_rfl
theorem pen_left (l : Addr) (k lf : Int) : valV (pen l k lf) (Sum.inr "left") = some (.int lf) := by kernel_rfl
theorem pen_put_next (l : Addr) (k lf j : Int) : putK (pen l k lf) (Sum.inr "next") (.int j) = pen l j lf := by kernel_rfl
theorem pen_put_left (l : Addr) (k lf j : Int) : putK (pen l k lf) (Sum.inr "left") (.int j) = pen l k j := by kernel_rfl
theorem pen_merge (l : Addr) (k lf : Int) : mergeK [] (pen l k lf) = pen l k lf := by kernel_rfl
structure PenAt (H : Hp) (p l : Addr) (ns : List Int) (k lf : Int) : Prop where
  dc : H p = some (.dK (pen l k lf))
  ls : H l = some (.lst (ns.map V.int))
/-- all but p is as it was -/
def SameBut (p : Addr) (H H' : Hp) : Prop := ∀ b o, b ≠ p → H b = some o → H' b = some o
theorem SameBut.trans {p : Addr} {H H1 H2 : Hp} (a : SameBut p H H1) (b : SameBut p H1 H2) : SameBut p H H2 := fun c o n h => b c o n (a c o n h)
theorem SameBut.of {p : Addr} {H H' : Hp} (a : Same H H') : SameBut p H H' := fun c o _ h => a c o h
theorem cut63 {ns : List Int} (h : ns.length ≤ 63) : cutV (ns.map V.int) none (some 63) = ns.map V.int := by
  unfold cutV
  rw [HT.sIx_none, show ((63 : Int)) = ((63 : Nat) : Int) from rfl, HT.sIx_nat, List.drop_zero, List.length_map, Nat.min_eq_right h, Nat.sub_zero, List.take_of_length_le (by rw [List.length_map]; exact Nat.le_refl _)]
def spPen (K : PySem.W.Frag) : Sp := fun vs H Q _ => ∃ (a : Addr) (ns : List Int), vs = [.ref a] ∧ SqL K H a (ns.map V.int) ∧ ns.length ≤ 63 ∧ ∀ (H' : Hp) (p l : Addr), Same H H' → PenAt H' p l ns 0 0 → Q (.ref p) H'
section
variable {P : Program} {w : World} {K : PySem.W.Frag} {mg : Str → Option Value} {base : Heap} {f : Addr} {fd : FuncData}
theorem scPen : FnScope ["script"] ["script"] (defScope (top 40)) := ⟨rfl, rfl, rfl, by decide +kernel, rfl, by decide +kernel, by decide +kernel⟩
theorem ok_pen (F : Fun K "_law_pen_of" "_law_pen_of" (top 40) f fd) (gL : mg "list" = none) : FnOk P w K mg base CX0 1 f fd ["script"] (spPen K) := by
  refine F.ok scPen (fun vs H Q E h => ?_) (fun cdv A outer s H vs Q E hr h => ?_)
  · obtain ⟨a, ns, rfl, _⟩ := h
    rfl
  · obtain ⟨a, ns, rfl, hS, hn, k⟩ := h
    refine ⟨_, pss_one (ps_ret (pe_disp (pps_cons pe_str (pe_callTy call_list_of (by rfl) gL PyProof.Rows.boot_list (pa_cons (pe_slice sl_list (pv 0) po_none (po_some pe_int)) pa_nil)) (pps_cons pe_str pe_int (pps_cons pe_str pe_int pps_nil))) rfl rfl (by simp) (by decide))), ?_⟩
    intro p hp
    refine ⟨_, rfl, 63, rfl, a, ns.map V.int, rfl, ?_, fun q hq => ?_⟩
    · exact Same.seq (fun b o e => by rw [upd_ne (ne_of_none e hp)]; exact e) hS
    rw [cut63 hn]
    refine ⟨q, ns.map V.int, rfl, .inl (.inl (.inl upd_same)), fun l hl => ?_⟩
    have npq : p ≠ q := ne_of_none (H := upd H p (.dK [])) upd_same hq
    have npl : p ≠ l := ne_of_none (H := upd (upd H p (.dK [])) q (.lst (ns.map V.int))) (by rw [upd_ne npq, upd_same]) hl
    refine ⟨by rw [upd_ne npl, upd_ne npq, upd_same], pen l 0 0, rfl, (by show 3 ≤ 15; decide), ?_⟩
    rw [pen_merge]
    refine k _ p l (fun b o e => ?_) ⟨upd_same, ?_⟩
    · have n1 : b ≠ p := ne_of_none e hp
      have e1 : upd H p (.dK []) b = some o := by rw [upd_ne n1]; exact e
      have n2 : b ≠ q := ne_of_none e1 hq
      have e2 : upd (upd H p (.dK [])) q (.lst (ns.map V.int)) b = some o := by rw [upd_ne n2]; exact e1
      have n3 : b ≠ l := ne_of_none e2 hl
      rw [upd_ne n1, upd_ne n3]
      exact e2
    · rw [upd_ne npl.symm, upd_same]
theorem upd_but {p : Addr} {o : HO} (H : Hp) : SameBut p H (upd H p o) := fun c u n h => by
  rw [upd_ne n]
  exact h
/-- the draw: a number below the base; the pen's numbers may change -/
def spDraw : Sp := fun vs H Q _ => ∃ (p l : Addr) (ns : List Int) (k lf b : Int), vs = [.ref p, .int b] ∧ PenAt H p l ns k lf ∧ ns.length ≤ 63 ∧ 0 ≤ k ∧ k ≤ 100000 ∧ 0 ≤ lf ∧ 0 < b ∧ b ≤ 1000 ∧
  ∀ (H' : Hp) (k' lf' d : Int), k' ≤ k + 1 → 0 ≤ k' → 0 ≤ lf' → 0 ≤ d → d < b → SameBut p H H' → PenAt H' p l ns k' lf' → Q (.int d) H'
theorem scD : FnScope ["pen", "many", "digit", "index", "size", "cell", "mixed"] ["pen", "many"] (defScope (top 41)) := ⟨rfl, rfl, rfl, by decide +kernel, rfl, by decide +kernel, by decide +kernel⟩
theorem ok_draw (F : Fun K "_law_draw" "_law_draw" (top 41) f fd) (gI : mg "int" = none) (gN : mg "len" = none) (gA : mg "abs" = none) : FnOk P w K mg base CX0 1 f fd ["pen", "many"] spDraw := by
  refine F.ok scD (fun vs H Q E h => ?_) (fun cdv A outer s H vs Q E hr h => ?_)
  · obtain ⟨p, l, ns, k, lf, b, rfl, _⟩ := h
    rfl
  · obtain ⟨p, l, ns, k, lf, b, rfl, ⟨hd, hl⟩, hn, hk0, hk1, hf, hb0, hb1, kk⟩ := h
    have hu := hu_of hr
    have hu64 := hr.units
    refine ⟨_, pss_cons (ps_if (pt_cmpR op_gt (pe_dget hu (pv 0) pe_str (fun _ _ => rfl)) pe_int (nomark _)) (pss_cons (ps_set (i := 2) scD.nd rfl (Or.inl rfl) (pe_op op_mod (pe_callTy call_int1 (by rfl) gI PyProof.Rows.boot_int (pa_cons (pe_dget hu (pv 0) pe_str (fun _ _ => rfl)) pa_nil)) (pv 1))) (pss_cons (ps_dput hu (pv 0) pe_str (pe_op op_fdiv (pe_dget hu (pv 0) pe_str (fun _ _ => rfl)) (pv 1)) rfl) (pss_one (ps_ret (pv 2))))) pss_nil)
      (pss_cons (ps_par (i := 3) (j := 4) rfl scD.nd rfl rfl (by decide) rfl rfl (pa_cons (pe_dget hu (pv 0) pe_str (fun _ _ => rfl)) (pa_cons (pe_callB call_len_seq (by rfl) gN PySem.boot_len (pa_cons (pe_dget hu (pv 0) pe_str (fun _ _ => rfl)) pa_nil)) pa_nil)) rfl)
      (pss_cons (ps_dput hu (pv 0) pe_str (pe_op op_add (pv 3) pe_int) rfl)
      (pss_cons (ps_if (pt_cmpR op_eq (pv 4) pe_int (nomark _)) (pss_one (ps_ret (pe_op op_mod (pe_callTy call_int1 (by rfl) gI PyProof.Rows.boot_int (pa_cons (pe_op op_add (pe_op op_mul pe_int (pv 3)) pe_int) pa_nil)) (pv 1)))) pss_nil)
      (pss_cons (ps_set (i := 5) scD.nd rfl (Or.inl rfl) (pe_ix ix_list (pe_dget hu (pv 0) pe_str (fun _ _ => rfl)) (pe_op op_mod (pe_callTy call_int1 (by rfl) gI PyProof.Rows.boot_int (pa_cons (pv 3) pa_nil)) (pv 4)) (fun _ _ => rfl)))
      (pss_cons (ps_if ((pw_and (pt_cmpR op_lt (pv 3) (pv 4) (nomark _)) (pw_and1 (pt_cmpR op_ge (pe_callB call_abs (by rfl) gA PyProof.Rows.boot_abs (pa_cons (pv 5) pa_nil)) (pe_op op_pow pe_int pe_int) (nomark _)))).pt)
        (pss_cons (ps_dput hu (pv 0) pe_str (pe_op op_fdiv (pe_op op_sub (pe_callB call_abs (by rfl) gA PyProof.Rows.boot_abs (pa_cons (pv 5) pa_nil)) (pe_op op_pow pe_int pe_int)) (pv 1)) rfl) (pss_one (ps_ret (pe_op op_mod (pe_callTy call_int1 (by rfl) gI PyProof.Rows.boot_int (pa_cons (pe_op op_sub (pe_callB call_abs (by rfl) gA PyProof.Rows.boot_abs (pa_cons (pv 5) pa_nil)) (pe_op op_pow pe_int pe_int)) pa_nil)) (pv 1))))) pss_nil)
      (pss_cons (ps_set (i := 6) scD.nd rfl (Or.inl rfl) (pe_op op_add (pe_op op_mul (pe_op op_mod (pe_callTy call_int1 (by rfl) gI PyProof.Rows.boot_int (pa_cons (pv 5) pa_nil)) pe_int) pe_int) (pe_op op_mul (pe_op op_mul pe_int (pv 3)) (pv 3))))
      (pss_cons (ps_set (i := 6) scD.nd rfl (Or.inl rfl) (pe_op op_mod (pe_callTy call_int1 (by rfl) gI PyProof.Rows.boot_int (pa_cons (pe_op op_add (pe_op op_add (pv 6) (pe_op op_mul pe_int (pv 3))) pe_int) pa_nil)) pe_int))
      (pss_cons (ps_set (i := 6) scD.nd rfl (Or.inl rfl) (pe_op op_mod (pe_callTy call_int1 (by rfl) gI PyProof.Rows.boot_int (pa_cons (pe_op op_add (pe_op op_add (pe_op op_add (pe_op op_mul (pv 6) (pv 6)) (pe_op op_mul pe_int (pv 6))) (pe_op op_mul pe_int (pv 3))) pe_int) pa_nil)) pe_int))
      (pss_one (ps_ret (pe_op op_mod (pe_callTy call_int1 (by rfl) gI PyProof.Rows.boot_int (pa_cons (pe_op op_fdiv (pe_op op_mod (pe_callTy call_int1 (by rfl) gI PyProof.Rows.boot_int (pa_cons (pe_op op_mul (pv 6) (pe_op op_add (pv 6) pe_int)) pa_nil)) pe_int) pe_int) pa_nil)) (pv 1)))))))))))), ?_⟩
    have npl : p ≠ l := ne_of hd hl (by intro z; cases z)
    have gL : DGet H p (.str "left") (some (.int lf)) := by
      have z := DGet.k (k := Sum.inr "left") hd
      rw [pen_left] at z
      exact z
    have gO : DGet H p (.str "next") (some (.int k)) := by
      have z := DGet.k (k := Sum.inr "next") hd
      rw [pen_next] at z
      exact z
    have gC : DGet H p (.str "cells") (some (.ref l)) := by
      have z := DGet.k (k := Sum.inr "cells") hd
      rw [pen_cells] at z
      exact z
    have hlen : (ns.map V.int).length = ns.length := List.length_map _
    refine ⟨V.ref p, rfl, p, V.int lf, rfl, gL, lf, 0, rfl, rfl, _, rfl, ?_⟩
    refine ite2 (fun c => ?_) (fun c => ?_)
    · have c' : 0 < lf := of_decide_eq_true c
      refine ⟨V.ref p, rfl, p, V.int lf, rfl, gL, .inl ⟨lf, rfl, V.int b, rfl, lf, b, rfl, rfl, hb0, ?_⟩⟩
      refine ⟨V.ref p, rfl, p, V.int lf, rfl, gL, V.int b, rfl, lf, b, rfl, rfl, ⟨hb0, by omega⟩, V.ref p, rfl, p, _, rfl, DPut.k (k := Sum.inr "left") hd (by show 3 < sizeLine; decide), V.int (lf % b), rfl, ?_⟩
      rw [pen_put_left]
      exact kk _ k (lf / b) (lf % b) (by omega) hk0 (Int.ediv_nonneg hf (Int.le_of_lt hb0)) (Int.emod_nonneg _ (by omega)) (Int.emod_lt_of_pos _ hb0) (upd_but H) ⟨upd_same, by rw [upd_ne npl.symm]; exact hl⟩
    · refine ⟨V.ref p, rfl, p, V.int k, rfl, gO, V.ref p, rfl, p, V.ref l, rfl, gC, l, ns.map V.int, rfl, .inl (.inl (.inl hl)), V.int k, V.int (ns.length : Nat), by rw [hlen], ?_⟩
      refine ⟨V.int k, rfl, k, 1, rfl, rfl, V.ref p, rfl, p, _, rfl, DPut.k (k := Sum.inr "next") hd (by show 3 < sizeLine; decide), ?_⟩
      rw [pen_put_next]
      have s1 : SameBut p H (upd H p (.dK (pen l (k + 1) lf))) := upd_but H
      have hd1 : upd H p (.dK (pen l (k + 1) lf)) p = some (.dK (pen l (k + 1) lf)) := upd_same
      have hl1 : upd H p (.dK (pen l (k + 1) lf)) l = some (.lst (ns.map V.int)) := by
        rw [upd_ne npl.symm]
        exact hl
      generalize upd H p (.dK (pen l (k + 1) lf)) = H2 at s1 hd1 hl1
      have gC2 : DGet H2 p (.str "cells") (some (.ref l)) := by
        have z := DGet.k (k := Sum.inr "cells") hd1
        rw [pen_cells] at z
        exact z
      have S2 : SqL K H2 l (ns.map V.int) := .inl (.inl hl1)
      refine ⟨V.int (ns.length : Nat), rfl, rfl, _, rfl, ?_⟩
      refine ite2 (fun c2 => ?_) (fun c2 => ?_)
      · refine ⟨V.int k, rfl, 7, k, rfl, rfl, .inl ⟨by decide, by decide⟩, _, 3, rfl, rfl, .inl ⟨_, rfl, V.int b, rfl, _, b, rfl, rfl, hb0, ?_⟩⟩
        exact kk H2 (k + 1) lf _ (Int.le_refl _) (by omega) hf (Int.emod_nonneg _ (by omega)) (Int.emod_lt_of_pos _ hb0) s1 ⟨hd1, hl1⟩
      have hne : 0 < ns.length := by
        rcases Nat.eq_zero_or_pos ns.length with z | z
        · rw [z] at c2
          exact absurd (decide_eq_true rfl) c2
        · exact z
      have hi0 : 0 ≤ k % (ns.length : Int) := Int.emod_nonneg _ (by omega)
      have hi1 : k % (ns.length : Int) < (ns.length : Int) := Int.emod_lt_of_pos _ (by omega)
      obtain ⟨j, hj⟩ : ∃ j : Nat, k % (ns.length : Int) = (j : Int) := ⟨(k % (ns.length : Int)).toNat, (Int.toNat_of_nonneg hi0).symm⟩
      obtain ⟨c, hc⟩ : ∃ c, ns[j]? = some c := ⟨_, List.getElem?_eq_getElem (by omega)⟩
      have hcV : (ns.map V.int)[j]? = some (.int c) := by
        rw [List.getElem?_map, hc]
        all_goals rfl
      refine ⟨V.ref p, rfl, p, V.ref l, rfl, gC2, V.int k, rfl, .inl ⟨k, rfl, V.int (ns.length : Nat), rfl, k, _, rfl, rfl, (by omega), l, ns.map V.int, _, .int c, rfl, rfl, S2, at_of hj hcV, ?_⟩⟩
      refine ⟨V.int k, rfl, V.int (ns.length : Nat), rfl, k, _, rfl, rfl, _, rfl, ?_⟩
      refine ite2 (fun c3 => ?_) (fun c3 => iteF ?_)
      refine ⟨V.int c, rfl, c, rfl, 10, 18, rfl, rfl, ⟨by decide, by decide, by decide⟩, _, _, rfl, rfl, _, rfl, ?_⟩
      refine ite2 (fun c4 => ?_) (fun c4 => ?_)
      · have c4' := of_decide_eq_true c4
        refine ⟨V.int c, rfl, c, rfl, 10, 18, rfl, rfl, ⟨by decide, by decide, by decide⟩, _, _, rfl, rfl, V.int b, rfl, _, b, rfl, rfl, ⟨hb0, by omega⟩, V.ref p, rfl, p, _, rfl, DPut.k (k := Sum.inr "left") hd1 (by show 3 < sizeLine; decide), ?_⟩
        rw [pen_put_left]
        refine ⟨V.int c, rfl, c, rfl, 10, 18, rfl, rfl, ⟨by decide, by decide, by decide⟩, _, _, rfl, rfl, .inl ⟨_, rfl, V.int b, rfl, _, b, rfl, rfl, hb0, ?_⟩⟩
        exact kk _ (k + 1) _ _ (Int.le_refl _) (by omega) (Int.ediv_nonneg (by omega) (Int.le_of_lt hb0)) (Int.emod_nonneg _ (by omega)) (Int.emod_lt_of_pos _ hb0) (s1.trans (upd_but H2)) ⟨upd_same, by rw [upd_ne npl.symm]; exact hl1⟩
      all_goals
        refine ⟨V.int c, rfl, .inl ⟨c, rfl, c, 4294967197, rfl, rfl, (by show (0 : Int) < 4294967197; decide), _, 52711, rfl, rfl, .inr ⟨by decide, by decide⟩, ?_⟩⟩
        refine ⟨V.int k, rfl, 20353, k, rfl, rfl, .inl ⟨by decide, by decide⟩, V.int k, rfl, _, k, rfl, rfl, .inr ⟨by omega, by omega⟩, _, _, rfl, rfl, ?_⟩
        dsimp only
        generalize (c % 4294967197 * 52711 + 20353 * k * k) = e
        refine ⟨V.int e, rfl, V.int k, rfl, 1531, k, rfl, rfl, .inl ⟨by decide, by decide⟩, _, _, rfl, rfl, _, 11, rfl, rfl, .inl ⟨_, rfl, _, 4294967189, rfl, rfl, (by show (0 : Int) < 4294967189; decide), ?_⟩⟩
        dsimp only
        have a0 : 0 ≤ (e + 1531 * k + 11) % 4294967189 := Int.emod_nonneg _ (by decide)
        have a1 : (e + 1531 * k + 11) % 4294967189 < 4294967189 := Int.emod_lt_of_pos _ (by decide)
        generalize (e + 1531 * k + 11) % 4294967189 = m at a0 a1
        refine ⟨V.int m, rfl, V.int m, rfl, m, m, rfl, rfl, .inl ⟨by omega, by omega⟩, V.int m, rfl, 68903, m, rfl, rfl, .inl ⟨by decide, by decide⟩, _, _, rfl, rfl, ?_⟩
        refine ⟨V.int k, rfl, 23, k, rfl, rfl, .inl ⟨by decide, by decide⟩, _, _, rfl, rfl, _, 7, rfl, rfl, .inl ⟨_, rfl, _, 4294967161, rfl, rfl, (by show (0 : Int) < 4294967161; decide), ?_⟩⟩
        dsimp only
        have b0' : 0 ≤ (m * m + 68903 * m + 23 * k + 7) % 4294967161 := Int.emod_nonneg _ (by decide)
        have b1' : (m * m + 68903 * m + 23 * k + 7) % 4294967161 < 4294967161 := Int.emod_lt_of_pos _ (by decide)
        generalize (m * m + 68903 * m + 23 * k + 7) % 4294967161 = u at b0' b1'
        refine ⟨V.int u, rfl, V.int u, rfl, u, 57037, rfl, rfl, u, _, rfl, rfl, .inl ⟨by omega, by omega⟩, .inl ⟨_, rfl, _, 4294967143, rfl, rfl, (by show (0 : Int) < 4294967143; decide), _, 64, rfl, rfl, ⟨by decide, by decide⟩, .inl ⟨_, rfl, V.int b, rfl, _, b, rfl, rfl, hb0, ?_⟩⟩⟩
        exact kk H2 (k + 1) lf _ (Int.le_refl _) (by omega) hf (Int.emod_nonneg _ (by omega)) (Int.emod_lt_of_pos _ hb0) s1 ⟨hd1, hl1⟩
end
end SK
namespace SK
open PySem PySem.Spec PyProof.Rows L2 LamX NdefX
open K0 (De DeAll XCl spX withX)
/-! ### one of some things -/
theorem IxR.or {X : Cx} {r1 r2 : R2} (h1 : IxR X r1) (h2 : IxR X r2) : IxR X (fun x y H Q => r1 x y H Q ∨ r2 x y H Q) := by
  intro value slice pins s σ H x y v u Q I rx ry h hs
  rcases h with h | h
  · exact h1 value slice pins s σ H x y v u Q I rx ry h hs
  · exact h2 value slice pins s σ H x y v u Q I rx ry h hs
theorem CallR.or {X : Cx} {f : Value} {r1 r2 : List V → Hp → VK → Prop} (h1 : CallR X f r1) (h2 : CallR X f r2) : CallR X f (fun xs H Q => r1 xs H Q ∨ r2 xs H Q) := by
  intro pins s σ H xs us Q I r h
  rcases h with h | h
  · exact h1 pins s σ H xs us Q I r h
  · exact h2 pins s σ H xs us Q I r h
/-- a list or a text, and what stands in it -/
def Items (H : Hp) (v : V) (xs : List V) : Prop := (∃ a, v = .ref a ∧ H a = some (.lst xs)) ∨ ∃ z : Str, v = .str z ∧ xs = z.cps.toList.map fun c => V.str ⟨#[c]⟩
def spPick : Sp := fun vs H Q _ => ∃ (p l : Addr) (v : V) (ns : List Int) (k lf : Int) (xs : List V), vs = [.ref p, v] ∧ PenAt H p l ns k lf ∧ ns.length ≤ 63 ∧ 0 ≤ k ∧ k ≤ 100000 ∧ 0 ≤ lf ∧ Items H v xs ∧ 0 < xs.length ∧ xs.length ≤ 1000 ∧
  ∀ (H' : Hp) (k' lf' : Int) (y : V), k' ≤ k + 1 → 0 ≤ k' → 0 ≤ lf' → y ∈ xs → SameBut p H H' → PenAt H' p l ns k' lf' → Q y H'
section
variable {P : Program} {w : World} {K : PySem.W.Frag} {mg : Str → Option Value} {base : Heap} {f fD fP : Addr} {fd fdD fdP : FuncData}
theorem sc28 : FnScope ["pen", "items"] ["pen", "items"] (defScope (top 42)) := ⟨rfl, rfl, rfl, by decide +kernel, rfl, by decide +kernel, by decide +kernel⟩
theorem ok_pick (F : Fun K "_law_pick" "_law_pick" (top 42) f fd) (gN : mg "len" = none) (gD : mg "_law_draw" = some (.ref fD)) (kD : PySem.W.keepIn K (.ref fD) = true) (GD : FnOk P w K mg base CX0 1 fD fdD ["pen", "many"] spDraw)
    (bD : Binds K fdD ["pen", "many"] []) : FnOk P w K mg base CX0 2 f fd ["pen", "items"] spPick := by
  refine F.ok sc28 (fun vs H Q E h => ?_) (fun cdv A outer s H vs Q E hr h => ?_)
  · obtain ⟨p, l, v, ns, k, lf, xs, rfl, _⟩ := h
    rfl
  · obtain ⟨p, l, v, ns, k, lf, xs, rfl, hp, hn, hk0, hk1, hf, hv, h0, h1, kk⟩ := h
    refine ⟨_, pss_one (ps_ret (pe_ix (IxR.or ix_list ix_str) (pv 1) (pe_call GD hr (by rfl) gD kD bD .nil pass0 (pa_cons (pv 0) (pa_cons (pe_callB (CallR.or call_len_seq call_len_str) (by rfl) gN PySem.boot_len (pa_cons (pv 1) pa_nil)) pa_nil))) (fun _ _ => rfl))), ?_⟩
    rcases hv with ⟨a, rfl, ha⟩ | ⟨z, rfl, rfl⟩
    · have nap : a ≠ p := ne_of ha hp.dc (by intro z; cases z)
      refine ⟨V.ref a, rfl, V.ref p, rfl, V.ref a, rfl, .inl ⟨a, xs, rfl, .inl (.inl (.inl ha)), p, l, ns, k, lf, _, rfl, hp, hn, hk0, hk1, hf, by omega, by omega, fun H' k' lf' d e1 e2 e3 e4 e5 s5 P5 => ?_⟩⟩
      obtain ⟨j, hj⟩ : ∃ j : Nat, d = (j : Int) := ⟨d.toNat, (Int.toNat_of_nonneg e4).symm⟩
      obtain ⟨v, hv⟩ : ∃ v, xs[j]? = some v := ⟨_, List.getElem?_eq_getElem (by omega)⟩
      exact .inl ⟨a, xs, d, v, rfl, rfl, .inl (.inl (s5 _ _ nap ha)), at_of hj hv, kk H' k' lf' v e1 e2 e3 (List.mem_of_getElem? hv) s5 P5⟩
    · rw [List.length_map] at h0 h1
      have ez : z.length = z.cps.toList.length := by rw [Array.length_toList]; rfl
      have hz : z.length ≤ sizeLine := by
        have t : (1000 : Nat) < sizeLine := by decide
        omega
      refine ⟨V.str z, rfl, V.ref p, rfl, V.str z, rfl, .inr ⟨z, rfl, hz, p, l, ns, k, lf, _, rfl, hp, hn, hk0, hk1, hf, by omega, by omega, fun H' k' lf' d e1 e2 e3 e4 e5 s5 P5 => ?_⟩⟩
      obtain ⟨j, hj⟩ : ∃ j : Nat, d = (j : Int) := ⟨d.toNat, (Int.toNat_of_nonneg e4).symm⟩
      obtain ⟨c, hc⟩ : ∃ c, z.cps.toList[j]? = some c := ⟨_, List.getElem?_eq_getElem (by omega)⟩
      exact .inr ⟨z, d, c, rfl, rfl, hz, (by rw [hj]; exact atI_nat hc), kk H' k' lf' _ e1 e2 e3 (List.mem_map.mpr ⟨c, List.mem_of_getElem? hc, rfl⟩) s5 P5⟩
def six : List Str := ["ab", "ba", "cab", "zyxw", "qa", "abcdefghijklmnopqrstuvwxyz"]
def spSix : Sp := fun vs H Q _ => ∃ (p l : Addr) (ns : List Int) (k lf : Int), vs = [.ref p] ∧ PenAt H p l ns k lf ∧ ns.length ≤ 63 ∧ 0 ≤ k ∧ k ≤ 100000 ∧ 0 ≤ lf ∧
  ∀ (H' : Hp) (k' lf' : Int) (x : Str), k' ≤ k + 1 → 0 ≤ k' → 0 ≤ lf' → x ∈ six → SameBut p H H' → PenAt H' p l ns k' lf' → Q (.str x) H'
theorem sc30 : FnScope ["pen"] ["pen"] (defScope (top 44)) := ⟨rfl, rfl, rfl, by decide +kernel, rfl, by decide +kernel, by decide +kernel⟩
theorem ok_six (F : Fun K "_law_letters_of" "_law_letters_of" (top 44) f fd) (gP : mg "_law_pick" = some (.ref fP)) (kP : PySem.W.keepIn K (.ref fP) = true) (GP : FnOk P w K mg base CX0 2 fP fdP ["pen", "items"] spPick)
    (bP : Binds K fdP ["pen", "items"] []) : FnOk P w K mg base CX0 3 f fd ["pen"] spSix := by
  refine F.ok sc30 (fun vs H Q E h => ?_) (fun cdv A outer s H vs Q E hr h => ?_)
  · obtain ⟨p, l, ns, k, lf, rfl, _⟩ := h
    rfl
  · obtain ⟨p, l, ns, k, lf, rfl, hp, hn, hk0, hk1, hf, kk⟩ := h
    refine ⟨_, pss_one (ps_ret (pe_call GP hr (by rfl) gP kP bP .nil pass0 (pa_cons (pv 0) (pa_cons (pe_lst (pa_cons pe_str (pa_cons pe_str (pa_cons pe_str (pa_cons pe_str (pa_cons pe_str (pa_cons pe_str pa_nil))))))) pa_nil)))), ?_⟩
    refine ⟨V.ref p, rfl, (by show 6 ≤ sizeLine; decide), fun a na => ?_⟩
    refine ⟨p, l, .ref a, ns, k, lf, six.map V.str, rfl, ⟨upd_new na _ _ hp.dc, upd_new na _ _ hp.ls⟩, hn, hk0, hk1, hf, .inl ⟨a, rfl, upd_same⟩, by decide, by decide, fun H' k' lf' y e1 e2 e3 hy s5 P5 => ?_⟩
    obtain ⟨x, hx, rfl⟩ := List.mem_map.mp hy
    exact kk H' k' lf' x e1 e2 e3 hx ((SameBut.of (upd_new na)).trans s5) P5
end
end SK
namespace SK
open PySem PySem.Spec PyProof.Rows L2 LamX NdefX
open K0 (De DeAll XCl spX withX)
/-! ### in a drawn order -/
def IsRw (H : Hp) (x : V) : Prop := ∃ (t : Addr) (w : Str) (b c : Bool), x = .ref t ∧ H t = some (.tup [.str w, .bl b, .bl c]) ∧ w.cps.size ≤ 200 ∧ PyData.strOk w = true
theorem IsRw.mono {H H' : Hp} {x : V} {p : Addr} {kv : List (Key × V)} (h : IsRw H x) (hp : H p = some (.dK kv)) (s : SameBut p H H') : IsRw H' x := by
  obtain ⟨t, w, b, c, rfl, ht, hw⟩ := h
  exact ⟨t, w, b, c, rfl, s _ _ (ne_of ht hp (by intro z; cases z)) ht, hw⟩
def rwD : PyData → Prop := fun d => ∃ (w : Str) (b c : Bool), d = .tuple [.str w, .bool b, .bool c] ∧ w.cps.size ≤ 200 ∧ PyData.strOk w = true
theorem rw_data {K : PySem.W.Frag} {H : Hp} : ∀ {zs : List V}, (∀ z ∈ zs, IsRw H z) → ∃ ds, DpAll K H zs ds ∧ (∀ d ∈ ds, rwD d) ∧ ds.length = zs.length
  | [], _ => ⟨[], .nil, fun d h => absurd h (by simp), rfl⟩
  | z :: zs, h => by
    obtain ⟨ds, h1, h2, h3⟩ := rw_data (K := K) (zs := zs) fun y hy => h y (List.mem_cons_of_mem _ hy)
    obtain ⟨t, w, b, c, rfl, ht, hw⟩ := h z (by simp)
    refine ⟨.tuple [.str w, .bool b, .bool c] :: ds, .cons (.tup (.inl (.inl ht)) (.cons (.str w) (.cons (.bl b) (.cons (.bl c) .nil)))) h1, fun d hd => ?_, congrArg Nat.succ h3⟩
    rcases List.mem_cons.mp hd with rfl | hd
    · exact ⟨w, b, c, rfl, hw⟩
    · exact h2 d hd
theorem rw_lay : ∀ {ds : List PyData}, (∀ d ∈ ds, rwD d) → PyData.canLayAll0 ds = true ∧ PyData.depthAll ds ≤ 1
  | [], _ => ⟨by simp [PyData.canLayAll0], by simp [PyData.depthAll]⟩
  | d :: ds, h => by
    obtain ⟨h1, h2⟩ := rw_lay (ds := ds) fun y hy => h y (List.mem_cons_of_mem _ hy)
    obtain ⟨w, b, c, rfl, _, hw⟩ := h d (by simp)
    refine ⟨by simp [PyData.canLayAll0, PyData.canLay0, h1, hw], ?_⟩
    simp only [PyData.depthAll, PyData.depth]
    omega
theorem rw_shaped {ds : List PyData} (h : ∀ d ∈ ds, rwD d) : SeqAt.shaped (.list ds) = true := by
  obtain ⟨h1, h2⟩ := rw_lay h
  unfold SeqAt.shaped
  rw [Bool.and_eq_true, decide_eq_true_eq]
  refine ⟨by simp only [PyData.canLay0, h1], ?_⟩
  simp only [PyData.depth]
  omega
theorem eqv_nilD (ds : List PyData) : PyData.eqv (.list ds) (.list []) = ds.isEmpty := by
  cases ds with
  | nil => simp [PyData.eqv, PyData.eqvAll]
  | cons n r => simp [PyData.eqv, PyData.eqvAll]
def spShuf (K : PySem.W.Frag) : Sp := fun vs H Q _ => ∃ (p l a : Addr) (ns : List Int) (k lf : Int) (xs : List V), vs = [.ref p, .ref a] ∧ PenAt H p l ns k lf ∧ ns.length ≤ 63 ∧ 0 ≤ k ∧ k ≤ 90000 ∧ 0 ≤ lf ∧ SqL K H a xs ∧ xs.length ≤ 900 ∧ (∀ x ∈ xs, IsRw H x) ∧
  ∀ (H' : Hp) (k' lf' : Int) (b : Addr) (ys : List V), k' ≤ k + xs.length → 0 ≤ k' → 0 ≤ lf' → (∀ y ∈ ys, y ∈ xs) → ys.length = xs.length → SameBut p H H' → PenAt H' p l ns k' lf' → H' b = some (.lst ys) → Q (.ref b) H'
theorem seq_ix {d : Int} {j n : Nat} (h : d = (j : Int)) (hj : j < n) : seqIndex? d n = some j := by
  subst h
  unfold seqIndex?
  have h1 : ¬ ((j : Int) < 0) := by omega
  have h2 : (j : Int) < (n : Int) := by omega
  simp [h1, h2, hj]
section
variable {P : Program} {w : World} {K : PySem.W.Frag} {mg : Str → Option Value} {base : Heap} {f fD fP : Addr} {fd fdD fdP : FuncData}
theorem sc29 : FnScope ["pen", "items", "rest", "found"] ["pen", "items"] (defScope (top 43)) := ⟨rfl, rfl, rfl, by decide +kernel, rfl, by decide +kernel, by decide +kernel⟩
theorem ok_shuf (F : Fun K "_law_shuffled" "_law_shuffled" (top 43) f fd) (gN : mg "len" = none) (gL : mg "list" = none) (gD : mg "_law_draw" = some (.ref fD)) (kD : PySem.W.keepIn K (.ref fD) = true) (GD : FnOk P w K mg base CX0 1 fD fdD ["pen", "many"] spDraw)
    (bD : Binds K fdD ["pen", "many"] []) : FnOk P w K mg base CX0 2 f fd ["pen", "items"] (spShuf K) := by
  refine F.ok sc29 (fun vs H Q E h => ?_) (fun cdv A outer s H vs Q E hr h => ?_)
  · obtain ⟨p, l, a, ns, k, lf, xs, rfl, _⟩ := h
    rfl
  · obtain ⟨p, l, a, ns, k, lf, xs, rfl, hp, hn, hk0, hk1, hf, hS, hz, hx, kk⟩ := h
    have hu64 := hr.units
    refine ⟨_, pss_cons (ps_par (i := 2) (j := 3) rfl sc29.nd rfl rfl (by decide) rfl rfl (pa_cons (pe_callTy call_list_of (by rfl) gL PyProof.Rows.boot_list (pa_cons (pv 1) pa_nil)) (pa_cons (pe_lst pa_nil) pa_nil)) rfl)
      (pss_cons (ps_while PassesOwn.never (pt_cmpR (op_neD hu64) (pv 2) (pe_lst pa_nil) (nomark _)) (pss_one (ps_expr (pe_bm PySem.F.plainAttrs_list PySem.F.slot_list_append PySem.F.type_list_append mt_append (pv 3) (pa_cons
          (pe_bm PySem.F.plainAttrs_list PySem.F.slot_list_pop PySem.F.type_list_pop mt_popAt (pv 2) (pa_cons (pe_call GD hr (by rfl) gD kD bD .nil pass0 (pa_cons (pv 0) (pa_cons (pe_callB call_len_seq (by rfl) gN PySem.boot_len (pa_cons (pv 2) pa_nil)) pa_nil))) pa_nil)) pa_nil)))))
      (pss_one (ps_ret (pv 3)))), ?_⟩
    refine ⟨V.ref a, rfl, a, xs, rfl, .inl hS, fun r nr => ⟨Nat.zero_le _, fun b nb => ⟨V.ref r, V.ref b, rfl, ?_⟩⟩⟩
    have s0 : Same H (upd (upd H r (.lst xs)) b (.lst [])) := (upd_new nr).trans (upd_new nb)
    have r0 : upd (upd H r (.lst xs)) b (.lst []) r = some (.lst xs) := upd_new nb _ _ upd_same
    have b0 : upd (upd H r (.lst xs)) b (.lst []) b = some (.lst []) := upd_same
    have nrb : r ≠ b := fun z => by
      rw [← z, upd_same] at nb
      cases nb
    have nbH : H b = none := by
      rw [upd_ne (Ne.symm nrb)] at nb
      exact nb
    generalize upd (upd H r (.lst xs)) b (.lst []) = H0 at s0 r0 b0
    refine ⟨fun m σ H1 => ∃ (k1 lf1 : Int) (zs ys : List V), σ = [some (.ref p), some (.ref a), some (.ref r), some (.ref b)] ∧ zs.length = m ∧ zs.length + ys.length = xs.length ∧ k1 ≤ k + ys.length ∧ 0 ≤ k1 ∧ 0 ≤ lf1 ∧ PenAt H1 p l ns k1 lf1 ∧ SameBut p H H1 ∧
      H1 r = some (.lst zs) ∧ H1 b = some (.lst ys) ∧ (∀ z ∈ zs, z ∈ xs) ∧ ∀ y ∈ ys, y ∈ xs, ⟨xs.length, k, lf, xs, [], rfl, rfl, by simp, by simp, hk0, hf, ⟨s0 _ _ hp.dc, s0 _ _ hp.ls⟩, .of s0, r0, b0, fun z hz => hz, fun y hy => absurd hy (by simp)⟩, ?_⟩
    rintro m σ H1 ⟨k1, lf1, zs, ys, rfl, hm, hsum, e1, e2, e3, P1, s1, hr1, hb1, mz, my⟩
    refine ⟨V.ref r, rfl, Nat.zero_le _, fun q nq => ?_⟩
    have s2 := upd_new (o := .lst []) nq
    have hq2 : upd H1 q (.lst []) q = some (.lst []) := upd_same
    have P2 : PenAt (upd H1 q (.lst [])) p l ns k1 lf1 := ⟨s2 _ _ P1.dc, s2 _ _ P1.ls⟩
    have s02 := s1.trans (SameBut.of s2)
    have hr2 := s2 _ _ hr1
    have hb2 := s2 _ _ hb1
    generalize upd H1 q (.lst []) = H2 at s2 hq2 P2 s02 hr2 hb2
    obtain ⟨ds, d1, d2, d3⟩ := rw_data (K := K) (H := H2) (zs := zs) fun z hz => (hx z (mz z hz)).mono hp.dc s02
    refine ⟨.list ds, .list [], .lst (.inl (.inl hr2)) d1, .lst (.inl (.inl hq2)) .nil, rw_shaped d2, (by decide +kernel), _, rfl, ?_⟩
    rw [eqv_nilD]
    have npr : r ≠ p := ne_of hr2 P2.dc (by intro z; cases z)
    have npb : b ≠ p := ne_of hb2 P2.dc (by intro z; cases z)
    cases zs with
    | nil =>
      have z0 : ds = [] := List.eq_nil_of_length_eq_zero d3
      rw [z0]
      have hy : ys.length = xs.length := by
        have z : (0 : Nat) + ys.length = xs.length := hsum
        omega
      exact ⟨V.ref b, rfl, kk H2 k1 lf1 b ys (by omega) e2 e3 my hy s02 P2 hb2⟩
    | cons z0 zr =>
      have ed : ds.isEmpty = false := by
        cases ds with
        | nil => cases d3
        | cons _ _ => rfl
      rw [ed]
      generalize hzs : z0 :: zr = zs at *
      have hpos : 0 < zs.length := by rw [← hzs]; simp
      refine ⟨_, fun σ' H' q => q, ?_⟩
      refine ⟨V.ref b, rfl, .inl ⟨rfl, _, .inl (.inl hb2)⟩, V.ref r, rfl, .inl ⟨rfl, _, .inl (.inl hr2)⟩, V.ref p, rfl, V.ref r, rfl, r, zs, rfl, .inl (.inl (.inl hr2)), p, l, ns, k1, lf1, _, rfl, P2, hn, e2, by omega, e3, by omega, by omega, fun H3 k3 lf3 d g1 g2 g3 g4 g5 s3 P3 => ?_⟩
      obtain ⟨j, hj⟩ : ∃ j : Nat, d = (j : Int) := ⟨d.toNat, (Int.toNat_of_nonneg g4).symm⟩
      have hjl : j < zs.length := by omega
      obtain ⟨y, hy⟩ : ∃ y, zs[j]? = some y := ⟨_, List.getElem?_eq_getElem hjl⟩
      have hr3 := s3 _ _ npr hr2
      have hb3 := s3 _ _ npb hb2
      have b63 : (900 : Int) < 2 ^ 63 := by decide
      have b900 : (900 : Nat) < sizeLine := by decide
      refine ⟨r, zs, d, j, y, rfl, rfl, hr3, by omega, by omega, seq_ix hj hjl, hy, b, ys, y, rfl, rfl, (upd_ne (Ne.symm nrb)).trans hb3, by omega, ?_⟩
      refine ⟨(zs.eraseIdx j).length, ?_, k3, lf3, zs.eraseIdx j, ys ++ [y], rfl, rfl, ?_, ?_, g2, g3, ⟨?_, ?_⟩, ?_, ?_, upd_same, ?_, ?_⟩
      · rw [List.length_eraseIdx_of_lt hjl]
        omega
      · rw [List.length_eraseIdx_of_lt hjl, List.length_append]
        show zs.length - 1 + (ys.length + 1) = xs.length
        omega
      · rw [List.length_append]
        show k3 ≤ k + ((ys.length + 1 : Nat) : Int)
        omega
      · rw [upd_ne (Ne.symm npb), upd_ne (Ne.symm npr)]
        exact P3.dc
      · rw [upd_ne (ne_of_none hp.ls nbH), upd_ne (ne_of_none hp.ls nr)]
        exact P3.ls
      · intro c o hc e
        have n1 : c ≠ r := fun z => by
          rw [z] at e
          rw [e] at nr
          cases nr
        have n2 : c ≠ b := fun z => by
          rw [z] at e
          rw [e] at nbH
          cases nbH
        rw [upd_ne n2, upd_ne n1]
        exact s3 _ _ hc (s02 _ _ hc e)
      · rw [upd_ne nrb, upd_same]
      · exact fun z hz => mz z (List.mem_of_mem_eraseIdx hz)
      · intro z hz
        rcases List.mem_append.mp hz with hz | hz
        · exact my z hz
        · obtain rfl : z = y := by simpa using hz
          exact mz _ (List.mem_of_getElem? hy)
end
end SK
namespace SK
open PySem PySem.Spec PyProof.Rows L2 LamX NdefX
open K0 (De DeAll XCl spX withX)
/-! ### some words -/
def spSome : Sp := fun vs H Q _ => ∃ (p l : Addr) (ns : List Int) (k lf : Int) (ls : Str), vs = [.ref p, .str ls, .int 5, .int 4] ∧ PenAt H p l ns k lf ∧ ns.length ≤ 63 ∧ 0 ≤ k ∧ k ≤ 90000 ∧ 0 ≤ lf ∧ 0 < ls.cps.size ∧ ls.cps.size ≤ 26 ∧
  ∀ (H' : Hp) (k' lf' : Int) (b : Addr) (ws : List Str), k' ≤ k + 30 → 0 ≤ k' → 0 ≤ lf' → (∀ y ∈ ws, OverL ls y ∧ y.cps.size ≤ 4) → ws.length ≤ 5 → SameBut p H H' → PenAt H' p l ns k' lf' → H' b = some (.lst (ws.map V.str)) → Q (.ref b) H'
theorem cut3_mem {ls : Str} {c : Nat} (h : c ∈ (cutS ls none (some 3)).cps.toList) : c ∈ ls.cps.toList := by
  unfold cutS at h
  rw [List.toList_toArray] at h
  exact List.mem_of_mem_drop (List.mem_of_mem_take h)
theorem cut3_len {ls : Str} (h : 0 < ls.cps.size) : 0 < (cutS ls none (some 3)).cps.toList.length ∧ (cutS ls none (some 3)).cps.toList.length ≤ 1000 := by
  unfold cutS
  rw [List.toList_toArray, HT.sIx_none, show ((3 : Int)) = ((3 : Nat) : Int) from rfl, HT.sIx_nat, List.drop_zero, Nat.sub_zero, List.length_take, Array.length_toList]
  have e : ls.length = ls.cps.size := rfl
  omega
theorem flat_strs (ws : List Str) : (ws.map V.str).all flatV = true := by
  rw [List.all_map, List.all_eq_true]
  exact fun _ _ => rfl
section
variable {P : Program} {w : World} {K : PySem.W.Frag} {mg : Str → Option Value} {base : Heap} {f fD fP : Addr} {fd fdD fdP : FuncData}
theorem sc31 : FnScope ["pen", "letters", "many", "longest", "found", "k", "word", "j"] ["pen", "letters", "many", "longest"] (defScope (top 45)) := ⟨rfl, rfl, rfl, by decide +kernel, rfl, by decide +kernel, by decide +kernel⟩
theorem ok_some (F : Fun K "_law_some_words" "_law_some_words" (top 45) f fd) (gR : mg "range" = none) (gD : mg "_law_draw" = some (.ref fD)) (kD : PySem.W.keepIn K (.ref fD) = true) (GD : FnOk P w K mg base CX0 1 fD fdD ["pen", "many"] spDraw)
    (bD : Binds K fdD ["pen", "many"] []) (gP : mg "_law_pick" = some (.ref fP)) (kP : PySem.W.keepIn K (.ref fP) = true) (GP : FnOk P w K mg base CX0 2 fP fdP ["pen", "items"] spPick)
    (bP : Binds K fdP ["pen", "items"] []) : FnOk P w K mg base CX0 3 f fd ["pen", "letters", "many", "longest"] spSome := by
  refine F.ok sc31 (fun vs H Q E h => ?_) (fun cdv A outer s H vs Q E hr h => ?_)
  · obtain ⟨p, l, ns, k, lf, ls, rfl, _⟩ := h
    rfl
  · obtain ⟨p, l, ns, k, lf, ls, rfl, hp, hn, hk0, hk1, hf, hl0, hl1, kk⟩ := h
    have hr1 : Room 1 _ := hr.mono (by decide)
    refine ⟨_, pss_cons (ps_set (i := 4) sc31.nd rfl (Or.inl rfl) (pe_lst pa_nil)) (pss_cons (ps_for PassesOwn.never rfl (pi_range1 (by rfl) gR (pa_cons (pe_call GD hr1 (by rfl) gD kD bD .nil pass0 (pa_cons (pv 0) (pa_cons (pe_op op_add (pv 2) pe_int) pa_nil))) pa_nil)) (pg_name (i := 5) sc31.nd rfl (Or.inl rfl))
        (pss_cons (ps_set (i := 6) sc31.nd rfl (Or.inl rfl) (pe_bm PySem.F.plainAttrs_str PySem.F.slot_str_join PySem.F.type_str_join mt_join pe_str (pa_cons (pe_lc (own := [("j", 7)]) (g := gName 7) (tt := tYes) rfl sc31.nd
            (pi_range1 (by rfl) gR (pa_cons (pe_call GD hr1 (by rfl) gD kD bD .nil pass0 (pa_cons (pv 0) (pa_cons (pe_op op_add (pv 3) pe_int) pa_nil))) pa_nil))
            (blkOk_by (N := ["pen", "letters", "many", "longest", "found", "k", "word", "j"]) (sc := defScope (top 45)) (by decide +kernel))
            (fun _ _ _ _ _ => pg_name (i := 7) sc31.nd rfl (Or.inl rfl)) (fun _ _ _ _ _ => pts_nil) (fun _ _ _ _ _ => pe_call GP hr (by rfl) gP kP bP .nil pass0 (pa_cons (pv 0) (pa_cons (pe_slice sl_str (pv 1) po_none (po_some pe_int)) pa_nil)))) pa_nil)))
        (pss_one (ps_if (pt_cmpR op_notIn_seq (pv 6) (pv 4) (by rfl)) (pss_one (ps_expr (pe_bm PySem.F.plainAttrs_list PySem.F.slot_list_append PySem.F.type_list_append mt_append (pv 4) (pa_cons (pv 6) pa_nil)))) pss_nil))))
      (pss_one (ps_ret (pv 4)))), ?_⟩
    refine ⟨Nat.zero_le _, fun b nb => ?_⟩
    have s0 := upd_new (o := .lst []) nb
    have b0 : upd H b (.lst []) b = some (.lst []) := upd_same
    generalize upd H b (.lst []) = H0 at s0 b0
    refine ⟨V.ref p, rfl, V.int 5, rfl, 5, 1, rfl, rfl, p, l, ns, k, lf, 6, rfl, ⟨s0 _ _ hp.dc, s0 _ _ hp.ls⟩, hn, hk0, by omega, hf, by decide, by decide, fun H1 k1 lf1 d e1 e2 e3 e4 e5 s1 P1 => ?_⟩
    have b62 : (6 : Int) < 2 ^ 62 := by decide
    have bn : b ≠ p := ne_of b0 (s0 _ _ hp.dc) (by intro z; cases z)
    have hdn : d.toNat ≤ 5 := by omega
    refine ⟨d, rfl, by omega, by omega, for_it walk_range (fun i σ G => ∃ (x5 x6 : Option V) (kk lg : Int) (ws : List Str), σ = [some (.ref p), some (.str ls), some (.int 5), some (.int 4), some (.ref b), x5, x6, none] ∧ kk ≤ k + 1 + 5 * i ∧ 0 ≤ kk ∧ 0 ≤ lg ∧ PenAt G p l ns kk lg ∧ SameBut p H G ∧
      G b = some (.lst (ws.map V.str)) ∧ ws.length ≤ i ∧ ∀ y ∈ ws, OverL ls y ∧ y.cps.size ≤ 4) ⟨none, none, k1, lf1, [], rfl, by omega, e2, e3, P1, (SameBut.of s0).trans s1, s1 _ _ bn b0, Nat.le_refl _, fun y hy => absurd hy (by simp)⟩ (fun _ _ _ _ _ => trivial) ?_ ?_⟩
    · rintro i x σ G G2 hi ⟨x5, x6, kk1, lg, ws, rfl, f1, f2, f3, P2, s2, hb2, hw, hW⟩ ⟨rfl, rfl⟩
      refine ⟨rfl, V.ref p, rfl, V.int 4, rfl, 4, 1, rfl, rfl, p, l, ns, kk1, lg, 5, rfl, P2, hn, f2, by omega, f3, by decide, by decide, fun G3 k3 lf3 d3 g1 g2 g3 g4 g5 s3 P3 => ?_⟩
      refine ⟨d3, rfl, by omega, by omega, fun D2 nD2 => lc_it walk_range (fun j G4 => ∃ (k4 lf4 : Int) (cs : List Nat), k4 ≤ k3 + j ∧ 0 ≤ k4 ∧ 0 ≤ lf4 ∧ PenAt G4 p l ns k4 lf4 ∧ SameBut p G3 G4 ∧ G4 D2 = some (.lst ((cs.map fun c => (⟨#[c]⟩ : Str)).map V.str)) ∧ cs.length = j ∧ ∀ c ∈ cs, c ∈ ls.cps.toList)
        ⟨k3, lf3, [], by omega, g2, g3, ⟨upd_new nD2 _ _ P3.dc, upd_new nD2 _ _ P3.ls⟩, .of (upd_new nD2), upd_same, rfl, fun c hc => absurd hc (by simp)⟩ (fun _ _ _ _ => trivial) ?_ ?_⟩
      · rintro j x G4 G5 hj ⟨k4, lf4, cs, i1, i2, i3, P4, s4, h4, hcs, hC⟩ ⟨rfl, rfl⟩
        have hls : ls.length ≤ sizeLine := by
          have e : ls.length = ls.cps.size := rfl
          have t : (26 : Nat) < sizeLine := by decide
          omega
        obtain ⟨c1, c2⟩ := cut3_len hl0
        refine ⟨rfl, V.ref p, rfl, V.str ls, rfl, 3, rfl, ls, rfl, hls, p, l, .str (cutS ls none (some 3)), ns, k4, lf4, _, rfl, P4, hn, i2, by omega, i3, .inr ⟨_, rfl, rfl⟩, by rw [List.length_map]; exact c1, by rw [List.length_map]; exact c2, fun G6 k6 lf6 y j1 j2 j3 hy s6 P6 => ?_⟩
        obtain ⟨c, hc, rfl⟩ := List.mem_map.mp hy
        have nDp : D2 ≠ p := ne_of h4 P4.dc (by intro z; cases z)
        have hD6 := s6 _ _ nDp h4
        refine ⟨_, hD6, ?_, k6, lf6, cs ++ [c], ?_, j2, j3, ⟨?_, ?_⟩, ?_, ?_, ?_, ?_⟩
        · rw [List.length_map, List.length_map, hcs]
          have t : (5 : Nat) < sizeLine := by decide
          omega
        · have z : ((j + 1 : Nat) : Int) = (j : Int) + 1 := by omega
          omega
        · rw [upd_ne (Ne.symm nDp)]
          exact P6.dc
        · rw [upd_ne (ne_of_none P3.ls nD2)]
          exact P6.ls
        · intro c o hc e
          rw [upd_ne (ne_of_none e nD2)]
          exact s6 _ _ hc (s4 _ _ hc e)
        · rw [List.map_append, List.map_append]
          exact upd_same
        · rw [List.length_append, hcs]
          rfl
        · intro z hz
          rcases List.mem_append.mp hz with hz | hz
          · exact hC z hz
          · obtain rfl : z = c := by simpa using hz
            exact cut3_mem hc
      · rintro G4 ⟨k4, lf4, cs, i1, i2, i3, P4, s4, h4, hcs, hC⟩
        have hc4 : cs.length ≤ 4 := by omega
        refine ⟨"", D2, _, rfl, rfl, .inl (.inl (.inl h4)), ?_, ?_⟩
        · rw [sum_ones]
          have z : (Str.ofString "").length = 0 := by decide
          rw [z]
          omega
        rw [txt_join_chars]
        have hb4 := s4 _ _ bn (s3 _ _ bn hb2)
        have s04 := (s2.trans s3).trans s4
        have hov : OverL ls ⟨cs.toArray⟩ ∧ (⟨cs.toArray⟩ : Str).cps.size ≤ 4 := by
          refine ⟨⟨?_, fun c hc => hC c (by simpa using hc)⟩, ?_⟩
          · show cs.toArray.size ≤ 200
            rw [List.size_toArray]
            omega
          · show cs.toArray.size ≤ 4
            rw [List.size_toArray]
            omega
        refine ⟨V.str ⟨cs.toArray⟩, rfl, V.ref b, rfl, b, ws.map V.str, rfl, .inl (.inl (.inl hb4)), rfl, flat_strs ws, _, rfl, ?_⟩
        have b5 : (5 : Nat) < sizeLine := by decide
        have z : ((i + 1 : Nat) : Int) = (i : Int) + 1 := by omega
        refine ite2 (fun c => ?_) (fun c => ?_)
        · refine ⟨V.ref b, rfl, .inl ⟨rfl, _, .inl (.inl hb4)⟩, V.str ⟨cs.toArray⟩, rfl, b, _, _, rfl, rfl, hb4, by rw [List.length_map]; omega, _, _, k4, lf4, ws ++ [⟨cs.toArray⟩], rfl, by omega, i2, i3, ⟨?_, ?_⟩, ?_, ?_, ?_, ?_⟩
          · rw [upd_ne (Ne.symm bn)]
            exact P4.dc
          · rw [upd_ne (ne_of_none hp.ls nb)]
            exact P4.ls
          · intro c o hc e
            rw [upd_ne (ne_of_none e nb)]
            exact s04 _ _ hc e
          · rw [List.map_append]
            exact upd_same
          · rw [List.length_append]
            show ws.length + 1 ≤ i + 1
            omega
          · intro y hy
            rcases List.mem_append.mp hy with hy | hy
            · exact hW y hy
            · obtain rfl : y = ⟨cs.toArray⟩ := by simpa using hy
              exact hov
        · exact ⟨_, _, k4, lf4, ws, rfl, by omega, i2, i3, P4, s04, hb4, by omega, hW⟩
    · rintro σ G ⟨x5, x6, kk1, lg, ws, rfl, f1, f2, f3, P2, s2, hb2, hw, hW⟩
      exact ⟨V.ref b, rfl, kk G kk1 lg b ws (by omega) f2 f3 hW (by omega) s2 P2 hb2⟩
end
end SK
namespace SK
open PySem PySem.Spec PyProof.Rows L2 LamX NdefX
open K0 (De DeAll XCl spX withX)
/-! ### all beginnings; some rows -/
theorem inV_strs (x : Str) (ws : List Str) : inV (.str x) (ws.map V.str) = decide (x ∈ ws) := by
  unfold inV
  rw [List.any_map]
  induction ws with
  | nil => simp
  | cons w r ih =>
    rw [List.any_cons, ih]
    have e : ((fun y => eqV y (V.str x)) ∘ V.str) w = decide (w = x) := by
      show eqV (V.str w) (V.str x) = _
      show (w == x) = _
      by_cases h : w = x
      · rw [decide_eq_true h, h]
        exact beq_self_eq_true x
      · rw [decide_eq_false h]
        exact beq_false_of_ne h
    rw [e]
    by_cases h : w = x
    · subst h
      simp
    · have h2 : ¬ x = w := fun z => h z.symm
      simp [h, h2]
/-! ### in a drawn order, whatever the items -/
theorem erase_perm {α : Type} {y : α} : ∀ {l : List α} {j : Nat}, l[j]? = some y → (y :: l.eraseIdx j).Perm l
  | [], j, h => by simp at h
  | x :: l, 0, h => by
    simp at h
    subst h
    exact .refl _
  | x :: l, j + 1, h => by
    have ih := erase_perm (l := l) (j := j) (by simpa using h)
    exact (List.Perm.swap x y _).trans (ih.cons x)
structure ShufR (K : PySem.W.Frag) (R : Hp → V → Prop) : Prop where
  mono : ∀ {H H' : Hp} {x : V} {p : Addr} {kv : List (Key × V)}, R H x → H p = some (.dK kv) → SameBut p H H' → R H' x
  data : ∀ {H : Hp} {zs : List V}, (∀ z ∈ zs, R H z) → ∃ ds, DpAll K H zs ds ∧ SeqAt.shaped (.list ds) = true ∧ ds.length = zs.length
def spShufG (K : PySem.W.Frag) (R : Hp → V → Prop) : Sp := fun vs H Q _ => ∃ (p l a : Addr) (ns : List Int) (k lf : Int) (xs : List V), vs = [.ref p, .ref a] ∧ PenAt H p l ns k lf ∧ ns.length ≤ 63 ∧ 0 ≤ k ∧ k ≤ 90000 ∧ 0 ≤ lf ∧ SqL K H a xs ∧ xs.length ≤ 900 ∧ (∀ x ∈ xs, R H x) ∧
  ∀ (H' : Hp) (k' lf' : Int) (b : Addr) (ys : List V), k' ≤ k + xs.length → 0 ≤ k' → 0 ≤ lf' → ys.Perm xs → SameBut p H H' → PenAt H' p l ns k' lf' → H' b = some (.lst ys) → H b = none → Q (.ref b) H'
section
variable {P : Program} {w : World} {K : PySem.W.Frag} {mg : Str → Option Value} {base : Heap} {f fD fP : Addr} {fd fdD fdP : FuncData} {R : Hp → V → Prop}
theorem scShuf : FnScope ["pen", "items", "rest", "found"] ["pen", "items"] (defScope (top 43)) := ⟨rfl, rfl, rfl, by decide +kernel, rfl, by decide +kernel, by decide +kernel⟩
theorem ok_shufG (SR : ShufR K R) (F : Fun K "_law_shuffled" "_law_shuffled" (top 43) f fd) (gN : mg "len" = none) (gL : mg "list" = none) (gD : mg "_law_draw" = some (.ref fD)) (kD : PySem.W.keepIn K (.ref fD) = true) (GD : FnOk P w K mg base CX0 1 fD fdD ["pen", "many"] spDraw)
    (bD : Binds K fdD ["pen", "many"] []) : FnOk P w K mg base CX0 2 f fd ["pen", "items"] (spShufG K R) := by
  refine F.ok scShuf (fun vs H Q E h => ?_) (fun cdv A outer s H vs Q E hr h => ?_)
  · obtain ⟨p, l, a, ns, k, lf, xs, rfl, _⟩ := h
    rfl
  · obtain ⟨p, l, a, ns, k, lf, xs, rfl, hp, hn, hk0, hk1, hf, hS, hz, hx, kk⟩ := h
    have hu64 := hr.units
    refine ⟨_, pss_cons (ps_par (i := 2) (j := 3) rfl scShuf.nd rfl rfl (by decide) rfl rfl (pa_cons (pe_callTy call_list_of (by rfl) gL PyProof.Rows.boot_list (pa_cons (pv 1) pa_nil)) (pa_cons (pe_lst pa_nil) pa_nil)) rfl)
      (pss_cons (ps_while PassesOwn.never (pt_cmpR (op_neD hu64) (pv 2) (pe_lst pa_nil) (nomark _)) (pss_one (ps_expr (pe_bm PySem.F.plainAttrs_list PySem.F.slot_list_append PySem.F.type_list_append mt_append (pv 3) (pa_cons
          (pe_bm PySem.F.plainAttrs_list PySem.F.slot_list_pop PySem.F.type_list_pop mt_popAt (pv 2) (pa_cons (pe_call GD hr (by rfl) gD kD bD .nil pass0 (pa_cons (pv 0) (pa_cons (pe_callB call_len_seq (by rfl) gN PySem.boot_len (pa_cons (pv 2) pa_nil)) pa_nil))) pa_nil)) pa_nil)))))
      (pss_one (ps_ret (pv 3)))), ?_⟩
    refine ⟨V.ref a, rfl, a, xs, rfl, .inl hS, fun r nr => ⟨Nat.zero_le _, fun b nb => ⟨V.ref r, V.ref b, rfl, ?_⟩⟩⟩
    have s0 : Same H (upd (upd H r (.lst xs)) b (.lst [])) := (upd_new nr).trans (upd_new nb)
    have r0 : upd (upd H r (.lst xs)) b (.lst []) r = some (.lst xs) := upd_new nb _ _ upd_same
    have b0 : upd (upd H r (.lst xs)) b (.lst []) b = some (.lst []) := upd_same
    have nrb : r ≠ b := fun z => by
      rw [← z, upd_same] at nb
      cases nb
    have nbH : H b = none := by
      rw [upd_ne (Ne.symm nrb)] at nb
      exact nb
    generalize upd (upd H r (.lst xs)) b (.lst []) = H0 at s0 r0 b0
    refine ⟨fun m σ H1 => ∃ (k1 lf1 : Int) (zs ys : List V), σ = [some (.ref p), some (.ref a), some (.ref r), some (.ref b)] ∧ zs.length = m ∧ (ys ++ zs).Perm xs ∧ k1 ≤ k + ys.length ∧ 0 ≤ k1 ∧ 0 ≤ lf1 ∧ PenAt H1 p l ns k1 lf1 ∧ SameBut p H H1 ∧
      H1 r = some (.lst zs) ∧ H1 b = some (.lst ys), ⟨xs.length, k, lf, xs, [], rfl, rfl, .refl _, by simp, hk0, hf, ⟨s0 _ _ hp.dc, s0 _ _ hp.ls⟩, .of s0, r0, b0⟩, ?_⟩
    rintro m σ H1 ⟨k1, lf1, zs, ys, rfl, hm, hperm, e1, e2, e3, P1, s1, hr1, hb1⟩
    have hsum : ys.length + zs.length = xs.length := by
      have z := hperm.length_eq
      rw [List.length_append] at z
      exact z
    refine ⟨V.ref r, rfl, Nat.zero_le _, fun q nq => ?_⟩
    have s2 := upd_new (o := .lst []) nq
    have hq2 : upd H1 q (.lst []) q = some (.lst []) := upd_same
    have P2 : PenAt (upd H1 q (.lst [])) p l ns k1 lf1 := ⟨s2 _ _ P1.dc, s2 _ _ P1.ls⟩
    have s02 := s1.trans (SameBut.of s2)
    have hr2 := s2 _ _ hr1
    have hb2 := s2 _ _ hb1
    generalize upd H1 q (.lst []) = H2 at s2 hq2 P2 s02 hr2 hb2
    obtain ⟨ds, d1, d2, d3⟩ := SR.data (H := H2) (zs := zs) fun z hz => SR.mono (hx z (hperm.subset (List.mem_append_right _ hz))) hp.dc s02
    refine ⟨.list ds, .list [], .lst (.inl (.inl hr2)) d1, .lst (.inl (.inl hq2)) .nil, d2, (by decide +kernel), _, rfl, ?_⟩
    rw [eqv_nilD]
    have npr : r ≠ p := ne_of hr2 P2.dc (by intro z; cases z)
    have npb : b ≠ p := ne_of hb2 P2.dc (by intro z; cases z)
    cases zs with
    | nil =>
      have z0 : ds = [] := List.eq_nil_of_length_eq_zero d3
      rw [z0]
      have hy : ys.length = xs.length := hsum
      rw [List.append_nil] at hperm
      exact ⟨V.ref b, rfl, kk H2 k1 lf1 b ys (by omega) e2 e3 hperm s02 P2 hb2 nbH⟩
    | cons z0 zr =>
      have ed : ds.isEmpty = false := by
        cases ds with
        | nil => cases d3
        | cons _ _ => rfl
      rw [ed]
      generalize hzs : z0 :: zr = zs at *
      have hpos : 0 < zs.length := by rw [← hzs]; simp
      refine ⟨_, fun σ' H' q => q, ?_⟩
      refine ⟨V.ref b, rfl, .inl ⟨rfl, _, .inl (.inl hb2)⟩, V.ref r, rfl, .inl ⟨rfl, _, .inl (.inl hr2)⟩, V.ref p, rfl, V.ref r, rfl, r, zs, rfl, .inl (.inl (.inl hr2)), p, l, ns, k1, lf1, _, rfl, P2, hn, e2, by omega, e3, by omega, by omega, fun H3 k3 lf3 d g1 g2 g3 g4 g5 s3 P3 => ?_⟩
      obtain ⟨j, hj⟩ : ∃ j : Nat, d = (j : Int) := ⟨d.toNat, (Int.toNat_of_nonneg g4).symm⟩
      have hjl : j < zs.length := by omega
      obtain ⟨y, hy⟩ : ∃ y, zs[j]? = some y := ⟨_, List.getElem?_eq_getElem hjl⟩
      have hr3 := s3 _ _ npr hr2
      have hb3 := s3 _ _ npb hb2
      have b63 : (900 : Int) < 2 ^ 63 := by decide
      have b900 : (900 : Nat) < sizeLine := by decide
      refine ⟨r, zs, d, j, y, rfl, rfl, hr3, by omega, by omega, seq_ix hj hjl, hy, b, ys, y, rfl, rfl, (upd_ne (Ne.symm nrb)).trans hb3, by omega, ?_⟩
      refine ⟨(zs.eraseIdx j).length, ?_, k3, lf3, zs.eraseIdx j, ys ++ [y], rfl, rfl, ?_, ?_, g2, g3, ⟨?_, ?_⟩, ?_, ?_, upd_same⟩
      · rw [List.length_eraseIdx_of_lt hjl]
        omega
      · have e := erase_perm hy
        rw [List.append_assoc]
        exact (e.append_left ys).trans hperm
      · rw [List.length_append]
        show k3 ≤ k + ((ys.length + 1 : Nat) : Int)
        omega
      · rw [upd_ne (Ne.symm npb), upd_ne (Ne.symm npr)]
        exact P3.dc
      · rw [upd_ne (ne_of_none hp.ls nbH), upd_ne (ne_of_none hp.ls nr)]
        exact P3.ls
      · intro c o hc e
        have n1 : c ≠ r := fun z => by
          rw [z] at e
          rw [e] at nr
          cases nr
        have n2 : c ≠ b := fun z => by
          rw [z] at e
          rw [e] at nbH
          cases nbH
        rw [upd_ne n2, upd_ne n1]
        exact s3 _ _ hc (s02 _ _ hc e)
      · rw [upd_ne nrb, upd_same]
end
def spSomeG : Sp := fun vs H Q _ => ∃ (p l : Addr) (ns : List Int) (k lf : Int) (ls : Str) (mm nn : Int), vs = [.ref p, .str ls, .int mm, .int nn] ∧ 0 ≤ mm ∧ mm ≤ 40 ∧ 0 ≤ nn ∧ nn ≤ 40 ∧ PenAt H p l ns k lf ∧ ns.length ≤ 63 ∧ 0 ≤ k ∧ k ≤ 90000 ∧ 0 ≤ lf ∧ 0 < ls.cps.size ∧ ls.cps.size ≤ 26 ∧
  ∀ (H' : Hp) (k' lf' : Int) (b : Addr) (ws : List Str), k' ≤ k + 2000 → 0 ≤ k' → 0 ≤ lf' → (∀ y ∈ ws, OverL ls y ∧ (y.cps.size : Int) ≤ nn) → (ws.length : Int) ≤ mm → ws.Nodup → SameBut p H H' → PenAt H' p l ns k' lf' → H' b = some (.lst (ws.map V.str)) → H b = none → Q (.ref b) H'
section
variable {P : Program} {w : World} {K : PySem.W.Frag} {mg : Str → Option Value} {base : Heap} {f fD fP : Addr} {fd fdD fdP : FuncData}
theorem scSome : FnScope ["pen", "letters", "many", "longest", "found", "k", "word", "j"] ["pen", "letters", "many", "longest"] (defScope (top 45)) := ⟨rfl, rfl, rfl, by decide +kernel, rfl, by decide +kernel, by decide +kernel⟩
theorem ok_someG (F : Fun K "_law_some_words" "_law_some_words" (top 45) f fd) (gR : mg "range" = none) (gD : mg "_law_draw" = some (.ref fD)) (kD : PySem.W.keepIn K (.ref fD) = true) (GD : FnOk P w K mg base CX0 1 fD fdD ["pen", "many"] spDraw)
    (bD : Binds K fdD ["pen", "many"] []) (gP : mg "_law_pick" = some (.ref fP)) (kP : PySem.W.keepIn K (.ref fP) = true) (GP : FnOk P w K mg base CX0 2 fP fdP ["pen", "items"] spPick)
    (bP : Binds K fdP ["pen", "items"] []) : FnOk P w K mg base CX0 3 f fd ["pen", "letters", "many", "longest"] spSomeG := by
  refine F.ok scSome (fun vs H Q E h => ?_) (fun cdv A outer s H vs Q E hr h => ?_)
  · obtain ⟨p, l, ns, k, lf, ls, mm, nn, rfl, _⟩ := h
    rfl
  · obtain ⟨p, l, ns, k, lf, ls, mm, nn, rfl, hm0, hm1, hn0, hn1, hp, hn, hk0, hk1, hf, hl0, hl1, kk⟩ := h
    have hr1 : Room 1 _ := hr.mono (by decide)
    refine ⟨_, pss_cons (ps_set (i := 4) scSome.nd rfl (Or.inl rfl) (pe_lst pa_nil)) (pss_cons (ps_for PassesOwn.never rfl (pi_range1 (by rfl) gR (pa_cons (pe_call GD hr1 (by rfl) gD kD bD .nil pass0 (pa_cons (pv 0) (pa_cons (pe_op op_add (pv 2) pe_int) pa_nil))) pa_nil)) (pg_name (i := 5) scSome.nd rfl (Or.inl rfl))
        (pss_cons (ps_set (i := 6) scSome.nd rfl (Or.inl rfl) (pe_bm PySem.F.plainAttrs_str PySem.F.slot_str_join PySem.F.type_str_join mt_join pe_str (pa_cons (pe_lc (own := [("j", 7)]) (g := gName 7) (tt := tYes) rfl scSome.nd
            (pi_range1 (by rfl) gR (pa_cons (pe_call GD hr1 (by rfl) gD kD bD .nil pass0 (pa_cons (pv 0) (pa_cons (pe_op op_add (pv 3) pe_int) pa_nil))) pa_nil))
            (blkOk_by (N := ["pen", "letters", "many", "longest", "found", "k", "word", "j"]) (sc := defScope (top 45)) (by decide +kernel))
            (fun _ _ _ _ _ => pg_name (i := 7) scSome.nd rfl (Or.inl rfl)) (fun _ _ _ _ _ => pts_nil) (fun _ _ _ _ _ => pe_call GP hr (by rfl) gP kP bP .nil pass0 (pa_cons (pv 0) (pa_cons (pe_slice sl_str (pv 1) po_none (po_some pe_int)) pa_nil)))) pa_nil)))
        (pss_one (ps_if (pt_cmpR op_notIn_seq (pv 6) (pv 4) (by rfl)) (pss_one (ps_expr (pe_bm PySem.F.plainAttrs_list PySem.F.slot_list_append PySem.F.type_list_append mt_append (pv 4) (pa_cons (pv 6) pa_nil)))) pss_nil))))
      (pss_one (ps_ret (pv 4)))), ?_⟩
    refine ⟨Nat.zero_le _, fun b nb => ?_⟩
    have s0 := upd_new (o := .lst []) nb
    have b0 : upd H b (.lst []) b = some (.lst []) := upd_same
    generalize upd H b (.lst []) = H0 at s0 b0
    refine ⟨V.ref p, rfl, V.int mm, rfl, mm, 1, rfl, rfl, p, l, ns, k, lf, mm + 1, rfl, ⟨s0 _ _ hp.dc, s0 _ _ hp.ls⟩, hn, hk0, by omega, hf, by omega, by omega, fun H1 k1 lf1 d e1 e2 e3 e4 e5 s1 P1 => ?_⟩
    have b62 : (41 : Int) < 2 ^ 62 := by decide
    have bn : b ≠ p := ne_of b0 (s0 _ _ hp.dc) (by intro z; cases z)
    have hdn : (d.toNat : Int) ≤ mm := by omega
    refine ⟨d, rfl, by omega, by omega, for_it walk_range (fun i σ G => ∃ (x5 x6 : Option V) (kk lg : Int) (ws : List Str), σ = [some (.ref p), some (.str ls), some (.int mm), some (.int nn), some (.ref b), x5, x6, none] ∧ kk ≤ k + 1 + 42 * i ∧ 0 ≤ kk ∧ 0 ≤ lg ∧ PenAt G p l ns kk lg ∧ SameBut p H G ∧
      G b = some (.lst (ws.map V.str)) ∧ ws.length ≤ i ∧ ws.Nodup ∧ ∀ y ∈ ws, OverL ls y ∧ (y.cps.size : Int) ≤ nn) ⟨none, none, k1, lf1, [], rfl, by omega, e2, e3, P1, (SameBut.of s0).trans s1, s1 _ _ bn b0, Nat.le_refl _, List.nodup_nil, fun y hy => absurd hy (by simp)⟩ (fun _ _ _ _ _ => trivial) ?_ ?_⟩
    · rintro i x σ G G2 hi ⟨x5, x6, kk1, lg, ws, rfl, f1, f2, f3, P2, s2, hb2, hw, hnd, hW⟩ ⟨rfl, rfl⟩
      refine ⟨rfl, V.ref p, rfl, V.int nn, rfl, nn, 1, rfl, rfl, p, l, ns, kk1, lg, nn + 1, rfl, P2, hn, f2, by omega, f3, by omega, by omega, fun G3 k3 lf3 d3 g1 g2 g3 g4 g5 s3 P3 => ?_⟩
      refine ⟨d3, rfl, by omega, by omega, fun D2 nD2 => lc_it walk_range (fun j G4 => ∃ (k4 lf4 : Int) (cs : List Nat), k4 ≤ k3 + j ∧ 0 ≤ k4 ∧ 0 ≤ lf4 ∧ PenAt G4 p l ns k4 lf4 ∧ SameBut p G3 G4 ∧ G4 D2 = some (.lst ((cs.map fun c => (⟨#[c]⟩ : Str)).map V.str)) ∧ cs.length = j ∧ ∀ c ∈ cs, c ∈ ls.cps.toList)
        ⟨k3, lf3, [], by omega, g2, g3, ⟨upd_new nD2 _ _ P3.dc, upd_new nD2 _ _ P3.ls⟩, .of (upd_new nD2), upd_same, rfl, fun c hc => absurd hc (by simp)⟩ (fun _ _ _ _ => trivial) ?_ ?_⟩
      · rintro j x G4 G5 hj ⟨k4, lf4, cs, i1, i2, i3, P4, s4, h4, hcs, hC⟩ ⟨rfl, rfl⟩
        have hls : ls.length ≤ sizeLine := by
          have e : ls.length = ls.cps.size := rfl
          have t : (26 : Nat) < sizeLine := by decide
          omega
        obtain ⟨c1, c2⟩ := cut3_len hl0
        refine ⟨rfl, V.ref p, rfl, V.str ls, rfl, 3, rfl, ls, rfl, hls, p, l, .str (cutS ls none (some 3)), ns, k4, lf4, _, rfl, P4, hn, i2, by omega, i3, .inr ⟨_, rfl, rfl⟩, by rw [List.length_map]; exact c1, by rw [List.length_map]; exact c2, fun G6 k6 lf6 y j1 j2 j3 hy s6 P6 => ?_⟩
        obtain ⟨c, hc, rfl⟩ := List.mem_map.mp hy
        have nDp : D2 ≠ p := ne_of h4 P4.dc (by intro z; cases z)
        have hD6 := s6 _ _ nDp h4
        refine ⟨_, hD6, ?_, k6, lf6, cs ++ [c], ?_, j2, j3, ⟨?_, ?_⟩, ?_, ?_, ?_, ?_⟩
        · rw [List.length_map, List.length_map, hcs]
          have t : (45 : Nat) < sizeLine := by decide
          omega
        · have z : ((j + 1 : Nat) : Int) = (j : Int) + 1 := by omega
          omega
        · rw [upd_ne (Ne.symm nDp)]
          exact P6.dc
        · rw [upd_ne (ne_of_none P3.ls nD2)]
          exact P6.ls
        · intro c o hc e
          rw [upd_ne (ne_of_none e nD2)]
          exact s6 _ _ hc (s4 _ _ hc e)
        · rw [List.map_append, List.map_append]
          exact upd_same
        · rw [List.length_append, hcs]
          rfl
        · intro z hz
          rcases List.mem_append.mp hz with hz | hz
          · exact hC z hz
          · obtain rfl : z = c := by simpa using hz
            exact cut3_mem hc
      · rintro G4 ⟨k4, lf4, cs, i1, i2, i3, P4, s4, h4, hcs, hC⟩
        have hc4 : (cs.length : Int) ≤ nn := by omega
        refine ⟨"", D2, _, rfl, rfl, .inl (.inl (.inl h4)), ?_, ?_⟩
        · rw [sum_ones]
          have z : (Str.ofString "").length = 0 := by decide
          rw [z]
          omega
        rw [txt_join_chars]
        have hb4 := s4 _ _ bn (s3 _ _ bn hb2)
        have s04 := (s2.trans s3).trans s4
        have hov : OverL ls ⟨cs.toArray⟩ ∧ ((⟨cs.toArray⟩ : Str).cps.size : Int) ≤ nn := by
          refine ⟨⟨?_, fun c hc => hC c (by simpa using hc)⟩, ?_⟩
          · show cs.toArray.size ≤ 200
            rw [List.size_toArray]
            omega
          · show (cs.toArray.size : Int) ≤ nn
            rw [List.size_toArray]
            omega
        refine ⟨V.str ⟨cs.toArray⟩, rfl, V.ref b, rfl, b, ws.map V.str, rfl, .inl (.inl (.inl hb4)), rfl, flat_strs ws, _, rfl, ?_⟩
        have b5 : (45 : Nat) < sizeLine := by decide
        have z : ((i + 1 : Nat) : Int) = (i : Int) + 1 := by omega
        refine ite2 (fun c => ?_) (fun c => ?_)
        · refine ⟨V.ref b, rfl, .inl ⟨rfl, _, .inl (.inl hb4)⟩, V.str ⟨cs.toArray⟩, rfl, b, _, _, rfl, rfl, hb4, by rw [List.length_map]; omega, _, _, k4, lf4, ws ++ [⟨cs.toArray⟩], rfl, by omega, i2, i3, ⟨?_, ?_⟩, ?_, ?_, ?_, ?_, ?_⟩
          · rw [upd_ne (Ne.symm bn)]
            exact P4.dc
          · rw [upd_ne (ne_of_none hp.ls nb)]
            exact P4.ls
          · intro c o hc e
            rw [upd_ne (ne_of_none e nb)]
            exact s04 _ _ hc e
          · rw [List.map_append]
            exact upd_same
          · rw [List.length_append]
            show ws.length + 1 ≤ i + 1
            omega
          · rw [inV_strs] at c
            refine List.nodup_append.mpr ⟨hnd, by simp, fun a ha b hb z => ?_⟩
            obtain rfl : b = ⟨cs.toArray⟩ := by simpa using hb
            subst z
            simp [ha] at c
          · intro y hy
            rcases List.mem_append.mp hy with hy | hy
            · exact hW y hy
            · obtain rfl : y = ⟨cs.toArray⟩ := by simpa using hy
              exact hov
        · exact ⟨_, _, k4, lf4, ws, rfl, by omega, i2, i3, P4, s04, hb4, by omega, hnd, hW⟩
    · rintro σ G ⟨x5, x6, kk1, lg, ws, rfl, f1, f2, f3, P2, s2, hb2, hw, hnd, hW⟩
      exact ⟨V.ref b, rfl, kk G kk1 lg b ws (by omega) f2 f3 hW (by omega) hnd s2 P2 hb2 nb⟩
end
end SK
namespace SK
open PySem PySem.Spec PyProof.Rows L2 LamX NdefX
open K0 (De DeAll XCl spX withX)
/-! ### lists that hold the same words are sorted alike -/
theorem str_ext {x y : Str} (h : x.cps.toList = y.cps.toList) : x = y := by
  obtain ⟨x⟩ := x
  obtain ⟨y⟩ := y
  congr 1
  exact Array.toList_inj.mp h
theorem keyW_list (ls x : Str) : (keyW ls x).cps.toList = x.cps.toList.map fun c => 97 + rankOf ls c := by
  unfold keyW
  simp
theorem keyW_inj {ls x y : Str} (hx : OverL ls x) (hy : OverL ls y) (h : (keyW ls x).cps.toList = (keyW ls y).cps.toList) : x = y := by
  rw [keyW_list, keyW_list] at h
  have h3 : (x.cps.toList.map fun c => ((rankOf ls c : Nat) : Int)) = (y.cps.toList.map fun c => ((rankOf ls c : Nat) : Int)) := by
    have z := congrArg (List.map fun n : Nat => (n : Int) - 97) h
    rw [List.map_map, List.map_map] at z
    have e : ((fun n : Nat => (n : Int) - 97) ∘ fun c => 97 + rankOf ls c) = fun c => ((rankOf ls c : Nat) : Int) := by
      funext c
      show ((97 + rankOf ls c : Nat) : Int) - 97 = _
      omega
    rwa [e] at z
  exact str_ext (ranks_inj _ _ hx.2 hy.2 h3)
theorem sortW_eq' (ls : Str) (ws : List Str) : sortW ls ws = ws.mergeSort fun a b => decide ((keyW ls a).cps.toList ≤ (keyW ls b).cps.toList) := by
  unfold sortW
  rw [PySem.W.dataLe_str]
theorem sortW_pw (ls : Str) (ws : List Str) : (sortW ls ws).Pairwise fun a b => (keyW ls a).cps.toList ≤ (keyW ls b).cps.toList := by
  rw [sortW_eq']
  have z := List.pairwise_mergeSort (le := fun a b => decide ((keyW ls a).cps.toList ≤ (keyW ls b).cps.toList)) (fun a b c h1 h2 => decide_eq_true (List.le_trans (of_decide_eq_true h1) (of_decide_eq_true h2)))
    (fun a b => by
      rw [Bool.or_eq_true, decide_eq_true_eq, decide_eq_true_eq]
      exact List.le_total _ _) ws
  exact z.imp fun h => of_decide_eq_true h
theorem sortW_congr {ls : Str} {p1 p2 : List Str} (h : p1.Perm p2) (ho : ∀ y ∈ p1, OverL ls y) : sortW ls p1 = sortW ls p2 := by
  refine List.Perm.eq_of_pairwise (fun a b ha hb h1 h2 => ?_) (sortW_pw ls p1) (sortW_pw ls p2) ((sortW_perm ls p1).trans (h.trans (sortW_perm ls p2).symm))
  exact keyW_inj (ho a ((sortW_perm ls p1).mem_iff.mp ha)) (ho b (h.mem_iff.mpr ((sortW_perm ls p2).mem_iff.mp hb))) (List.le_antisymm h1 h2)
theorem sortW_sorted {ls : Str} {ps : List Str} (ho : ∀ y ∈ ps, OverL ls y) : sortW ls (sortW ls ps) = sortW ls ps :=
  (sortW_congr (sortW_perm ls ps).symm ho).symm
/-! ### the letters below a place -/
theorem snoc_list (q : Str) (c : Nat) : (q ++ (⟨#[c]⟩ : Str)).cps.toList = q.cps.toList ++ [c] := by
  show (q.cps ++ #[c]).toList = _
  simp
theorem belL_mem {ps : List Str} {q : Str} {c : Nat} : c ∈ belL ps q ↔ (q ++ (⟨#[c]⟩ : Str)) ∈ ps := by
  unfold belL
  rw [List.mem_filterMap]
  constructor
  · rintro ⟨r, hr, e⟩
    by_cases h : r ≠ Str.ofString "" ∧ initS r = q
    · rw [if_pos h] at e
      have er : r = q ++ (⟨#[c]⟩ : Str) := by
        refine str_ext ?_
        rw [snoc_list, ← h.2]
        unfold initS
        simp only [List.toList_toArray]
        obtain ⟨z1, z2⟩ := List.getLast?_eq_some_iff.mp e
        rw [z2]
        simp
      rw [← er]
      exact hr
    · rw [if_neg h] at e
      cases e
  · intro h
    refine ⟨_, h, ?_⟩
    have n : q ++ (⟨#[c]⟩ : Str) ≠ Str.ofString "" := fun z => by
      have z2 := congrArg (fun s : Str => s.cps.toList) z
      simp only [snoc_list] at z2
      rw [show (Str.ofString "").cps.toList = [] from by decide +kernel] at z2
      simp at z2
    have i : initS (q ++ (⟨#[c]⟩ : Str)) = q := by
      refine str_ext ?_
      unfold initS
      rw [List.toList_toArray, snoc_list]
      simp
    rw [if_pos ⟨n, i⟩, snoc_list]
    simp
theorem snoc_le (l : List Nat) {a b : Nat} (h : l ++ [a] ≤ l ++ [b]) : a ≤ b := by
  induction l with
  | nil =>
    have h : [a] ≤ [b] := h
    rw [List.cons_le_cons_iff] at h
    rcases h with h | h
    · omega
    · omega
  | cons x r ih =>
    have h : x :: (r ++ [a]) ≤ x :: (r ++ [b]) := h
    rw [List.cons_le_cons_iff] at h
    rcases h with h | h
    · omega
    · exact ih h.2
theorem idx_pw : ∀ {l : List Nat}, l.Nodup → l.Pairwise fun a b => l.idxOf a ≤ l.idxOf b := by
  intro l nd
  rw [List.pairwise_iff_getElem]
  intro i j hi hj hij
  have e : ∀ (k : Nat) (hk : k < l.length), l.idxOf l[k] = k := fun k hk => by
    have h1 : l.idxOf l[k] < l.length := List.idxOf_lt_length_of_mem (List.getElem_mem hk)
    have h2 : l[l.idxOf l[k]]? = some l[k] := by rw [List.getElem?_eq_getElem h1, List.getElem_idxOf]
    exact nd_ix nd h2 (List.getElem?_eq_getElem hk)
  rw [e i hi, e j hj]
  omega
theorem belS_eq {ls q : Str} {ps : List Str} (hl : ls.cps.toList.Nodup) (nd : ps.Nodup) (ho : ∀ y ∈ ps, OverL ls y) (hs : sortW ls ps = ps) : belL ps q = ls.cps.toList.filter fun c => decide ((q ++ (⟨#[c]⟩ : Str)) ∈ ps) := by
  have mem : ∀ c, c ∈ belL ps q → c ∈ ls.cps.toList := fun c hc => (ho _ (belL_mem.mp hc)).2 c (by rw [snoc_list]; simp)
  have ndB : (belL ps q).Nodup := by
    unfold belL
    refine List.Pairwise.filterMap (R := fun a b => a ≠ b) (S := fun a b => a ≠ b) _ (fun a a' hne b hb b' hb' z => hne ?_) nd
    have dec : ∀ {r : Str} {c : Nat}, (if r ≠ Str.ofString "" ∧ initS r = q then r.cps.toList.getLast? else none) = some c → r = q ++ (⟨#[c]⟩ : Str) := fun {r c} e => by
      by_cases h : r ≠ Str.ofString "" ∧ initS r = q
      · rw [if_pos h] at e
        refine str_ext ?_
        rw [snoc_list, ← h.2]
        unfold initS
        simp only [List.toList_toArray]
        obtain ⟨z1, z2⟩ := List.getLast?_eq_some_iff.mp e
        rw [z2]
        simp
      · rw [if_neg h] at e
        cases e
    rw [dec hb, dec hb', z]
  have pwB : (belL ps q).Pairwise fun a b => ls.cps.toList.idxOf a ≤ ls.cps.toList.idxOf b := by
    have z := sortW_pw ls ps
    rw [hs] at z
    unfold belL
    refine List.Pairwise.filterMap _ (fun a a' hle b hb b' hb' => ?_) z
    have dec : ∀ {r : Str} {c : Nat}, (if r ≠ Str.ofString "" ∧ initS r = q then r.cps.toList.getLast? else none) = some c → r = q ++ (⟨#[c]⟩ : Str) := fun {r c} e => by
      by_cases h : r ≠ Str.ofString "" ∧ initS r = q
      · rw [if_pos h] at e
        refine str_ext ?_
        rw [snoc_list, ← h.2]
        unfold initS
        simp only [List.toList_toArray]
        obtain ⟨z1, z2⟩ := List.getLast?_eq_some_iff.mp e
        rw [z2]
        simp
      · rw [if_neg h] at e
        cases e
    rw [dec hb, dec hb', keyW_list, keyW_list, snoc_list, snoc_list, List.map_append, List.map_append] at hle
    have z2 : 97 + rankOf ls b ≤ 97 + rankOf ls b' := snoc_le _ hle
    unfold rankOf at z2
    omega
  refine List.Perm.eq_of_pairwise (le := fun a b => ls.cps.toList.idxOf a ≤ ls.cps.toList.idxOf b) (fun a b ha hb h1 h2 => ?_) pwB ((idx_pw hl).filter _) ((List.perm_ext_iff_of_nodup ndB (hl.filter _)).mpr fun c => ?_)
  · have e : ls.cps.toList.idxOf a = ls.cps.toList.idxOf b := by omega
    have ma := mem a ha
    have mb := (List.mem_filter.mp hb).1
    have h1 : ls.cps.toList.idxOf a < ls.cps.toList.length := List.idxOf_lt_length_of_mem ma
    have h2 : ls.cps.toList.idxOf b < ls.cps.toList.length := List.idxOf_lt_length_of_mem mb
    have g1 : ls.cps.toList[ls.cps.toList.idxOf a]? = some a := by rw [List.getElem?_eq_getElem h1, List.getElem_idxOf]
    have g2 : ls.cps.toList[ls.cps.toList.idxOf b]? = some b := by rw [List.getElem?_eq_getElem h2, List.getElem_idxOf]
    rw [e, g2] at g1
    exact (Option.some.inj g1).symm
  · rw [belL_mem, List.mem_filter, decide_eq_true_eq]
    exact ⟨fun h => ⟨mem c (belL_mem.mpr h), h⟩, fun h => h.2⟩
end SK
namespace SK
open PySem PySem.Spec PyProof.Rows L2 LamX NdefX
open K0 (De DeAll XCl spX withX)
theorem Same.seqT {K : PySem.W.Frag} {H H' : Hp} {a : Addr} {xs : List V} (s : Same H H') (h : SqT K H a xs) : SqT K H' a xs := by
  rcases h with (h | ⟨o, h⟩) | h
  · exact .inl (.inl (s _ _ h))
  · exact .inl (.inr ⟨o, s _ _ h⟩)
  · exact .inr h
section
variable {K : PySem.W.Frag} {a : Addr} {xs : List V} {g : TG} {tt : TT} {te : TE} {vs : List Nat} {σ : St} {H1 : Hp} {D : Addr} {Qd : Hp → Prop}
/-- what is asked of one turn -/
def TurnF (g : TG) (tt : TT) (te : TE) (vs : List Nat) (σ : St) (x y : V) (b : Bool) (H : Hp) : Prop :=
  ∀ (A : V → Hp → Prop) (B : Hp → Prop), (b = true → A y H) → (b = false → B H) → g x (wipe σ vs) H fun σ2 H2 => wipe σ2 vs = wipe σ vs ∧ tt σ2 H2 fun b H3 => if b = true then te σ2 H3 A else B H3
theorem same_new (nD : H1 D = none) {o : HO} : Same H1 (upd H1 D o) := fun c u h => by
  rw [upd_ne (ne_of_none h nD)]
  exact h
theorem same_upd {H : Hp} (nD : H1 D = none) {o : HO} (s : Same H1 H) : Same H1 (upd H D o) := fun c u h => by
  rw [upd_ne (ne_of_none h nD)]
  exact s _ _ h
theorem take_snoc {α : Type} {l : List α} {i : Nat} {x : α} (h : l[i]? = some x) : l.take (i + 1) = l.take i ++ [x] := by
  rw [List.take_add_one, h]
  rfl
theorem filt_snoc {α : Type} {ws : List α} {f : α → V} {c : α → Bool} {i : Nat} {x : α} (h : ws[i]? = some x) : ((ws.take (i + 1)).filter c).map f = ((ws.take i).filter c).map f ++ (if c x = true then [f x] else []) := by
  rw [take_snoc h, List.filter_append, List.map_append]
  by_cases hc : c x = true
  · rw [if_pos hc, List.filter_cons_of_pos hc]
    rfl
  · rw [if_neg hc, List.filter_cons_of_neg hc]
    rfl
theorem filt_len {α : Type} {ws : List α} {f : α → V} {c : α → Bool} {i : Nat} : (((ws.take i).filter c).map f).length ≤ ws.length := by
  rw [List.length_map]
  exact Nat.le_trans (List.length_filter_le _ _) (by rw [List.length_take]; omega)
theorem map_at {α : Type} {enc : α → V} {ws : List α} {i : Nat} {x : V} (h : (ws.map enc)[i]? = some x) : ∃ y, ws[i]? = some y ∧ x = enc y := by
  rw [List.getElem?_map] at h
  cases e : ws[i]? with
  | none =>
    rw [e] at h
    cases h
  | some y =>
    rw [e] at h
    exact ⟨y, rfl, (Option.some.inj h).symm⟩
theorem lcF_list {α : Type} {ws : List α} (enc : α → V) (nD : H1 D = none) (f : α → V) (c : α → Bool) (hS : SqL K H1 a (ws.map enc)) (hz : ws.length < sizeLine) (step : ∀ (i : Nat) (x : α) (H : Hp), ws[i]? = some x → Same H1 H → TurnF g tt te vs σ (enc x) (f x) (c x) H)
    (fin : ∀ H, Same H1 H → H D = some (.lst ((ws.filter c).map f)) → Qd H) :
    ∃ W : Nat → Nat → Hp → Prop, (∃ m, W 0 m (upd H1 D (.lst []))) ∧ ∀ i m H, W i m H →
      ((Itl K a).stop i H ∧ Qd H) ∨ ((Itl K a).go i H ∧ ∃ Nx : Hp → Prop, (∀ H', Nx H' → ∃ m', m' < m ∧ W (i + 1) m' H') ∧ ∀ x H', (Itl K a).yld i H x H' → g x (wipe σ vs) H' fun σ2 H2 => wipe σ2 vs = wipe σ vs ∧ tt σ2 H2 fun b H3 =>
        if b = true then te σ2 H3 fun y H4 => ∃ acc, H4 D = some (.lst acc) ∧ acc.length < sizeLine ∧ Nx (upd H4 D (.lst (acc ++ [y]))) else Nx H3) := by
  refine lc_list (K := K) (a := a) (xs := ws.map enc) (fun i H => Same H1 H ∧ H D = some (.lst (((ws.take i).filter c).map f))) ⟨same_new nD, upd_same⟩ (fun i H _ p => Same.seq p.1 hS) (fun i x H hx p => ?_) fun H p => fin H p.1 (by rw [List.length_map, List.take_length] at p; exact p.2)
  obtain ⟨s, hD⟩ := p
  obtain ⟨y, hy, rfl⟩ := map_at hx
  refine step i y H hy s _ _ (fun hc => ⟨_, hD, Nat.lt_of_le_of_lt filt_len hz, same_upd nD s, ?_⟩) fun hc => ⟨s, ?_⟩
  · rw [filt_snoc hy, if_pos hc]
    exact upd_same
  · rw [filt_snoc hy, if_neg (by rw [hc]; simp), List.append_nil]
    exact hD
theorem lcF_tup {α : Type} {ws : List α} (enc : α → V) (nD : H1 D = none) (f : α → V) (c : α → Bool) (hS : SqT K H1 a (ws.map enc)) (hz : ws.length < sizeLine) (step : ∀ (i : Nat) (x : α) (H : Hp), ws[i]? = some x → Same H1 H → TurnF g tt te vs σ (enc x) (f x) (c x) H)
    (fin : ∀ H, Same H1 H → H D = some (.lst ((ws.filter c).map f)) → Qd H) :
    ∃ W : Nat → Nat → Hp → Prop, (∃ m, W 0 m (upd H1 D (.lst []))) ∧ ∀ i m H, W i m H →
      ((Itt K a).stop i H ∧ Qd H) ∨ ((Itt K a).go i H ∧ ∃ Nx : Hp → Prop, (∀ H', Nx H' → ∃ m', m' < m ∧ W (i + 1) m' H') ∧ ∀ x H', (Itt K a).yld i H x H' → g x (wipe σ vs) H' fun σ2 H2 => wipe σ2 vs = wipe σ vs ∧ tt σ2 H2 fun b H3 =>
        if b = true then te σ2 H3 fun y H4 => ∃ acc, H4 D = some (.lst acc) ∧ acc.length < sizeLine ∧ Nx (upd H4 D (.lst (acc ++ [y]))) else Nx H3) := by
  refine lc_tup (K := K) (a := a) (xs := ws.map enc) (fun i H => Same H1 H ∧ H D = some (.lst (((ws.take i).filter c).map f))) ⟨same_new nD, upd_same⟩ (fun i H _ p => SK.Same.seqT p.1 hS) (fun i x H hx p => ?_) fun H p => fin H p.1 (by rw [List.length_map, List.take_length] at p; exact p.2)
  obtain ⟨s, hD⟩ := p
  obtain ⟨y, hy, rfl⟩ := map_at hx
  refine step i y H hy s _ _ (fun hc => ⟨_, hD, Nat.lt_of_le_of_lt filt_len hz, same_upd nD s, ?_⟩) fun hc => ⟨s, ?_⟩
  · rw [filt_snoc hy, if_pos hc]
    exact upd_same
  · rw [filt_snoc hy, if_neg (by rw [hc]; simp), List.append_nil]
    exact hD
end
abbrev Spot := Str × Bool × Bool
def rowD (s : Spot) : PyData := .tuple [.str s.1, .bool s.2.1, .bool s.2.2]
def plc (S : List Spot) : List Str := S.map (·.1)
theorem places_rows (S : List Spot) : (S.map rowD).map placeOf = plc S := by
  rw [List.map_map]
  rfl
theorem uniq {S : List Spot} (nd : (plc S).Nodup) {s t : Spot} (hs : s ∈ S) (ht : t ∈ S) (e : s.1 = t.1) : s = t := by
  induction S with
  | nil => cases hs
  | cons u S ih =>
    have nd' : (u.1 :: plc S).Nodup := nd
    rw [List.nodup_cons] at nd'
    rcases List.mem_cons.mp hs with rfl | hs'
    · rcases List.mem_cons.mp ht with rfl | ht'
      · rfl
      · exact absurd (show s.1 ∈ plc S from List.mem_map.mpr ⟨t, ht', e.symm⟩) nd'.1
    · rcases List.mem_cons.mp ht with rfl | ht'
      · exact absurd (show t.1 ∈ plc S from List.mem_map.mpr ⟨s, hs', e⟩) nd'.1
      · exact ih nd'.2 hs' ht'
def marked (S : List Spot) (y : Str) : Bool := S.any fun s => decide (s.1 = y) && s.2.1
theorem marked_of {S : List Spot} (nd : (plc S).Nodup) {s : Spot} (hs : s ∈ S) : marked S s.1 = s.2.1 := by
  unfold marked
  cases e : s.2.1 with
  | true => exact List.any_eq_true.mpr ⟨s, hs, by simp [e]⟩
  | false =>
    rw [List.any_eq_false]
    intro t ht
    simp only [Bool.and_eq_true, decide_eq_true_eq, not_and]
    intro q
    rw [uniq nd ht hs q, e]
    exact Bool.false_ne_true
theorem valV_at {kvs : List (Key × V)} {i : Nat} {k : Key} {v : V} (nd : (kvs.map Prod.fst).Nodup) (h : kvs[i]? = some (k, v)) : valV kvs k = some v := by
  have hm : (k, v) ∈ kvs := List.mem_of_getElem? h
  have any : (kvs.any fun kv => decide (kv.1 = k)) = true := List.any_eq_true.mpr ⟨_, hm, by simp⟩
  rw [valV_any] at any
  obtain ⟨u, hu⟩ := Option.isSome_iff_exists.mp any
  obtain ⟨kv, m, e1, e2⟩ := valV_key hu
  have : kv = (k, v) := by
    clear h hu any
    induction kvs with
    | nil => cases m
    | cons c r ih =>
      rw [List.map_cons, List.nodup_cons] at nd
      rcases List.mem_cons.mp m with rfl | m'
      · rcases List.mem_cons.mp hm with h | hm'
        · exact h.symm
        · exact absurd (show kv.1 ∈ r.map Prod.fst from List.mem_map.mpr ⟨(k, v), hm', e1.symm⟩) nd.1
      · rcases List.mem_cons.mp hm with rfl | hm'
        · exact absurd (show k ∈ r.map Prod.fst from List.mem_map.mpr ⟨kv, m', e1⟩) nd.1
        · exact ih nd.2 hm' m'
  subst this
  rw [hu]
  exact congrArg some e2.symm
theorem de_row {K : PySem.W.Frag} {H : Hp} {v : V} {s : Spot} (h : De K H v (.tuple (elems (rowD s)))) : ∃ t, v = .ref t ∧ H t = some (.tup [.str s.1, .bl s.2.1, .bl s.2.2]) := by
  have h : De K H v (.tuple [.str s.1, .bool s.2.1, .bool s.2.2]) := h
  cases h with
  | tup ha hd =>
    cases hd with
    | cons h1 hd =>
      cases hd with
      | cons h2 hd =>
        cases hd with
        | cons h3 hd =>
          cases hd
          cases h1
          cases h2
          cases h3
          exact ⟨_, rfl, ha⟩
abbrev tm (i : Nat) : Stmt := inClass (top 28) i
/-! ### what is kept: all but the pen and the tables -/
def Kx (H H' : Hp) : Prop := ∀ b o, H b = some o → (∀ ps, o ≠ .tbl ps) → (∀ l k lf, o ≠ .dK (pen l k lf)) → H' b = some o
theorem Kx.refl (H : Hp) : Kx H H := fun _ _ h _ _ => h
theorem Kx.trans {H H1 H2 : Hp} (a : Kx H H1) (b : Kx H1 H2) : Kx H H2 := fun c o h t q => b c o (a c o h t q) t q
theorem Kx.of {H H' : Hp} (s : Same H H') : Kx H H' := fun c o h _ _ => s c o h
theorem Kx.ext {H H' : Hp} (s : ExtN H H') : Kx H H' := fun c o h t _ => s c o h t
theorem Kx.but {H H' : Hp} {p l : Addr} {ns : List Int} {k lf : Int} (hp : PenAt H p l ns k lf) (s : SameBut p H H') : Kx H H' := fun c o h _ q => s c o (fun z => by
  rw [z, hp.dc] at h
  exact q l k lf (Option.some.inj h).symm) h
mutual
theorem de_kx {K : PySem.W.Frag} {H H' : Hp} (m : Kx H H') : ∀ {d : PyData} {v : V}, De K H v d → De K H' v d
  | _, _, .non => .non
  | _, _, .bl b => .bl b
  | _, _, .int i => .int i
  | _, _, .str x => .str x
  | _, _, .lst ha hd => .lst (m _ _ ha (fun _ z => nomatch z) (fun _ _ _ z => nomatch z)) (de_kxAll m hd)
  | _, _, .tup ha hd => .tup (m _ _ ha (fun _ z => nomatch z) (fun _ _ _ z => nomatch z)) (de_kxAll m hd)
  | _, _, .dic ha => .dic (m _ _ ha (fun _ z => nomatch z) (fun _ _ _ z => nomatch z))
theorem de_kxAll {K : PySem.W.Frag} {H H' : Hp} (m : Kx H H') : ∀ {ds : List PyData} {vs : List V}, DeAll K H vs ds → DeAll K H' vs ds
  | _, _, .nil => .nil
  | _, _, .cons h1 h2 => .cons (de_kx m h1) (de_kxAll m h2)
end
/-! ### a tree, by its letters and its places in their order -/
def Hgt (ps : List Str) (m : Int) : Prop := (∃ y ∈ ps, m = (y.length : Nat)) ∧ ∀ y ∈ ps, ((y.length : Nat) : Int) ≤ m
structure TreeP (K : PySem.W.Frag) (CT : Addr) (H : Hp) (ls : Str) (S : List Spot) (a dx B Tb l : Addr) (fs : List (Str × V)) (kvs kv2 : List (Key × V)) (xs : List V) (m : Int) : Prop where
  ins : H a = some (.ins CT dx fs)
  f1 : fs.lookup ("_below" : Str) = some (.ref B)
  f2 : fs.lookup ("_table" : Str) = some (.ref Tb)
  f3 : fs.lookup ("rows" : Str) = some (.ref l)
  f4 : fs.lookup ("letters" : Str) = some (.str ls)
  f5 : fs.lookup ("size" : Str) = some (.int (S.length : Nat))
  f6 : fs.lookup ("height" : Str) = some (.int m)
  no : ∀ g : Str, g ∉ six6 → fs.lookup g = none
  t1 : H Tb = some (.dK kvs)
  t2 : kvs.length ≤ 5000
  t3 : ∀ y, (valV kvs (.inr y)).isSome = decide (y ∈ plc S)
  t4 : ∀ s ∈ S, ∃ t, valV kvs (.inr s.1) = some (.ref t) ∧ H t = some (.tup [.str s.1, .bl s.2.1, .bl s.2.2])
  b1 : H B = some (.dK kv2)
  b2 : ∀ y, (valV kv2 (.inr y)).isSome = decide (y ∈ plc S)
  b3 : ∀ p ∈ plc S, valV kv2 (.inr p) = some (.str (belS (plc S) p))
  r1 : H l = some (.tup xs)
  r2 : DeAll K H xs (S.map rowD)
  hm : Hgt (plc S) m
def TreeF (K : PySem.W.Frag) (CT : Addr) (H : Hp) (x : V) (ls : Str) (S : List Spot) : Prop := ∃ (a dx B Tb l : Addr) (fs : List (Str × V)) (kvs kv2 : List (Key × V)) (xs : List V) (m : Int), x = .ref a ∧ TreeP K CT H ls S a dx B Tb l fs kvs kv2 xs m
theorem pen_root (l : Addr) (k lf : Int) : valV (pen l k lf) (Sum.inr (Str.ofString "")) = none := by kernel_rfl
/-- lists apart -/
def Ky (H H' : Hp) : Prop := ∀ b o, H b = some o → (∀ ps, o ≠ .tbl ps) → (∀ l k lf, o ≠ .dK (pen l k lf)) → (∀ xs, o ≠ .lst xs) → H' b = some o
theorem Kx.y {H H' : Hp} (m : Kx H H') : Ky H H' := fun c o h t q _ => m c o h t q
theorem Ky.trans {H H1 H2 : Hp} (a : Ky H H1) (b : Ky H1 H2) : Ky H H2 := fun c o h t q y => b c o (a c o h t q y) t q y
theorem rows_ky {K : PySem.W.Frag} {H H' : Hp} (m : Ky H H') : ∀ {S : List Spot} {xs : List V}, DeAll K H xs (S.map rowD) → DeAll K H' xs (S.map rowD)
  | [], _, .nil => .nil
  | s :: S, _, .cons h1 h2 => by
    refine .cons ?_ (rows_ky m h2)
    have h1 : De K H _ (.tuple [.str s.1, .bool s.2.1, .bool s.2.2]) := h1
    cases h1 with
    | tup ha hd =>
      cases hd with
      | cons g1 hd =>
        cases hd with
        | cons g2 hd =>
          cases hd with
          | cons g3 hd =>
            cases hd
            cases g1
            cases g2
            cases g3
            exact .tup (m _ _ ha (fun _ z => nomatch z) (fun _ _ _ z => nomatch z) (fun _ z => nomatch z)) (.cons (.str _) (.cons (.bl _) (.cons (.bl _) .nil)))
theorem TreeF.ky {K : PySem.W.Frag} {CT : Addr} {H H' : Hp} {x : V} {ls : Str} {S : List Spot} (t : TreeF K CT H x ls S) (hr : Str.ofString "" ∈ plc S) (m : Ky H H') : TreeF K CT H' x ls S := by
  obtain ⟨a, dx, B, Tb, l, fs, kvs, kv2, xs, hh, rfl, T⟩ := t
  have np : ∀ {kv : List (Key × V)}, (∀ y, (valV kv (.inr y)).isSome = decide (y ∈ plc S)) → ∀ l k lf, HO.dK kv ≠ .dK (pen l k lf) := fun {kv} h l k lf z => by
    injection z with z
    have q := h (Str.ofString "")
    rw [z, pen_root, decide_eq_true hr] at q
    cases q
  refine ⟨a, dx, B, Tb, l, fs, kvs, kv2, xs, hh, rfl, ?_⟩
  exact { T with
    ins := m _ _ T.ins (fun _ z => nomatch z) (fun _ _ _ z => nomatch z) (fun _ z => nomatch z)
    t1 := m _ _ T.t1 (fun _ z => nomatch z) (np T.t3) (fun _ z => nomatch z)
    t4 := fun s hs => by
      obtain ⟨t, h1, h2⟩ := T.t4 s hs
      exact ⟨t, h1, m _ _ h2 (fun _ z => nomatch z) (fun _ _ _ z => nomatch z) (fun _ z => nomatch z)⟩
    b1 := m _ _ T.b1 (fun _ z => nomatch z) (np T.b2) (fun _ z => nomatch z)
    r1 := m _ _ T.r1 (fun _ z => nomatch z) (fun _ _ _ z => nomatch z) (fun _ z => nomatch z)
    r2 := rows_ky m T.r2 }
theorem TreeF.kx {K : PySem.W.Frag} {CT : Addr} {H H' : Hp} {x : V} {ls : Str} {S : List Spot} (t : TreeF K CT H x ls S) (hr : Str.ofString "" ∈ plc S) (m : Kx H H') : TreeF K CT H' x ls S := t.ky hr m.y
/-- good places, in their order -/
structure GoodS (ls : Str) (S : List Spot) : Prop where
  nd : (plc S).Nodup
  root : Str.ofString "" ∈ plc S
  up : ∀ p ∈ plc S, p ≠ Str.ofString "" → initS p ∈ plc S
  ov : ∀ p ∈ plc S, OverL ls p
  n : S.length ≤ 2000
  ord : sortW ls (plc S) = plc S
/-- rows that tell S, in any order, as tuples or lists -/
def RowsOf (ds : List PyData) (S : List Spot) : Prop := (∀ d ∈ ds, isTL d = true) ∧ (ds.map elems).Perm (S.map fun s => elems (rowD s))
theorem RowsOf.places {ds : List PyData} {S : List Spot} (h : RowsOf ds S) : (ds.map placeOf).Perm (plc S) := by
  have z := h.2.map fun es : List PyData => match es with
    | .str x :: _ => x
    | _ => Str.empty
  rw [List.map_map, List.map_map] at z
  exact z
theorem RowsOf.mem {ds : List PyData} {S : List Spot} (h : RowsOf ds S) {d : PyData} (hd : d ∈ ds) : ∃ s ∈ S, elems d = [.str s.1, .bool s.2.1, .bool s.2.2] ∧ placeOf d = s.1 := by
  have z := h.2.mem_iff.mp (List.mem_map.mpr ⟨d, hd, rfl⟩)
  obtain ⟨s, hs, e⟩ := List.mem_map.mp z
  have e : [.str s.1, .bool s.2.1, .bool s.2.2] = elems d := e
  exact ⟨s, hs, e.symm, by unfold placeOf; rw [← e]⟩
theorem RowsOf.mem' {ds : List PyData} {S : List Spot} (h : RowsOf ds S) {s : Spot} (hs : s ∈ S) : ∃ d ∈ ds, elems d = [.str s.1, .bool s.2.1, .bool s.2.2] ∧ placeOf d = s.1 := by
  have z := h.2.mem_iff.mpr (List.mem_map.mpr ⟨s, hs, rfl⟩)
  obtain ⟨d, hd, e⟩ := List.mem_map.mp z
  have e : elems d = [.str s.1, .bool s.2.1, .bool s.2.2] := e
  exact ⟨d, hd, e, by unfold placeOf; rw [e]⟩
theorem row_okR {ls : Str} {s : Spot} {d : PyData} (ht : isTL d = true) (e : elems d = [.str s.1, .bool s.2.1, .bool s.2.2]) (o : OverL ls s.1) : okR ls d = true := by
  have k : okR3 ls [.str s.1, .bool s.2.1, .bool s.2.2] = true := by
    show (decide (s.1.cps.size ≤ 200) && s.1.cps.toList.all fun c => decide (c ∈ ls.cps.toList)) && (isB (.bool s.2.1) && isB (.bool s.2.2)) = true
    rw [Bool.and_eq_true, Bool.and_eq_true, decide_eq_true_eq, List.all_eq_true]
    exact ⟨⟨o.1, fun c hc => decide_eq_true (o.2 c hc)⟩, rfl⟩
  cases d with
  | tuple ds =>
    have e : ds = _ := e
    subst e
    exact k
  | list ds =>
    have e : ds = _ := e
    subst e
    exact k
  | _ => cases ht
theorem scan_fineG {ls : Str} : ∀ {ds : List PyData} {seen : List Str} {i : Nat}, (∀ d ∈ ds, okR ls d = true) → (ds.map placeOf).Nodup → (∀ d ∈ ds, placeOf d ∉ seen) → scan ls seen i ds = none
  | [], _, _, _, _, _ => rfl
  | d :: r, seen, i, h1, h2, h3 => by
    show (if okR ls d = true ∧ placeOf d ∉ seen then scan ls (seen ++ [placeOf d]) (i + 1) r else some i) = none
    rw [if_pos ⟨h1 d (by simp), h3 d (by simp)⟩]
    rw [List.map_cons, List.nodup_cons] at h2
    refine scan_fineG (fun e he => h1 e (List.mem_cons_of_mem _ he)) h2.2 fun e he z => ?_
    rcases List.mem_append.mp z with z | z
    · exact h3 e (List.mem_cons_of_mem _ he) z
    · have z : placeOf e = placeOf d := by simpa using z
      exact h2.1 (by rw [← z]; exact List.mem_map.mpr ⟨e, he, rfl⟩)
theorem way_good {ls : Str} {S : List Spot} {ds : List PyData} (hL : okLb ls = true) (g : GoodS ls S) (h : RowsOf ds S) : way (.str ls) ds = .fine := by
  have pm := h.places
  have hl : ds.length = S.length := by
    have z := pm.length_eq
    unfold plc at z
    rw [List.length_map, List.length_map] at z
    exact z
  have hpos : 1 ≤ S.length := by
    have z := g.root
    unfold plc at z
    cases S with
    | nil => simp at z
    | cons _ _ => simp
  have hs : scan ls [] 0 ds = none := scan_fineG (fun d hd => by
    obtain ⟨s, hs, e1, e2⟩ := h.mem hd
    exact row_okR (h.1 d hd) e1 (g.ov _ (List.mem_map.mpr ⟨s, hs, rfl⟩))) (pm.nodup_iff.mpr g.nd) (fun d hd z => absurd z (by simp))
  have eo : sortW ls (ds.map placeOf) = plc S := by
    rw [sortW_congr pm fun y hy => g.ov y (pm.mem_iff.mp hy)]
    exact g.ord
  unfold way
  rw [if_pos (show okLd (.str ls) = true from hL), if_pos (by have := g.n; omega)]
  show (match scan ls [] 0 ds with
    | some i => Way.row i
    | none => match lone (sortW ls (ds.map placeOf)) with
      | some p => .lone p
      | none => .fine) = .fine
  rw [hs, eo]
  have hlo : lone (plc S) = none := by
    unfold lone
    rw [List.find?_eq_none]
    intro p hp
    unfold isLone
    by_cases e : p = Str.ofString ""
    · simp [e]
    · have z := g.up p hp e
      simp [z]
  show (match lone (plc S) with
      | some p => Way.lone p
      | none => .fine) = .fine
  rw [hlo]
/-- what __init__ leaves is the tree of S -/
theorem treeP_of {K : PySem.W.Frag} {CT a dx : Addr} {H : Hp} {fs : List (Str × V)} {ls : Str} {S : List Spot} {ds : List PyData} (hi : H a = some (.ins CT dx fs)) (g : GoodS ls S) (h : RowsOf ds S) (t : TreeAt K H fs ls ds) : TreeF K CT H (.ref a) ls S := by
  obtain ⟨B, Tb, l, kvs, kv2, ps, m, e1, e2, e3, ⟨e4, e5, e6, e7, e8⟩, e9, h1, h2, h3, h4, h5, h6, h7, h8⟩ := t
  have pm := h.places
  have eo : sortW ls (ds.map placeOf) = plc S := by
    rw [sortW_congr pm fun y hy => g.ov y (pm.mem_iff.mp hy)]
    exact g.ord
  rw [eo] at h7
  subst h7
  have hl : (plc S).length = S.length := by
    unfold plc
    rw [List.length_map]
  rw [hl] at e5
  have get : ∀ s ∈ S, ∃ t, valV kvs (.inr s.1) = some (.ref t) ∧ H t = some (.tup [.str s.1, .bl s.2.1, .bl s.2.2]) := fun s hs => by
    obtain ⟨d, hd, q1, q2⟩ := h.mem' hs
    obtain ⟨i, hi'⟩ := List.mem_iff_getElem?.mp hd
    obtain ⟨v, z1, z2⟩ := h2.2 i d hi'
    rw [q1] at z2
    obtain ⟨t, rfl, ht⟩ := de_row (s := s) z2
    rw [q2] at z1
    refine ⟨t, valV_at ?_ z1, ht⟩
    rw [h2.1]
    have e : (ds.map fun d => (Sum.inr (placeOf d) : Key)) = (ds.map placeOf).map fun p => (Sum.inr p : Key) := by
      rw [List.map_map]
      rfl
    rw [e]
    exact List.Pairwise.map _ (fun a b h z => h (by injection z)) (pm.nodup_iff.mpr g.nd)
  refine ⟨a, dx, B, Tb, l, fs, kvs, kv2, _, m, rfl, hi, e1, e2, e3, e4, e5, e6, e9, h1, h8, fun y => ?_, get, h3, h4.has, h5, h6, ?_, e7, e8⟩
  · rw [h2.has]
    by_cases hy : y ∈ plc S
    · rw [decide_eq_true hy, decide_eq_true (pm.mem_iff.mpr hy)]
    · rw [decide_eq_false hy, decide_eq_false fun z => hy (pm.mem_iff.mp z)]
  · unfold plc
    rw [List.map_map]
    have all : ∀ R : List Spot, (∀ s ∈ R, s ∈ S) → DeAll K H (R.map ((fun y => (valV kvs (.inr y)).getD V.non) ∘ fun s => s.1)) (R.map rowD) := by
      intro R
      induction R with
      | nil => exact fun _ => .nil
      | cons s R ih =>
        intro hR
        refine .cons ?_ (ih fun u hu => hR u (List.mem_cons_of_mem _ hu))
        obtain ⟨t, g1, g2⟩ := get s (hR s (by simp))
        show De K H ((valV kvs (.inr s.1)).getD V.non) _
        rw [g1]
        exact .tup g2 (.cons (.str _) (.cons (.bl _) (.cons (.bl _) .nil)))
    exact all S fun s hs => hs
end SK
namespace SK
open PySem PySem.Spec PyProof.Rows L2 LamX NdefX
/-- what is told of a class with own operators -/
structure Own (K : PySem.W.Frag) (C : Addr) : Prop where
  cd : ∃ cd rest, PySem.W.clsIn K C = some cd ∧ cd.mro = .ref C :: rest
  s1 : PySem.W.subIn K (.type "int") (.ref C) = some false
  s2 : PySem.W.subIn K (.ref C) (.type "int") = some false
  s3 : PySem.W.subIn K (.type "tuple") (.ref C) = some false
  sf : PySem.W.selfFirst K C = true
structure Has (K : PySem.W.Frag) (C : Addr) (m : Str) (f : Addr) : Prop where
  at_ : PySem.W.findIn K (.ref C) m = some (some (.ref f))
  fn : PySem.W.isFn K (.ref f) = true
/-- an instance -/
def Ins (C : Addr) (H : Hp) (x : V) : Prop := ∃ a dx fs, x = .ref a ∧ H a = some (.ins C dx fs)
section
variable {X : Cx} {CX : CXT} {k : Nat} {f g C : Addr} {fd : FuncData} {ps : List Str} {sp : Sp} {E : XK}
theorem inst_of {pins : List (Addr × Obj)} {s : Shared} {σ : St} {H : Hp} {x : V} {v : Value} (I : Inv X pins σ H s) (h : Ins C H x) (r : RelV x v) : ∃ a dx od, x = .ref a ∧ v = .ref a ∧ PySem.W.InstAt s.heap a (PySem.W.instObj C dx) C (some od) := by
  obtain ⟨a, dx, fs, rfl, ha⟩ := h
  obtain rfl : v = Value.ref a := r
  obtain ⟨mA, J, _⟩ := ins_get I.hok ha
  obtain ⟨od, J, _⟩ := J.look
  exact ⟨a, dx, od, rfl, rfl, J⟩
/-- a def's call in a nearer around -/
theorem run_at {A : Around} {pins : List (Addr × Obj)} {σ : St} {H : Hp} {s : Shared} {Q : VK} {us : List Value} {vs : List V} (F : FnOk X.prog X.w X.K X.mg X.base CX k f fd ps sp) (hr : Room k A) (e0 : Env0 X.prog X.w X.K X.mg X.base A X.stack s H) (hb : Binds X.K fd ps []) (hx : Passes CX X E)
    (I : Inv X pins σ H s) (r : Vals vs us) (h : sp vs H Q E) : wpAny (model X.prog X.w) A (call (.ref f) us) (EP X pins σ Q) X.xe s := by
  have hl : us.length = ps.length := by
    rw [← r.length]
    exact F.len _ _ _ _ h
  have b := hb s us I.kIn (by rw [List.append_nil]; exact hl)
  rw [List.append_nil] at b
  refine wpAny_call (codeAny_mono (F.run A X.stack s H ⟨us, []⟩ us vs Q E hr e0 b r h) fun r s' hq => ?_)
  cases r with
  | error e => exact hx pins σ H s e s' I hq
  | ok fl =>
    cases fl with
    | ret u => exact I.after hq
    | next => exact False.elim hq
    | brk => exact False.elim hq
    | cont => exact False.elim hq
theorem back_of {pins : List (Addr × Obj)} {σ : St} {Q : VK} {u : Value} {s' : Shared} (h : EP X pins σ Q u s') : PySem.W.CmpBack (EP X pins σ Q) u s' := by
  obtain ⟨v, H', I, r, q⟩ := h
  cases u with
  | notImplemented => cases v <;> first | (obtain ⟨_, z⟩ := r; cases z) | cases r
  | _ => exact ⟨v, H', I, r, q⟩
/-- one == y -/
theorem rc_own {op : CmpOp} (O : Own X.K C) (M : Has X.K C (cmpInfo op).2.1 f) (F : FnOk X.prog X.w X.K X.mg X.base CX k f fd ps sp) (hr : Room k X.A) (hb : Binds X.K fd ps []) (hx : Passes CX X E) {pins : List (Addr × Obj)} {s : Shared} {σ : St} {H : Hp} {x y : V} {v u : Value} {Q : VK} (I : Inv X pins σ H s) (rx : RelV x v) (ry : RelV y u)
    (hX : Ins C H x) (hY : Ins C H y ∨ (∃ j, y = .int j) ∨ ∃ t xs, y = .ref t ∧ SqT X.K H t xs) (q : sp [x, y] H Q E) : wpAny (model X.prog X.w) X.A (richCompare op v u) (EP X pins σ Q) X.xe s := by
  obtain ⟨a, dx, od, rfl, rfl, J⟩ := inst_of I hX rx
  obtain ⟨m, hF⟩ := I.fr
  have fin : wpAny (model X.prog X.w) X.A (call (.ref f) [.ref a, u]) (PySem.W.CmpBack (EP X pins σ Q)) X.xe s := wpAny_mono (run_at F hr I.env0 hb hx I (.cons rx (.cons ry .nil)) q) (fun _ _ h => back_of h) fun _ _ z => z
  rcases hY with hY | ⟨j, rfl⟩ | ⟨t, xs, rfl, hT⟩
  · obtain ⟨b, dy, od2, rfl, rfl, J2⟩ := inst_of I hY ry
    exact PySem.W.cmp_K (tb := .ref C) hr.units0 hF I.ok.mod.kin J J2.type (by simp [PySem.W.notFirst]) M.at_ M.fn fin
  · obtain ⟨t, rfl⟩ := ry
    exact PySem.W.cmp_K (tb := .type "int") hr.units0 hF I.ok.mod.kin J (fun A Q E s' k q => wpAny_typeOf (typeIs_int s' j t) q) (by unfold PySem.W.notFirst; rw [O.s1]; rfl) M.at_ M.fn fin
  · obtain rfl : u = Value.ref t := ry
    obtain ⟨its, rv, hl, hz⟩ := I.tuple hT
    obtain ⟨o, ho, hc, _⟩ := hl
    exact PySem.W.cmp_K (tb := .type "tuple") hr.units0 hF I.ok.mod.kin J (fun A Q E s' k q => wpAny_typeOf (T := "tuple") ⟨o, k _ _ ho, hc⟩ q) (by unfold PySem.W.notFirst; rw [O.s3]; rfl) M.at_ M.fn fin
theorem op_ownEq (O : Own X.K C) (M : Has X.K C "__eq__" f) (F : FnOk X.prog X.w X.K X.mg X.base CX k f fd ps sp) (hr : Room k X.A) (hb : Binds X.K fd ps []) (hx : Passes CX X E) :
    OpR X (compareOp .Eq) (fun x y H Q => Ins C H x ∧ (Ins C H y ∨ (∃ j, y = .int j) ∨ ∃ t xs, y = .ref t ∧ SqT X.K H t xs) ∧ sp [x, y] H Q E) := by
  intro pins s σ H x y v u Q I rx ry ⟨hX, hY, q⟩
  exact rc_own (op := .Eq) O M F hr hb hx I rx ry hX hY q
end
end SK
/-! ### one != other, by its __eq__ -/
namespace PySem.W
open PySem PySem.Calls PyProof.Rows Builtin
section
variable {prog : Program} {w : World} {A : Around} {E : Value → Shared → Prop} {s : Shared} {K : Frag} {x C f : Addr} {ox : Obj} {od : Option Obj}
theorem slot_ne : Slot "object" "__ne__" "object.__ne__" := .of (owner := "object") (n := "__ne__") (by rw [typeLookup_type, builtinLookup_eq_fast]; kernel_rfl) (by decide +kernel) (by decide +kernel) (by decide +kernel) (by decide +kernel) (by rw [isSubtype_type]; kernel_rfl)
theorem isInst_K {M : Model} {T : String} {Q : Bool → Shared → Prop} (X : K.In s.heap) (I : InstAt s.heap x ox C od) (h : subIn K (.ref C) (.type T) = some true) (q : Q true s) : wpAny M A (isInstance (.ref x) (.type T)) Q E s := by
  unfold isInstance
  exact wpAny_bind (I.type.here ((looks_subIn X h).here q))
theorem check_K {M : Model} {id owner n : String} {rest : List Value} {Q : Unit → Shared → Prop} (X : K.In s.heap) (I : InstAt s.heap x ox C od) (hk : builtinKind id = some .slot) (hs : splitId id = some (owner, n)) (h : subIn K (.ref C) (.type owner) = some true)
    (ha : argsOk id ⟨.ref x :: rest, []⟩) (q : Q () s) : wpAny M A (checkBuiltinCall id ⟨.ref x :: rest, []⟩) Q E s := by
  simp only [checkBuiltinCall, hk, hs]
  refine wpAny_bind (isInst_K X I h ?_)
  cases hsig : Manifest.signature? id with
  | none => exact wpAny_pure q
  | some sig =>
    simp only [argsOk, hsig] at ha
    have h2 : Bind.checkArgs id sig ⟨.ref x :: rest, []⟩ = pure () := ha
    show wpAny M A (Bind.checkArgs id sig ⟨.ref x :: rest, []⟩) Q E _
    rw [h2]
    exact wpAny_pure q
/-- what __eq__ gives, told the other way round -/
def NotOf (Q : Value → Shared → Prop) (v : Value) (s' : Shared) : Prop := ∃ b, v = .bool b ∧ Q (.bool (!b)) s'
theorem call_ne {b : Value} {Q : Value → Shared → Prop} (hu : A.in1.units < cLine) (X : K.In s.heap) (I : InstAt s.heap x ox C od) (ho : subIn K (.ref C) (.type "object") = some true) (hs : findIn K (.ref C) "__eq__" = some (some (.ref f))) (hf : isFn K (.ref f) = true)
    (h : wpAny (model prog w) A.in1 (call (.ref f) [.ref x, b]) (NotOf Q) E s) : wpAny (model prog w) A (call (.builtin "object.__ne__") [.ref x, b]) Q E s := by
  refine wpAny_call (codeAny_call_builtin slot_ne.plain F.cmpEntry_ne (check_K X I F.cmpKind_ne F.cmpSplit_ne ho (F.cmpArgs_ne _ _) ?_))
  unfold Builtin.«object.__ne__»
  refine wpAny_bind (m := slotArgs "__ne__" 1 _) (wpAny_pure ?_)
  refine wpAny_bind (wpAny_cRoomFor hu ?_)
  refine wpAny_bind (ifBound_K X I hs hf (wpAny_mono h (fun v s' hv => ?_) fun _ _ e => e))
  obtain ⟨c, rfl, q⟩ := hv
  exact wpAny_bind (wpAny_truthy_bool (wpAny_pure q))
theorem ne_K {b tb : Value} {Q : Value → Shared → Prop} (hu : A.in1.units < cLine) (X : K.In s.heap) (I : InstAt s.heap x ox C od) (hb : Looks (model prog w) s.heap (typeOf b) tb) (hn : notFirst K C tb = true) (hne : findIn K (.ref C) "__ne__" = some (some (.builtin "object.__ne__")))
    (ho : subIn K (.ref C) (.type "object") = some true) (hs : findIn K (.ref C) "__eq__" = some (some (.ref f))) (hf : isFn K (.ref f) = true)
    (h : wpAny (model prog w) A.in1 (call (.ref f) [.ref x, b]) (NotOf Q) E s) : wpAny (model prog w) A (richCompare .NotEq (.ref x) b) Q E s := by
  have hu0 : A.units < cLine := by
    have z : A.units + 1 < cLine := hu
    omega
  have back : wpAny (model prog w) A (call (.builtin "object.__ne__") [.ref x, b]) (fun v s' => ∃ c, v = .bool c ∧ Q v s') E s := call_ne (Q := fun v s' => ∃ c, v = .bool c ∧ Q v s') hu X I ho hs hf (wpAny_mono h (fun v s' hv => by
    obtain ⟨c, e, q⟩ := hv
    exact ⟨c, e, _, rfl, q⟩) fun _ _ e => e)
  have one : wpAny (model prog w) A (tryCompare (.ref x) "__ne__" b) (fun r s' => ∃ v, r = some v ∧ Q v s') E s := by
    unfold tryCompare
    simp only [callSpecialIfBound?, bindSpecialIfBound?]
    refine wpAny_bind (wpAny_holding (wpAny_bind (wpAny_bind (wpAny_bind (I.type.here ((looks_findIn X hne).here ?_))))))
    refine wpAny_bind (wpAny_askSetting (wpAny_ite ?_))
    have fin : wpAny (model prog w) A (call (.builtin "object.__ne__") ([.ref x] ++ [b]) >>= fun v => pure (some v)) (fun a s' => wpAny (model prog w) A (match a with
      | some .notImplemented | none => pure none
      | some v => pure (some v)) (fun r s' => ∃ v, r = some v ∧ Q v s') E s') E s := wpAny_bind (wpAny_mono back (fun v s' h' => by
        obtain ⟨c, rfl, q⟩ := h'
        exact wpAny_pure (wpAny_pure ⟨_, rfl, q⟩)) fun _ _ e => e)
    rw [slot_ne.bind]
    split
    · exact wpAny_bind (wpAny_pure (wpAny_pure fin))
    · exact wpAny_tryCatch (wpAny_bind (wpAny_pure (wpAny_pure fin)))
  unfold richCompare
  simp only [oneThing_ref]
  refine wpAny_holding (wpAny_bind (wpAny_cRoomFor hu0 ?_))
  refine wpAny_bind (I.type.here (wpAny_bind (hb.here ?_)))
  split
  · rename_i q
    have e : subIn K tb (.ref C) = some false := by
      rcases Bool.or_eq_true_iff.mp hn with e | e
      · rw [beq_iff_eq.mp e] at q; simp at q
      · exact beq_iff_eq.mp e
    refine wpAny_bind ((looks_subIn X e).here ?_)
    simp only [Bool.false_eq_true, if_false]
    exact wpAny_bind (wpAny_mono one (fun r s' z => by obtain ⟨v, rfl, hq⟩ := z; exact wpAny_pure hq) fun _ _ e => e)
  · refine wpAny_bind (wpAny_pure ?_)
    simp only [Bool.false_eq_true, if_false]
    exact wpAny_bind (wpAny_mono one (fun r s' z => by obtain ⟨v, rfl, hq⟩ := z; exact wpAny_pure hq) fun _ _ e => e)
end
end PySem.W
namespace SK
open PySem PySem.Spec PyProof.Rows L2 LamX NdefX
section
variable {X : Cx} {CX : CXT} {k : Nat} {f C : Addr} {fd : FuncData} {ps : List Str} {sp : Sp} {E : XK}
theorem op_ownNe (O : Own X.K C) (hne : PySem.W.findIn X.K (.ref C) "__ne__" = some (some (.builtin "object.__ne__"))) (ho : PySem.W.subIn X.K (.ref C) (.type "object") = some true) (M : Has X.K C "__eq__" f) (F : FnOk X.prog X.w X.K X.mg X.base CX k f fd ps sp) (hr : Room (k + 1) X.A) (hb : Binds X.K fd ps []) (hx : Passes CX X E) :
    OpR X (compareOp .NotEq) (fun x y H Q => Ins C H x ∧ Ins C H y ∧ sp [x, y] H (fun v H' => ∃ b, v = .bl b ∧ Q (.bl (!b)) H') E) := by
  intro pins s σ H x y v u Q I rx ry ⟨hX, hY, q⟩
  obtain ⟨a, dx, od, rfl, rfl, J⟩ := inst_of I hX rx
  obtain ⟨b, dy, od2, rfl, rfl, J2⟩ := inst_of I hY ry
  show wpAny (model X.prog X.w) X.A (richCompare .NotEq (.ref a) (.ref b)) (EP X pins σ Q) X.xe s
  refine PySem.W.ne_K (tb := .ref C) hr.in1.units0 I.kIn J J2.type (by simp [PySem.W.notFirst]) hne ho M.at_ M.fn ?_
  refine wpAny_mono (run_at F hr.in1 I.env0.in1 hb hx I (.cons rx (.cons ry .nil)) q) (fun v s' h => ?_) fun _ _ z => z
  obtain ⟨v1, H', I', r1, b1, rfl, q1⟩ := h
  obtain rfl : v = Value.bool b1 := r1
  exact ⟨b1, rfl, .bl (!b1), H', I', rfl, q1⟩
end
end SK
namespace SK
open PySem PySem.Spec PyProof.Rows L2 LamX NdefX
open K0 (De DeAll XCl spX withX)
/-! ### the methods of a tree -/
theorem pss_dead {X : Cx} {b : List Stmt} : PSs X b (fun _ _ _ => False) := ⟨fun _ _ _ _ _ _ h => h.elim⟩
structure TreeK (K : PySem.W.Frag) (C : Addr) : Prop where
  own : Own K C
  cl : Cls K C
  na : ∀ g ∈ six6, NoAttr K C g
  ha : PySem.W.findIn K (.ref C) "__class__" = some (some (.builtin "object.__class__"))
  hn : PySem.W.specialIn K (.builtin "object.__class__") "__get__" = some (some (.builtin "getset_descriptor.__get__"))
  htk : PySem.W.takesIn K (.builtin "object.__class__") = some true
  hm : PySem.W.mroIn K C (.type "object") = some true
  k1 : PySem.W.kitOne K (.ref C) (.ref C) = some true
  kT : PySem.W.kitOne K (.type "tuple") (.ref C) = some false
  ne : PySem.W.findIn K (.ref C) "__ne__" = some (some (.builtin "object.__ne__"))
  oo : PySem.W.subIn K (.ref C) (.type "object") = some true
theorem TreeK.ty {K : PySem.W.Frag} {C a dx : Addr} {H : Hp} {fs : List (Str × V)} (R : TreeK K C) (h : H a = some (.ins C dx fs)) : TyX K H (.ref a) (.ref C) := .base (.ins h R.cl R.ha R.hn R.htk R.hm)
def hasD (S : List Spot) : PyData → Bool
  | .str p => decide (p ∈ plc S)
  | _ => false
def spHas (K : PySem.W.Frag) (CT : Addr) : Sp := fun vs H Q _ => ∃ (x v : V) (d : PyData) (ls : Str) (S : List Spot), vs = [x, v] ∧ De K H v d ∧ TreeF K CT H x ls S ∧ Q (.bl (hasD S d)) H
def spRowM (K : PySem.W.Frag) (CT CN : Addr) : Sp := fun vs H Q E => ∃ (x v : V) (d : PyData) (ls : Str) (S : List Spot), vs = [x, v] ∧ De K H v d ∧ TreeF K CT H x ls S ∧
  (∀ s ∈ S, d = .str s.1 → ∀ t, H t = some (.tup [.str s.1, .bl s.2.1, .bl s.2.2]) → Q (.ref t) H) ∧ (hasD S d = false → Thrown E CN H [("place", v)])
def spBel (K : PySem.W.Frag) (CT CN : Addr) : Sp := fun vs H Q E => ∃ (x v : V) (d : PyData) (ls : Str) (S : List Spot), vs = [x, v] ∧ De K H v d ∧ TreeF K CT H x ls S ∧
  (∀ p, hasD S (.str p) = true → d = .str p → Q (.str (belS (plc S) p)) H) ∧ (hasD S d = false → Thrown E CN H [("place", v)])
def keptV (S : List Spot) : List V := (S.filter fun s => s.2.1).map fun s => V.str s.1
def spWordsM (K : PySem.W.Frag) (CT : Addr) : Sp := fun vs H Q _ => ∃ (x : V) (ls : Str) (S : List Spot), vs = [x] ∧ TreeF K CT H x ls S ∧ S.length ≤ 5000 ∧ ∀ (H' : Hp) (q : Addr), Same H H' → H' q = some (.tup (keptV S)) → Q (.ref q) H'
def StrsOk (S : List Spot) : Prop := ∀ s ∈ S, PyData.strOk s.1 = true
def spEqT (K : PySem.W.Frag) (CT : Addr) : Sp := fun vs H Q _ => ∃ (x y : V) (ls : Str) (S : List Spot), vs = [x, y] ∧ TreeF K CT H x ls S ∧ StrsOk S ∧
  ((∃ (l2 : Str) (S2 : List Spot), TreeF K CT H y l2 S2 ∧ StrsOk S2 ∧ Q (.bl (decide (ls = l2 ∧ S = S2))) H) ∨ (∃ t xs, y = .ref t ∧ H t = some (.tup xs) ∧ Q (.bl false) H))
/-! ### rows as data -/
theorem rows_dp {K : PySem.W.Frag} {H : Hp} : ∀ {S : List Spot} {xs : List V}, DeAll K H xs (S.map rowD) → DpAll K H xs (S.map rowD)
  | [], _, .nil => .nil
  | s :: S, _, .cons h1 h2 => by
    refine .cons ?_ (rows_dp h2)
    obtain ⟨t, rfl, ht⟩ := de_row (s := s) h1
    exact .tup (.inl (.inl ht)) (.cons (.str _) (.cons (.bl _) (.cons (.bl _) .nil)))
theorem rows_lay : ∀ {S : List Spot}, StrsOk S → PyData.canLayAll0 (S.map rowD) = true ∧ PyData.depthAll (S.map rowD) ≤ 1
  | [], _ => ⟨by simp [PyData.canLayAll0], by simp [PyData.depthAll]⟩
  | s :: S, h => by
    obtain ⟨h1, h2⟩ := rows_lay (S := S) fun y hy => h y (List.mem_cons_of_mem _ hy)
    have hw := h s (by simp)
    have h1' : PyData.canLayAll0 (S.map rowD) = true := h1
    refine ⟨by
      show (PyData.canLay0 (rowD s) && PyData.canLayAll0 (S.map rowD)) = true
      rw [h1', Bool.and_true]
      simp [rowD, PyData.canLayAll0, PyData.canLay0, hw], ?_⟩
    show PyData.depthAll (rowD s :: S.map rowD) ≤ 1
    simp only [PyData.depthAll, rowD, PyData.depth]
    omega
theorem rows_shaped {S : List Spot} (h : StrsOk S) : SeqAt.shaped (.tuple (S.map rowD)) = true := by
  obtain ⟨h1, h2⟩ := rows_lay h
  unfold SeqAt.shaped
  rw [Bool.and_eq_true, decide_eq_true_eq]
  refine ⟨by simp only [PyData.canLay0, h1], ?_⟩
  simp only [PyData.depth]
  omega
theorem eqv_row (s t : Spot) : PyData.eqv (rowD s) (rowD t) = decide (s = t) := by
  obtain ⟨p, m, f⟩ := s
  obtain ⟨p2, m2, f2⟩ := t
  unfold rowD
  simp only [PyData.eqv, PyData.eqvAll]
  by_cases h1 : p = p2 <;> cases m <;> cases m2 <;> cases f <;> cases f2 <;> simp [h1]
theorem eqv_rows : ∀ S S2 : List Spot, PyData.eqvAll (S.map rowD) (S2.map rowD) = decide (S = S2)
  | [], [] => by simp [PyData.eqvAll]
  | [], _ :: _ => by simp [PyData.eqvAll]
  | _ :: _, [] => by simp [PyData.eqvAll]
  | x :: xs, y :: ys => by
    simp only [List.map_cons, PyData.eqvAll, eqv_rows xs ys, eqv_row]
    by_cases h : x = y <;> by_cases h2 : xs = ys <;> simp [h, h2]
section
variable {P : Program} {w : World} {K : PySem.W.Frag} {mg : Str → Option Value} {base : Heap} {f fH CT CN : Addr} {fd fdH : FuncData}
theorem ok_has (F : Fun K "has" "Tree.has" (tm 3) f fd) (R : TreeK K CT) (gI : mg "isinstance" = none) (gS : mg "str" = none) : FnOk P w K mg base CX0 1 f fd ["self", "place"] (spHas K CT) := by
  have S0 : FnScope ["self", "place"] ["self", "place"] (defScope (tm 3)) := ⟨rfl, rfl, rfl, by decide +kernel, rfl, by decide +kernel, by decide +kernel⟩
  refine F.ok S0 (fun vs H Q E h => ?_) (fun cdv A outer s H vs Q E hr h => ?_)
  · obtain ⟨x, v, d, ls, S, rfl, _⟩ := h
    rfl
  · obtain ⟨x, v, d, ls, S, rfl, hd, ⟨a, dx, B, Tb, l, fs, kvs, kv2, xs, m, rfl, T⟩, q⟩ := h
    have hu := hu_of hr
    obtain ⟨Ty, tx, ks, _⟩ := ty_of hd
    refine ⟨_, pss_one (ps_ret (pe_and (pe_callB call_isi (by rfl) gI PyProof.Rows.boot_isinstance (pa_cons (pv 1) (pa_cons (pe_bltn (v := .ty "str") (by rfl) gS PyProof.Rows.boot_str rfl) pa_nil))) (pe_one (pe_cmp (pc_din hu (pv 1) (pe_fld (pv 0) rfl)))))), ?_⟩
    refine ⟨v, rfl, v, .ty "str", .type Ty, .type "str", isS d, rfl, .ty _, tx, kit_ty ks, _, rfl, ?_⟩
    cases d with
    | str p =>
      cases hd
      refine iteT ⟨V.str p, rfl, V.ref a, rfl, a, CT, dx, _, _, rfl, T.ins, R.cl, R.na _ (by simp [six6]), T.f2, Tb, _, rfl, DGet.k (k := (.inr p : Key)) T.t1, ?_⟩
      rw [T.t3]
      exact q
    | _ => exact iteF q
theorem ok_rowM (F : Fun K "row" "Tree.row" (tm 4) f fd) (R : TreeK K CT) (D : XR P w K mg base "NoPlace" CN ["place"]) (M : Meth K CT "has" fH) (GH : FnOk P w K mg base CX0 1 fH fdH ["self", "place"] (spHas K CT)) (bH : Binds K fdH ["self", "place"] []) : FnOk P w K mg base (L2.CX P w) 3 f fd ["self", "place"] (spRowM K CT CN) := by
  have S0 : FnScope ["self", "place"] ["self", "place"] (defScope (tm 4)) := ⟨rfl, rfl, rfl, by decide +kernel, rfl, by decide +kernel, by decide +kernel⟩
  refine F.okX S0 (fun vs H Q E h => ?_) (fun cdv A outer s H vs Q E hr h => ?_)
  · obtain ⟨x, v, d, ls, S, rfl, _⟩ := h
    rfl
  · obtain ⟨x, v, d, ls, S, rfl, hd, hT, k1, k2⟩ := h
    have hT0 := hT
    obtain ⟨a, dx, B, Tb, l, fs, kvs, kv2, xs, m, rfl, T⟩ := hT
    obtain ⟨fi, fdi, iC, tI, F1, b1⟩ := D.ini
    have hu := hu_of hr
    refine ⟨_, pss_cons (ps_if (pt_not (pt_val (pe_meth (pv 0) R.cl M GH (hr.mono (by decide)) bH .nil pass0 (pa_cons (pv 1) pa_nil)))) (pss_one (ps_raise rfl (takes_of rfl rfl rfl rfl) (pmk_oex D.cl.T iC tI F1 hr b1 .nil pass0 (by rfl) D.gC (pa_cons (pv 1) pa_nil)))) pss_nil) (pss_one (ps_ret (pe_dget hu (pe_fld (pv 0) rfl) (pv 1) (fun _ _ => rfl)))), ?_⟩
    refine ⟨V.ref a, rfl, a, dx, fs, rfl, T.ins, T.no _ (by simp only [six6]; decide), v, rfl, V.ref a, v, d, ls, S, rfl, hd, hT0, _, rfl, ?_⟩
    cases e : hasD S d with
    | false => exact iteT ⟨v, rfl, rd_mk rfl (by show 1 ≤ 1000; decide) fun dx' H' s' n q => k2 e H' dx' s' n q⟩
    | true =>
      refine iteF ?_
      cases d with
      | str p =>
        cases hd
        have hp : p ∈ plc S := of_decide_eq_true e
        obtain ⟨s, hs, es⟩ := List.mem_map.mp hp
        obtain ⟨t, g1, g2⟩ := T.t4 s hs
        have es : s.1 = p := es
        subst es
        have dg := DGet.k (k := (.inr s.1 : Key)) T.t1
        rw [g1] at dg
        exact ⟨V.ref a, rfl, a, CT, dx, _, _, rfl, T.ins, R.cl, R.na _ (by simp [six6]), T.f2, V.str s.1, rfl, Tb, _, rfl, dg, k1 s hs rfl t g2⟩
      | _ => cases e
theorem ok_bel (F : Fun K "below" "Tree.below" (tm 5) f fd) (R : TreeK K CT) (D : XR P w K mg base "NoPlace" CN ["place"]) (M : Meth K CT "has" fH) (GH : FnOk P w K mg base CX0 1 fH fdH ["self", "place"] (spHas K CT)) (bH : Binds K fdH ["self", "place"] []) : FnOk P w K mg base (L2.CX P w) 3 f fd ["self", "place"] (spBel K CT CN) := by
  have S0 : FnScope ["self", "place"] ["self", "place"] (defScope (tm 5)) := ⟨rfl, rfl, rfl, by decide +kernel, rfl, by decide +kernel, by decide +kernel⟩
  refine F.okX S0 (fun vs H Q E h => ?_) (fun cdv A outer s H vs Q E hr h => ?_)
  · obtain ⟨x, v, d, ls, S, rfl, _⟩ := h
    rfl
  · obtain ⟨x, v, d, ls, S, rfl, hd, hT, k1, k2⟩ := h
    have hT0 := hT
    obtain ⟨a, dx, B, Tb, l, fs, kvs, kv2, xs, m, rfl, T⟩ := hT
    obtain ⟨fi, fdi, iC, tI, F1, b1⟩ := D.ini
    have hu := hu_of hr
    refine ⟨_, pss_cons (ps_if (pt_not (pt_val (pe_meth (pv 0) R.cl M GH (hr.mono (by decide)) bH .nil pass0 (pa_cons (pv 1) pa_nil)))) (pss_one (ps_raise rfl (takes_of rfl rfl rfl rfl) (pmk_oex D.cl.T iC tI F1 hr b1 .nil pass0 (by rfl) D.gC (pa_cons (pv 1) pa_nil)))) pss_nil) (pss_one (ps_ret (pe_dget hu (pe_fld (pv 0) rfl) (pv 1) (fun _ _ => rfl)))), ?_⟩
    refine ⟨V.ref a, rfl, a, dx, fs, rfl, T.ins, T.no _ (by simp only [six6]; decide), v, rfl, V.ref a, v, d, ls, S, rfl, hd, hT0, _, rfl, ?_⟩
    cases e : hasD S d with
    | false => exact iteT ⟨v, rfl, rd_mk rfl (by show 1 ≤ 1000; decide) fun dx' H' s' n q => k2 e H' dx' s' n q⟩
    | true =>
      refine iteF ?_
      cases d with
      | str p =>
        cases hd
        have hp : p ∈ plc S := of_decide_eq_true e
        have dg := DGet.k (k := (.inr p : Key)) T.b1
        rw [T.b3 p hp] at dg
        exact ⟨V.ref a, rfl, a, CT, dx, _, _, rfl, T.ins, R.cl, R.na _ (by simp [six6]), T.f1, V.str p, rfl, B, _, rfl, dg, k1 p e rfl⟩
      | _ => cases e
theorem ok_wordsM (F : Fun K "words" "Tree.words" (tm 6) f fd) (R : TreeK K CT) (gT : mg "tuple" = none) : FnOk P w K mg base CX0 1 f fd ["self"] (spWordsM K CT) := by
  have S0 : FnScope ["self", "row"] ["self"] (defScope (tm 6)) := ⟨rfl, rfl, rfl, by decide +kernel, rfl, by decide +kernel, by decide +kernel⟩
  refine F.ok S0 (fun vs H Q E h => ?_) (fun cdv A outer s H vs Q E hr h => ?_)
  · obtain ⟨x, ls, S, rfl, _⟩ := h
    rfl
  · obtain ⟨x, ls, S, rfl, ⟨a, dx, B, Tb, l, fs, kvs, kv2, xs, m, rfl, T⟩, hz, q⟩ := h
    have hxl : xs.length = S.length := by
      have z := deAll_len T.r2
      rwa [List.length_map] at z
    have ex : (S.zip xs).map (fun p => p.2) = xs := List.map_snd_zip (by omega)
    have es : (S.zip xs).map (fun p => p.1) = S := List.map_fst_zip (by omega)
    have ef : ((S.zip xs).filter fun p => p.1.2.1).map (fun p => V.str p.1.1) = keptV S := by
      unfold keptV
      rw [← es, List.filter_map, List.map_map, es]
      rfl
    refine ⟨_, pss_one (ps_ret (pe_callTy call_tuple_of (by rfl) gT PyProof.Rows.boot_tuple (pa_cons (pe_lc (own := [("row", 1)]) (g := gName 1) rfl S0.nd (pi_tup (pe_fld (pv 0) rfl)) (blkOk_by (N := ["self", "row"]) (sc := defScope (tm 6)) (by decide +kernel))
      (fun _ _ _ _ _ => pg_name (i := 1) S0.nd rfl (Or.inl rfl)) (fun _ _ _ _ _ => pts_one (pt_val (pe_ix (r := rIxT K) ix_tup (pv 1) pe_int (fun _ _ => rfl)))) (fun _ _ _ _ _ => pe_ix (r := rIxT K) ix_tup (pv 1) pe_int (fun _ _ => rfl))) pa_nil))), ?_⟩
    refine ⟨V.ref a, rfl, a, CT, dx, _, _, rfl, T.ins, R.cl, R.na _ (by simp [six6]), T.f3, l, rfl, ⟨_, .inl (.inl T.r1)⟩, fun D nD => lcF_tup (K := K) (ws := S.zip xs) (fun p => p.2) nD (fun p => V.str p.1.1) (fun p => p.1.2.1) (by rw [ex]; exact .inl (.inl T.r1)) (Nat.lt_of_le_of_lt (by rw [List.length_zip]; omega) (show (5000 : Nat) < sizeLine by decide)) (fun i y G hy sG A B kA kB => ?_) fun G sG hD => ?_⟩
    · obtain ⟨s, v⟩ := y
      have hv : xs[i]? = some v := by
        have z := congrArg (·[i]?) ex
        simp only [List.getElem?_map, hy, Option.map_some] at z
        exact z.symm
      have hs : S[i]? = some s := by
        have z := congrArg (·[i]?) es
        simp only [List.getElem?_map, hy, Option.map_some] at z
        exact z.symm
      obtain ⟨d, hd, hde⟩ := deAll_at T.r2 hv
      rw [List.getElem?_map, hs] at hd
      obtain rfl := Option.some.inj hd
      obtain ⟨t, rfl, g2⟩ := de_row (s := s) hde
      refine ⟨rfl, V.ref t, rfl, t, _, 1, .bl s.2.1, rfl, rfl, .inl (.inl (sG _ _ g2)), rfl, s.2.1, rfl, ?_⟩
      cases e : s.2.1 with
      | true => exact iteT ⟨V.ref t, rfl, t, _, 0, .str s.1, rfl, rfl, .inl (.inl (sG _ _ g2)), rfl, kA e⟩
      | false => exact iteF (kB e)
    · rw [ef] at hD
      exact ⟨D, _, rfl, .inl ⟨.inl (.inl hD), fun l2 nl => q _ l2 (sG.trans (upd_new nl)) upd_same⟩⟩
theorem ok_eqT (F : Fun K "__eq__" "Tree.__eq__" (tm 2) f fd) (R : TreeK K CT) (gI : mg "isinstance" = none) (gC : mg "Tree" = some (.ref CT)) : FnOk P w K mg base (L2.CX P w) 1 f fd ["self", "other"] (spEqT K CT) := by
  have S0 : FnScope ["self", "other"] ["self", "other"] (defScope (tm 2)) := ⟨rfl, rfl, rfl, by decide +kernel, rfl, by decide +kernel, by decide +kernel⟩
  refine F.okX S0 (fun vs H Q E h => ?_) (fun cdv A outer s H vs Q E hr h => ?_)
  · obtain ⟨x, y, ls, S, rfl, _⟩ := h
    rfl
  · obtain ⟨x, y, ls, S, rfl, ⟨a, dx, B, Tb, l, fs, kvs, kv2, xs, m, rfl, T⟩, hS, hy⟩ := h
    have hu64 := hr.units
    refine ⟨_, pss_one (ps_ret (pe_and (pe_callB call_isi (by rfl) gI PyProof.Rows.boot_isinstance (pa_cons (pv 1) (pa_cons (pe_glob (v := V.ref CT) (by rfl) gC rfl) pa_nil)))
      (pe_and (pe_cmpR op_eq (pe_fld (pv 0) rfl) (pe_fld (pv 1) rfl) (nomark _)) (pe_one (pe_cmpR (op_eqD hu64) (pe_fld (pv 0) rfl) (pe_fld (pv 1) rfl) (nomark _)))))), ?_⟩
    rcases hy with ⟨l2, S2, ⟨b, dy, B2, Tb2, lb, fb, kvb, kvb2, xb, mb, rfl, T2⟩, hS2, q⟩ | ⟨t, ts, rfl, ht, q⟩
    · refine ⟨V.ref b, rfl, V.ref b, .ref CT, .ref CT, .ref CT, true, rfl, .own CT, R.ty T2.ins, R.k1, true, rfl, iteT ?_⟩
      refine ⟨V.ref a, rfl, a, CT, dx, _, _, rfl, T.ins, R.cl, R.na _ (by simp [six6]), T.f4, V.ref b, rfl, b, CT, dy, _, _, rfl, T2.ins, R.cl, R.na _ (by simp [six6]), T2.f4, rfl, _, rfl, ?_⟩
      refine ite2 (fun c => ?_) (fun c => ?_)
      · have cl : ls = l2 := V.str.inj (of_decide_eq_true c)
        refine ⟨V.ref a, rfl, a, CT, dx, _, _, rfl, T.ins, R.cl, R.na _ (by simp [six6]), T.f3, V.ref b, rfl, b, CT, dy, _, _, rfl, T2.ins, R.cl, R.na _ (by simp [six6]), T2.f3, .tuple (S.map rowD), .tuple (S2.map rowD), .tup (.inl (.inl T.r1)) (rows_dp T.r2), .tup (.inl (.inl T2.r1)) (rows_dp T2.r2), rows_shaped hS, rows_shaped hS2, ?_⟩
        have z : PyData.eqv (.tuple (S.map rowD)) (.tuple (S2.map rowD)) = decide (ls = l2 ∧ S = S2) := by
          simp only [PyData.eqv, eqv_rows]
          rw [decide_eq_decide]
          exact ⟨fun h => ⟨cl, h⟩, fun h => h.2⟩
        rw [z]
        exact q
      · have z : decide (ls = l2 ∧ S = S2) = false := decide_eq_false fun h => c (decide_eq_true (by rw [h.1]))
        rw [z] at q
        exact q
    · exact ⟨V.ref t, rfl, V.ref t, .ref CT, .type "tuple", .ref CT, false, rfl, .own CT, .base (.tup ht), R.kT, false, rfl, iteF q⟩
end
end SK
namespace SK
open PySem PySem.Spec PyProof.Rows L2 LamX NdefX
open K0 (De DeAll XCl spX withX)
theorem neT {p : Prop} {A B : Prop} [inst : Decidable p] (h : p) (k : B) : if (!decide p) = true then A else B := by
  rw [decide_eq_true h]
  exact iteF k
def lcp : List Nat → List Nat → Nat
  | a :: x, b :: y => if a = b then lcp x y + 1 else 0
  | _, _ => 0
theorem lcp_at : ∀ (x y : List Nat) (i : Nat), i < x.length → i < y.length → (∀ j, j < i → x[j]? = y[j]?) → x[i]? ≠ y[i]? → lcp x y = i
  | [], _, i, h, _, _, _ => absurd h (Nat.not_lt_zero _)
  | _ :: _, [], i, _, h, _, _ => absurd h (Nat.not_lt_zero _)
  | a :: x, b :: y, 0, _, _, _, h => by
    have n : a ≠ b := fun e => h (by rw [e]; rfl)
    unfold lcp
    rw [if_neg n]
  | a :: x, b :: y, i + 1, h1, h2, h3, h4 => by
    have e : a = b := by
      have z := h3 0 (Nat.succ_pos _)
      exact Option.some.inj z
    unfold lcp
    rw [if_pos e, lcp_at x y i (Nat.lt_of_succ_lt_succ h1) (Nat.lt_of_succ_lt_succ h2) (fun j hj => h3 (j + 1) (Nat.succ_lt_succ hj)) h4]
theorem lcp_min : ∀ (x y : List Nat), (∀ j, j < min x.length y.length → x[j]? = y[j]?) → lcp x y = min x.length y.length
  | [], y, _ => by simp [lcp]
  | _ :: _, [], _ => by simp [lcp]
  | a :: x, b :: y, h => by
    have e : a = b := by
      have z := h 0 (by simp)
      exact Option.some.inj z
    unfold lcp
    rw [if_pos e, lcp_min x y (fun j hj => h (j + 1) (by simp at hj ⊢; omega))]
    simp
def lcpS (x y : Str) : Nat := lcp x.cps.toList y.cps.toList
def spShared : Sp := fun vs H Q _ => ∃ x y : Str, vs = [.str x, .str y] ∧ x.cps.size ≤ 1000 ∧ y.cps.size ≤ 1000 ∧ Q (.int (lcpS x y : Nat)) H
section
variable {P : Program} {w : World} {K : PySem.W.Frag} {mg : Str → Option Value} {base : Heap} {f fH fR fB fWd fS fC CT : Addr} {fd fdH fdR fdB fdWd fdS fdC : FuncData}
theorem ok_shared (F : Fun K "shared" "shared" (top 25) f fd) (gM : mg "min" = none) (gN : mg "len" = none) (gR : mg "range" = none) : FnOk P w K mg base CX0 1 f fd ["one", "other"] spShared := by
  have S0 : FnScope ["one", "other", "most", "at"] ["one", "other"] (defScope (top 25)) := ⟨rfl, rfl, rfl, by decide +kernel, rfl, by decide +kernel, by decide +kernel⟩
  refine F.ok S0 (fun vs H Q E h => ?_) (fun cdv A outer s H vs Q E hr h => ?_)
  · obtain ⟨x, y, rfl, _⟩ := h
    rfl
  · obtain ⟨x, y, rfl, hx, hy, q⟩ := h
    have z1 : (1000 : Nat) ≤ sizeLine := by decide
    have lx : x.length ≤ sizeLine := Nat.le_trans hx z1
    have ly : y.length ≤ sizeLine := Nat.le_trans hy z1
    refine ⟨_, pss_cons (ps_set (i := 2) S0.nd rfl (Or.inl rfl) (pe_callB (call_min2 rfl) (by rfl) gM PyProof.Rows.boot_min (pa_cons (pe_callB call_len_str (by rfl) gN PySem.boot_len (pa_cons (pv 0) pa_nil)) (pa_cons (pe_callB call_len_str (by rfl) gN PySem.boot_len (pa_cons (pv 1) pa_nil)) pa_nil))))
      (pss_cons (ps_for PassesOwn.never rfl (pi_range1 (by rfl) gR (pa_cons (pv 2) pa_nil)) (pg_name (i := 3) S0.nd rfl (Or.inl rfl)) (pss_one (ps_if (pt_cmpR op_ne (pe_ix ix_str (pv 0) (pv 3) (fun _ _ => rfl)) (pe_ix ix_str (pv 1) (pv 3) (fun _ _ => rfl)) (nomark _)) (pss_one (ps_ret (pv 3))) pss_nil)))
      (pss_one (ps_ret (pv 2)))), ?_⟩
    refine ⟨V.str x, rfl, x, rfl, lx, V.str y, rfl, y, rfl, ly, x.length, y.length, rfl, ?_⟩
    obtain ⟨m, hm, hm2⟩ : ∃ m : Nat, (if (y.length : Int) < (x.length : Int) then (y.length : Int) else (x.length : Int)) = (m : Int) ∧ m = min x.cps.toList.length y.cps.toList.length := by
      have ex : x.length = x.cps.toList.length := by simp [Str.length]
      have ey : y.length = y.cps.toList.length := by simp [Str.length]
      rw [← ex, ← ey]
      refine ⟨min x.length y.length, ?_, rfl⟩
      split <;> omega
    dsimp only
    rw [hm]
    have mx : m ≤ x.cps.toList.length := by omega
    have my : m ≤ y.cps.toList.length := by omega
    have mz : m ≤ 1000 := by
      have : x.cps.toList.length = x.cps.size := Array.length_toList
      omega
    refine ⟨V.int m, rfl, m, rfl, by omega, by omega, for_it walk_range (fun i σ G => G = H ∧ (∃ x3, σ = [some (.str x), some (.str y), some (.int m), x3]) ∧ ∀ j, j < i → x.cps.toList[j]? = y.cps.toList[j]?) ⟨rfl, ⟨none, rfl⟩, fun j h => absurd h (Nat.not_lt_zero _)⟩ (fun _ _ _ _ _ => trivial) ?_ ?_⟩
    · rintro i v σ G G2 hi ⟨rfl, ⟨x3, rfl⟩, hj⟩ ⟨rfl, rfl⟩
      have hi' : i < m := by
        have z : ((m : Nat) : Int).toNat = m := Int.toNat_natCast m
        have h2 : i < ((m : Nat) : Int).toNat := hi
        omega
      obtain ⟨a, hxa⟩ : ∃ a, x.cps.toList[i]? = some a := ⟨_, List.getElem?_eq_getElem (by omega)⟩
      obtain ⟨b, hyb⟩ : ∃ b, y.cps.toList[i]? = some b := ⟨_, List.getElem?_eq_getElem (by omega)⟩
      have e0 : (0 + (i : Int)) = (i : Int) := by omega
      refine ⟨V.str x, rfl, V.int (0 + i), rfl, x, (0 + i : Int), a, rfl, rfl, lx, (by rw [e0]; exact atI_nat hxa), V.str y, rfl, V.int (0 + i), rfl, y, (0 + i : Int), b, rfl, rfl, ly, (by rw [e0]; exact atI_nat hyb), rfl, _, rfl, ?_⟩
      by_cases hab : a = b
      · subst hab
        refine neT rfl ⟨rfl, ⟨_, rfl⟩, fun j h => ?_⟩
        by_cases hji : j = i
        · rw [hji, hxa, hyb]
        · exact hj j (by omega)
      · have n : ¬ V.str ⟨#[a]⟩ = V.str ⟨#[b]⟩ := fun z => hab (by injection z with z; injection z with z; simpa using z)
        rw [decide_eq_false n]
        refine iteT ⟨V.int (0 + i), rfl, ?_⟩
        rw [e0]
        have e : lcpS x y = i := lcp_at _ _ i (by omega) (by omega) hj (by rw [hxa, hyb]; exact fun z => hab (Option.some.inj z))
        rw [e] at q
        exact q
    · rintro σ G ⟨rfl, ⟨x3, rfl⟩, hj⟩
      refine ⟨V.int m, rfl, ?_⟩
      have z : ((m : Nat) : Int).toNat = m := Int.toNat_natCast m
      rw [z] at hj
      have e : lcpS x y = m := by
        rw [hm2]
        exact lcp_min _ _ (fun j h => hj j (by omega))
      rw [e] at q
      exact q
end
end SK
namespace SK
open PySem PySem.Spec PyProof.Rows L2 LamX NdefX
open K0 (De DeAll XCl spX withX)
theorem unlock_same {H G : Hp} {d : Addr} {o : Obj} {u : HO} (h : H d = some u) (s : Same (upd H d (.frz o u)) G) : Same H (upd G d u) := fun b v e => by
  by_cases c : b = d
  · subst c
    rw [h] at e
    cases e
    exact upd_same
  · rw [upd_ne c]
    exact s _ _ (by rw [upd_ne c]; exact e)
theorem lock_none {H : Hp} {d D : Addr} {o : HO} (h : upd H d o D = none) : H D = none := by
  by_cases c : D = d
  · rw [c, upd_same] at h
    cases h
  · rw [upd_ne c] at h
    exact h
section
variable {g : TG} {tt : TT} {te : TE} {vs : List Nat} {σ : St} {H1 : Hp} {D : Addr} {Qd : Hp → Prop}
theorem lcF_keys {α : Type} {ws : List α} {d : Addr} {o : Obj} {kvs : List (Key × V)} (enc : α → Str) (nD : H1 D = none) (hd : H1 d = some (.frz o (.dK kvs))) (hk : kvs.map Prod.fst = ws.map fun a => (Sum.inr (enc a) : Key)) (f : α → V) (c : α → Bool) (hz : ws.length < sizeLine)
    (step : ∀ (i : Nat) (x : α) (H : Hp), ws[i]? = some x → Same H1 H → TurnF g tt te vs σ (.str (enc x)) (f x) (c x) H) (fin : ∀ H, Same H1 H → H D = some (.lst ((ws.filter c).map f)) → Qd H) :
    ∃ W : Nat → Nat → Hp → Prop, (∃ m, W 0 m (upd H1 D (.lst []))) ∧ ∀ i m H, W i m H →
      ((Itk d o kvs).stop i H ∧ Qd H) ∨ ((Itk d o kvs).go i H ∧ ∃ Nx : Hp → Prop, (∀ H', Nx H' → ∃ m', m' < m ∧ W (i + 1) m' H') ∧ ∀ x H', (Itk d o kvs).yld i H x H' → g x (wipe σ vs) H' fun σ2 H2 => wipe σ2 vs = wipe σ vs ∧ tt σ2 H2 fun b H3 =>
        if b = true then te σ2 H3 fun y H4 => ∃ acc, H4 D = some (.lst acc) ∧ acc.length < sizeLine ∧ Nx (upd H4 D (.lst (acc ++ [y]))) else Nx H3) := by
  have hl : kvs.length = ws.length := by
    have z := congrArg List.length hk
    rw [List.length_map, List.length_map] at z
    exact z
  refine lc_it (walk_keys (d := d) (o := o) (kvs := kvs)) (fun i H => Same H1 H ∧ H D = some (.lst (((ws.take i).filter c).map f))) ⟨same_new nD, upd_same⟩ (fun i H _ p => p.1 _ _ hd) ?_ fun H p => fin H p.1 (by rw [hl, List.take_length] at p; exact p.2)
  rintro i x H H' hi ⟨s, hD⟩ ⟨rfl, k, v, hkv, rfl⟩
  obtain ⟨y, hy⟩ : ∃ y, ws[i]? = some y := ⟨_, List.getElem?_eq_getElem (by omega)⟩
  have ek : k = .inr (enc y) := by
    have z := congrArg (fun l : List Key => l[i]?) hk
    simp only [List.getElem?_map, hkv, hy, Option.map_some] at z
    exact Option.some.inj z
  subst ek
  refine step i y H' hy s _ _ (fun hc => ⟨_, hD, Nat.lt_of_le_of_lt filt_len hz, same_upd nD s, ?_⟩) fun hc => ⟨s, ?_⟩
  · rw [filt_snoc hy, if_pos hc]
    exact upd_same
  · rw [filt_snoc hy, if_neg (by rw [hc]; simp), List.append_nil]
    exact hD
end
end SK
namespace SK
open PySem PySem.Spec PyProof.Rows L2 LamX NdefX
open K0 (De DeAll XCl spX withX)
/-! ### sorted of texts, a list or a tuple, any length -/
def srt (ws : List Str) : List Str := ws.mergeSort (PySem.W.dataLe false PyData.str)
def rSrt (K : PySem.W.Frag) : List V → Hp → VK → Prop := fun xs H Q => ∃ (a : Addr) (ws : List Str), xs = [.ref a] ∧ (SqL K H a (ws.map V.str) ∨ SqT K H a (ws.map V.str)) ∧ ∀ p, H p = none → Q (.ref p) (upd H p (.lst ((srt ws).map V.str)))
end SK
namespace PyProof.Rows
open PySem PySem.Calls
section
variable {prog : Program} {w : World} {A : Around} {E : Value → Shared → Prop} {s : Shared}
theorem tupled {l : Addr} {vs : List Value} {Q : List Value → Shared → Prop} (hl : s.heap.IsTuple l vs.toArray) (hsz : vs.length ≤ sizeLine)
    (k : Q vs { s with heap := (s.heap.push (seqObj "list" #[] 0)).update s.heap.objs.size (Obj.mapSeq (· ++ vs.toArray)) }) : wpAny (model prog w) A (collect (.ref l)) Q E s := by
  obtain ⟨ot, hot, hct, nt, hdt⟩ := id hl
  unfold collect
  refine wpAny_bind (wpAny_runValue (codeAny_builtin entry_proto_collect' ?_))
  show wpAny _ _ (do again (.builtin "list.__iadd__" ⟨[← newList [], Value.ref l], []⟩)) _ _ s
  refine wpAny_bind (wpAny_newList (wpAny_pure ⟨Code.quiet_builtin _ (by decide +kernel), codeAny_builtin entry_list_iadd' ?_⟩))
  show wpAny _ _ (Builtin.List.listExtendWith (Value.ref s.heap.objs.size) (Value.ref l) (Value.ref s.heap.objs.size)) _ _ { s with heap := s.heap.push (seqObj "list" #[] 0) }
  unfold Builtin.List.listExtendWith
  have hot' : (s.heap.push (seqObj "list" #[] 0)).get? l = some ot := Heap.get?_push_of_some _ hot
  have new0 : (s.heap.push (seqObj "list" #[] 0)).get? s.heap.objs.size = some (seqObj "list" #[] 0) := Heap.get?_push_size _ rfl
  refine wpAny_bind (wpAny_typeOf (T := "tuple") ⟨ot, hot', hct⟩ ?_)
  have ht : (Value.type "tuple" == Value.type "tuple") = true := by rfl
  rw [if_pos (by rw [ht]; simp)]
  refine wpAny_bind (listItems_at hot' hdt ?_)
  refine wpAny_bind (listItems_at (xs := #[]) (n := 0) new0 rfl ?_)
  rw [if_neg (show ¬ ((!(#[] : Array Value).isEmpty && _) = true) by simp)]
  have room : (#[] ++ vs.toArray).size ≤ sizeLine + 1 := by
    simp only [Array.size_append, List.size_toArray, List.length_nil]
    omega
  refine wpAny_bind (listUpdate_at (xs := #[]) (n := 0) new0 rfl ?_ (Nat.zero_le _) room)
  refine wpAny_pure ?_
  show wpAny _ _ (do
      let ob ← load s.heap.objs.size
      match ob.data with
      | .seq ys _ => pure ys.toList
      | _ => unsupported "internal:collect") _ _ { s with heap := (s.heap.push (seqObj "list" #[] 0)).update s.heap.objs.size (Obj.mapSeq (· ++ vs.toArray)) }
  refine wpAny_bind (wpAny_load (get?_update_seq new0 _) ?_)
  show wpAny _ _ (pure ((#[] : Array Value) ++ vs.toArray).toList) _ _ _
  have all : ((#[] : Array Value) ++ vs.toArray).toList = vs := by simp
  rw [all]
  exact wpAny_pure k
end
end PyProof.Rows
namespace PySem.W
open PySem PyProof.Rows PySem.Calls
section
variable {prog : Program} {w : World} {A : Around} {E : Value → Shared → Prop} {s : Shared} {β : Type} {vs : List Value} {bs : List β} {enc : β → PyData} {R : Value → β → Prop}
theorem sortT {l : Addr} {vs : List Value} {kw : List (Str × Value)} {Q : Value → Shared → Prop} (hl : s.heap.IsTuple l vs.toArray) (hL : vs.length ≤ sizeLine) (a1 : argsOk "sorted" ⟨[.ref l], kw⟩) (a2 : ∀ x, argsOk "list.sort" ⟨[.ref x], kw⟩)
    (h : ∀ E' : Value → Shared → Prop, wpAny (model prog w) A.in1.in1 (Builtin.«list.sort» ⟨[.ref (s.heap.objs.size + 1)], kw⟩) (fun f s' => f = .done (.ret .none) ∧ Q (.ref (s.heap.objs.size + 1)) s') E' { s with heap := copyHeap s.heap vs }) :
    wpAny (model prog w) A (call (.builtin "sorted") [.ref l] kw) Q E s := by
  refine call_function_entry_kw kind_sorted plain_sorted entry_sorted a1 ?_
  unfold Builtin.«sorted»
  refine wpAny_bind (m := checkCount "sorted" 1 1 _) (wpAny_pure (wpAny_bind (tupled hl hL ?_)))
  refine wpAny_bind (wpAny_newList ?_ hL)
  have len : ((s.heap.push (seqObj "list" #[] 0)).update s.heap.objs.size (Obj.mapSeq (· ++ vs.toArray))).objs.size = s.heap.objs.size + 1 := by
    rw [Heap.size_update, size_push']
  show wpAny _ _ _ _ _ ({ s with heap := copyHeap s.heap vs } : Shared)
  rw [len]
  refine wpAny_bind (wpAny_holding (wpAny_call_entry_kw slot_list_sort ⟨_, copyHeap_at s.heap vs, rfl⟩ entry_list_sort ?body (a2 _)))
  case body =>
    refine wpAny_mono (h _) (fun f s' hf => ?_) fun _ _ z => z
    obtain ⟨rfl, q⟩ := hf
    exact ⟨_, rfl, wpAny_pure ⟨_, rfl, q⟩⟩
theorem sortedT {l : Addr} {Q : Value → Shared → Prop} (hl : s.heap.IsTuple l vs.toArray) (e : EachIs R vs bs) (er : EachIs (fun v b => ∃ as, Reads s.heap v (enc b) as) vs bs) (hal : AllAlike (bs.map enc)) (hk : Sortable (bs.map enc)) (hL : bs.length ≤ sizeLine)
    (hu : ∀ b, b ∈ bs → A.units + 2 + (enc b).depth < cLine) (h : ∀ out, out.length = bs.length → EachIs R out (bs.mergeSort (dataLe false enc)) → Q (.ref (s.heap.objs.size + 1)) { s with heap := sortedAll s.heap vs (List.toArray out) }) :
    wpAny (model prog w) A (call (.builtin "sorted") [.ref l]) Q E s := by
  have er2 : EachIs (fun v b => ∃ as, Reads (sortingHeap (copyHeap s.heap vs) (s.heap.objs.size + 1) vs) v (enc b) as) vs bs := er.mono fun _ _ ⟨as, r⟩ => ⟨as, PyProof.Rows.Reads.keeps (fun _ _ => sorting_copy_old) r⟩
  have S : SortsAt prog w A.in1.in1 { s with heap := sortingHeap (copyHeap s.heap vs) (s.heap.objs.size + 1) vs } _ vs := SortsAt.data (s := { s with heap := sortingHeap (copyHeap s.heap vs) (s.heap.objs.size + 1) vs }) (each_map (R := fun v d => ∃ as, Reads (sortingHeap (copyHeap s.heap vs) (s.heap.objs.size + 1) vs) v d as) enc er2) hal hk (bound_map hu)
  have hL2 : vs.length ≤ sizeLine := by rw [e.length]; exact hL
  exact sortT hl hL2 (args_sorted1 _) (fun _ => args_list_sort _) fun _ => list_sort_vals (s := { s with heap := copyHeap s.heap vs }) (copyHeap_at s.heap vs) S hL2 ⟨rfl, h _ (by rw [sortVals_length false rfl]; exact e.length) (sortVals_data false e er2 hal)⟩
end
end PySem.W
namespace SK
open PySem PySem.Spec PyProof.Rows L2 LamX NdefX
open K0 (De DeAll XCl spX withX)
theorem strs_of : ∀ {ws : List Str} {us : List Value}, Vals (ws.map V.str) us → PySem.W.EachIs (fun v b => ∃ t, v = Value.str b t) us ws
  | [], [], _ => .nil
  | [], _ :: _, h => by cases h
  | _ :: _, [], h => by cases h
  | w :: ws, u :: us, h => by
    cases h with
    | cons h1 h2 => exact .cons h1 (strs_of h2)
theorem strs_to : ∀ {us : List Value} {ws : List Str}, PySem.W.EachIs (fun v b => ∃ t, v = Value.str b t) us ws → Vals (ws.map V.str) us
  | _, _, .nil => .nil
  | _, _, .cons h1 h2 => .cons h1 (strs_to h2)
theorem strs_alike (ws : List Str) : PySem.W.AllAlike (ws.map PyData.str) := fun d hd e he => by
  obtain ⟨x, _, rfl⟩ := List.mem_map.mp hd
  obtain ⟨y, _, rfl⟩ := List.mem_map.mp he
  simp [PySem.W.alike]
theorem strs_sortable (ws : List Str) : PySem.W.Sortable (ws.map PyData.str) := .inr fun d hd => by
  obtain ⟨x, _, rfl⟩ := List.mem_map.mp hd
  exact ⟨(fun z => nomatch z), fun xs z => nomatch z⟩
theorem cr_srt {X : Cx} (hu : X.A.units + 64 < cLine) : CallR X (.builtin "sorted") (rSrt X.K) := by
  intro pins s σ H xs us Q I r h
  obtain ⟨a, ws, rfl, hS, q⟩ := h
  obtain ⟨u, rfl, ru⟩ := vals1 r
  obtain rfl : u = Value.ref a := ru
  have rd : ∀ {us : List Value} {cs : List Str}, PySem.W.EachIs (fun v b => ∃ t, v = Value.str b t) us cs → PySem.W.EachIs (fun v b => ∃ as, Reads s.heap v (PyData.str b) as) us cs := fun {us cs} ee => by
    induction ee with
    | nil => exact .nil
    | cons h1 h2 ih =>
      obtain ⟨t, rfl⟩ := h1
      exact .cons ⟨_, Reads.str _ t⟩ ih
  have dep : ∀ b : Str, b ∈ ws → X.A.units + 2 + (PyData.str b).depth < cLine := fun b _ => by
    simp only [PyData.depth]
    omega
  have fin : ∀ (its out : List Value), ws.length ≤ sizeLine → PySem.W.EachIs (fun v b => ∃ t, v = Value.str b t) out (ws.mergeSort (PySem.W.dataLe false PyData.str)) → ∃ (v : V) (H' : Hp), Inv X pins σ H' { s with heap := sortedAll s.heap its (List.toArray out) } ∧ RelV v (.ref (s.heap.objs.size + 1)) ∧ Q v H' := fun its out hz eo => by
    obtain ⟨ep, he'⟩ := PyProof.Rows.sortedAll_at s.heap its out.toArray
    have hlen : ((srt ws).map V.str).length ≤ sizeLine := by
      unfold srt
      rw [List.length_map, List.length_mergeSort]
      exact hz
    exact ⟨.ref _, upd H (s.heap.objs.size + 1) (.lst ((srt ws).map V.str)), I.laid (t' := s.toks) (fun _ _ => PyProof.Rows.sortedAll_old) (Nat.le_succ _) ⟨hlen, _, ep, strs_to eo, he'⟩, rfl, q _ (I.hok.fresh (Nat.le_succ _))⟩
  rcases hS with hS | hS
  · obtain ⟨its, rv, hl, hz⟩ := I.list hS
    rw [List.length_map] at hz
    have e := strs_of rv
    exact PySem.W.sorted_data (R := fun v b => ∃ t, v = Value.str b t) hl.isList e (rd e) (strs_alike ws) (strs_sortable ws) hz dep fun out ho eo => fin its out hz eo
  · obtain ⟨its, rv, hl, hz⟩ := I.tuple hS
    rw [List.length_map] at hz
    have e := strs_of rv
    exact PySem.W.sortedT (R := fun v b => ∃ t, v = Value.str b t) hl e (rd e) (strs_alike ws) (strs_sortable ws) hz dep fun out ho eo => fin its out hz eo
end SK
namespace SK
open PySem PySem.Spec PyProof.Rows L2 LamX NdefX
open K0 (De DeAll XCl spX withX)
/-! ### how many beginnings -/
theorem lcp_le2 : ∀ (x y : List Nat), lcp x y ≤ y.length
  | [], y => by simp [lcp]
  | _ :: _, [] => by simp [lcp]
  | a :: x, b :: y => by
    have := lcp_le2 x y
    unfold lcp
    split
    · simp
      omega
    · simp
def nobL : Str → List Str → Nat → Nat
  | _, [], m => m
  | last, y :: r, m => nobL y r (m + (y.cps.size - lcpS last y))
def nob (ws : List Str) : Nat := nobL "" (srt ws) 1
theorem nobL_snoc : ∀ (l : List Str) (last y : Str) (m : Nat), nobL last (l ++ [y]) m = nobL last l m + (y.cps.size - lcpS (l.getLastD last) y)
  | [], _, _, _ => rfl
  | x :: l, last, y, m => by
    show nobL x (l ++ [y]) _ = nobL x l _ + _
    rw [nobL_snoc l x y]
    rw [List.getLastD_cons]
def spNob (K : PySem.W.Frag) : Sp := fun vs H Q _ => ∃ (a : Addr) (ws : List Str), vs = [.ref a] ∧ (SqL K H a (ws.map V.str) ∨ SqT K H a (ws.map V.str)) ∧ ws.length ≤ 1000 ∧ (∀ y ∈ ws, y.cps.size ≤ 1000) ∧ ∀ H', Same H H' → Q (.int (nob ws : Nat)) H'
section
variable {P : Program} {w : World} {K : PySem.W.Frag} {mg : Str → Option Value} {base : Heap} {f fS : Addr} {fd fdS : FuncData}
theorem ok_nob (F : Fun K "number_of_beginnings" "number_of_beginnings" (top 26) f fd) (gSo : mg "sorted" = none) (gN : mg "len" = none) (gS : mg "shared" = some (.ref fS)) (kS : PySem.W.keepIn K (.ref fS) = true)
    (GS : FnOk P w K mg base CX0 1 fS fdS ["one", "other"] spShared) (bS : Binds K fdS ["one", "other"] []) : FnOk P w K mg base CX0 2 f fd ["words"] (spNob K) := by
  have S0 : FnScope ["words", "many", "last", "word"] ["words"] (defScope (top 26)) := ⟨rfl, rfl, rfl, by decide +kernel, rfl, by decide +kernel, by decide +kernel⟩
  refine F.ok S0 (fun vs H Q E h => ?_) (fun cdv A outer s H vs Q E hr h => ?_)
  · obtain ⟨a, ws, rfl, _⟩ := h
    rfl
  · obtain ⟨a, ws, rfl, hS, hz, hy, kk⟩ := h
    have hu64 := hr.units
    refine ⟨_, pss_cons (ps_set (i := 1) S0.nd rfl (Or.inl rfl) pe_int) (pss_cons (ps_set (i := 2) S0.nd rfl (Or.inl rfl) pe_str)
      (pss_cons (ps_for PassesOwn.never rfl (pi_list (pe_callB (cr_srt hu64) (by rfl) gSo PyProof.Rows.boot_sorted (pa_cons (pv 0) pa_nil))) (pg_name (i := 3) S0.nd rfl (Or.inl rfl))
        (pss_cons (ps_aug (i := 1) S0.nd rfl (Or.inl rfl) (pe_op op_sub (pe_callB call_len_str (by rfl) gN PySem.boot_len (pa_cons (pv 3) pa_nil)) (pe_call GS hr (by rfl) gS kS bS .nil pass0 (pa_cons (pv 2) (pa_cons (pv 3) pa_nil)))) ip_add)
        (pss_one (ps_set (i := 2) S0.nd rfl (Or.inl rfl) (pv 3)))))
      (pss_one (ps_ret (pv 1))))), ?_⟩
    refine ⟨V.ref a, rfl, a, ws, rfl, hS, fun p np => ?_⟩
    have s1 := upd_new (o := .lst ((srt ws).map V.str)) np
    have h1 : upd H p (.lst ((srt ws).map V.str)) p = some (.lst ((srt ws).map V.str)) := upd_same
    generalize upd H p (.lst ((srt ws).map V.str)) = H1 at s1 h1
    have hm : ∀ y ∈ srt ws, y.cps.size ≤ 1000 := fun y hy' => hy y ((List.mergeSort_perm ws _).mem_iff.mp hy')
    have hl : (srt ws).length ≤ 1000 := by
      unfold srt
      rw [List.length_mergeSort]
      exact hz
    have kk : ∀ H', Same H H' → Q (.int (nobL "" (srt ws) 1 : Nat)) H' := kk
    generalize srt ws = zs at h1 hm hl kk
    refine ⟨p, rfl, ⟨_, .inl (.inl h1)⟩, for_it (walk_list (K := K) (xs := zs.map V.str)) (fun i σ G => G = H1 ∧ ∃ (x3 : Option V), σ = [some (.ref a), some (.int (nobL "" (zs.take i) 1 : Nat)), some (.str ((zs.take i).getLastD "")), x3] ∧ nobL "" (zs.take i) 1 ≤ 1 + 1000 * i)
      ⟨rfl, none, rfl, (by show 1 ≤ _; omega)⟩ (fun i σ G _ q => by rw [q.1]; exact .inl (.inl h1)) ?_ ?_⟩
    · rintro i x σ G G2 hi ⟨rfl, x3, rfl, hb⟩ ⟨rfl, hx⟩
      obtain ⟨y, hy', rfl⟩ := map_at hx
      have hyz := hm y (List.mem_of_getElem? hy')
      have hyl : y.length ≤ sizeLine := Nat.le_trans hyz (by decide)
      have hlast : ((zs.take i).getLastD "").cps.size ≤ 1000 := by
        rw [List.getLastD_eq_getLast?]
        cases e : (zs.take i).getLast? with
        | none => exact (by decide : ((Str.ofString "").cps.size ≤ 1000))
        | some u => exact hm u (List.mem_of_mem_take (List.mem_of_getLast? e))
      have hil : i < 1000 := by
        rw [List.length_map] at hi
        omega
      have hlc : lcpS ((zs.take i).getLastD "") y ≤ y.cps.size := by
        have z := lcp_le2 ((zs.take i).getLastD "").cps.toList y.cps.toList
        rw [Array.length_toList] at z
        exact z
      have b62 : (2000000 : Int) < 2 ^ 62 := by decide
      refine ⟨_, rfl, V.str y, rfl, y, rfl, hyl, V.str ((zs.take i).getLastD ""), rfl, V.str y, rfl, _, y, rfl, hlast, hyz, ?_⟩
      refine ⟨(y.length : Int), (lcpS ((zs.take i).getLastD "") y : Nat), rfl, rfl, ?_⟩
      have el : y.length = y.cps.size := rfl
      have en : nobL "" (zs.take (i + 1)) 1 = nobL "" (zs.take i) 1 + (y.cps.size - lcpS ((zs.take i).getLastD "") y) := by
        rw [take_snoc hy', nobL_snoc]
      refine ⟨_, _, rfl, rfl, ?_⟩
      refine ⟨V.str y, rfl, rfl, some (.str y), ?_, by rw [en]; omega⟩
      have e1 : ((nobL "" (zs.take i) 1 : Nat) : Int) + ((y.length : Int) - ((lcpS ((zs.take i).getLastD "") y : Nat) : Int)) = ((nobL "" (zs.take (i + 1)) 1 : Nat) : Int) := by
        rw [en, el]
        omega
      have e2 : (zs.take (i + 1)).getLastD "" = y := by
        rw [take_snoc hy']
        simp
      rw [e2, ← e1]
      rfl
    · rintro σ G ⟨rfl, x3, rfl, hb⟩
      rw [List.length_map, List.take_length]
      exact ⟨_, rfl, kk _ s1⟩
end
end SK
namespace SK
open PySem PySem.Spec PyProof.Rows L2 LamX NdefX
open K0 (De DeAll XCl spX withX)
/-! ### the marks of all beginnings -/
def isBeg (ws : List Str) (x : Str) : Prop := x = Str.ofString "" ∨ ∃ y ∈ ws, x.cps.toList <+: y.cps.toList
theorem cut_take (y : Str) (n : Nat) : (cutS y none (some (n : Int))).cps.toList = y.cps.toList.take n := by
  have e : HT.sIx y.length y.length (some (n : Int)) = min n y.length := by
    show (if ((n : Int)) < 0 then (((n : Int)) + (y.length : Int)).toNat else min ((n : Int)).toNat y.length) = _
    rw [if_neg (by omega)]
    rfl
  unfold cutS
  rw [e, HT.sIx_none, List.drop_zero, Nat.sub_zero]
  have z : y.length = y.cps.toList.length := by simp [Str.length]
  rw [z, List.toList_toArray, ← List.take_take, List.take_length]
theorem empty_list : (Str.ofString "").cps.toList = [] := by decide +kernel
theorem beg_step (pw : List Str) (y x : Str) : isBeg (pw ++ [y]) x ↔ (isBeg pw x ∨ ∃ n, 1 ≤ n ∧ n ≤ y.length - 1 ∧ x.cps.toList = y.cps.toList.take n) ∨ x = y := by
  have hyl : y.length = y.cps.toList.length := by simp [Str.length]
  constructor
  · rintro (h | ⟨u, hu, hp⟩)
    · exact .inl (.inl (.inl h))
    · rcases List.mem_append.mp hu with hu | hu
      · exact .inl (.inl (.inr ⟨u, hu, hp⟩))
      · obtain rfl : u = y := by simpa using hu
        have ht := List.prefix_iff_eq_take.mp hp
        have hle := hp.length_le
        by_cases h0 : x.cps.toList.length = 0
        · exact .inl (.inl (.inl (str_ext (by rw [empty_list]; exact List.eq_nil_of_length_eq_zero h0))))
        · by_cases h1 : x.cps.toList.length = u.cps.toList.length
          · refine .inr (str_ext ?_)
            rw [ht, h1, List.take_length]
          · exact .inl (.inr ⟨x.cps.toList.length, by omega, by omega, ht⟩)
  · rintro ((h | ⟨n, h1, h2, h3⟩) | rfl)
    · rcases h with h | ⟨u, hu, hp⟩
      · exact .inl h
      · exact .inr ⟨u, List.mem_append_left _ hu, hp⟩
    · exact .inr ⟨y, by simp, by rw [h3]; exact List.take_prefix _ _⟩
    · exact .inr ⟨x, by simp, List.prefix_refl _⟩
structure MarksAt (kvs : List (Key × V)) (ps pw : List Str) : Prop where
  keys : Keys kvs ps
  nd : ps.Nodup
  vals : ∀ x ∈ ps, valV kvs (.inr x) = some (.bl (decide (x ∈ pw)))
  sub : ∀ x ∈ pw, x ∈ ps
theorem MarksAt.no {kvs : List (Key × V)} {ps pw : List Str} (h : MarksAt kvs ps pw) {x : Str} (hx : x ∉ ps) : valV kvs (.inr x) = none := by
  have z := h.keys.has x
  rw [decide_eq_false hx] at z
  cases q : valV kvs (.inr x) with
  | none => rfl
  | some v =>
    rw [q] at z
    cases z
theorem MarksAt.put {kvs : List (Key × V)} {ps pw : List Str} (h : MarksAt kvs ps pw) {x : Str} (hx : x ∉ ps) (b : Bool) : Keys (putK kvs (.inr x) (.bl b)) (ps ++ [x]) ∧ (ps ++ [x]).Nodup := by
  refine ⟨?_, List.nodup_append.mpr ⟨h.nd, by simp, fun a ha c hc z => ?_⟩⟩
  · rw [putK_new _ (h.no hx)]
    unfold Keys
    rw [List.map_append, List.map_append]
    have z : kvs.map Prod.fst = _ := h.keys
    rw [z]
    rfl
  · obtain rfl : c = x := by simpa using hc
    subst z
    exact hx ha
theorem MarksAt.add {kvs : List (Key × V)} {ps pw : List Str} (h : MarksAt kvs ps pw) {x : Str} (hx : x ∉ ps) : MarksAt (putK kvs (.inr x) (.bl false)) (ps ++ [x]) pw := by
  obtain ⟨h1, h2⟩ := h.put hx false
  refine ⟨h1, h2, fun y hy => ?_, fun y hy => List.mem_append_left _ (h.sub y hy)⟩
  rw [valV_put]
  by_cases e : y = x
  · subst e
    rw [if_pos rfl, decide_eq_false fun z => hx (h.sub _ z)]
  · rw [if_neg (fun z => e (by injection z))]
    refine h.vals y ?_
    rcases List.mem_append.mp hy with hy | hy
    · exact hy
    · exact absurd (by simpa using hy) e
theorem MarksAt.mark {kvs : List (Key × V)} {ps pw : List Str} (h : MarksAt kvs ps pw) (x : Str) : ∃ ps', MarksAt (putK kvs (.inr x) (.bl true)) ps' (pw ++ [x]) ∧ (∀ y, y ∈ ps' ↔ y ∈ ps ∨ y = x) ∧ ps'.length ≤ ps.length + 1 := by
  have val : ∀ y, (y ∈ ps ∨ y = x) → valV (putK kvs (.inr x) (.bl true)) (.inr y) = some (.bl (decide (y ∈ pw ++ [x]))) := fun y hy => by
    rw [valV_put]
    by_cases e : y = x
    · subst e
      rw [if_pos rfl, decide_eq_true (by simp)]
    · rw [if_neg (fun z => e (by injection z)), h.vals y (hy.elim id fun z => absurd z e)]
      have q : y ∈ pw ++ [x] ↔ y ∈ pw := by simp [e]
      exact congrArg (fun b => some (V.bl b)) (decide_eq_decide.mpr q.symm)
  by_cases hx : x ∈ ps
  · refine ⟨ps, ⟨h.keys.put hx, h.nd, fun y hy => val y (.inl hy), fun y hy => ?_⟩, fun y => ⟨.inl, fun z => z.elim id fun e => e ▸ hx⟩, by omega⟩
    rcases List.mem_append.mp hy with hy | hy
    · exact h.sub y hy
    · obtain rfl : y = x := by simpa using hy
      exact hx
  · obtain ⟨h1, h2⟩ := h.put hx true
    refine ⟨ps ++ [x], ⟨h1, h2, fun y hy => val y (by simpa using hy), fun y hy => ?_⟩, fun y => by simp, by simp⟩
    rcases List.mem_append.mp hy with hy | hy
    · exact List.mem_append_left _ (h.sub y hy)
    · exact List.mem_append_right _ hy
theorem marks0 : MarksAt [(.inr (Str.ofString ""), .bl false)] [Str.ofString ""] [] := ⟨rfl, by simp, fun x hx => by
  obtain rfl : x = Str.ofString "" := by simpa using hx
  show (valV [(Sum.inr (Str.ofString ""), V.bl false)] (Sum.inr (Str.ofString ""))) = some (.bl false)
  kernel_rfl, fun x hx => absurd hx (by simp)⟩
def spMarks (K : PySem.W.Frag) : Sp := fun vs H Q _ => ∃ (a : Addr) (ws : List Str), vs = [.ref a] ∧ Rows H a (ws.map V.str) ∧ ws.length ≤ 1000 ∧ (∀ y ∈ ws, y.cps.size ≤ 1000) ∧
  ∀ (H' : Hp) (D : Addr) (kvs : List (Key × V)) (ps : List Str), Same H H' → H D = none → H' D = some (.dK kvs) → MarksAt kvs ps ws → (∀ x, x ∈ ps ↔ isBeg ws x) → Q (.ref D) H'
section
variable {P : Program} {w : World} {K : PySem.W.Frag} {mg : Str → Option Value} {base : Heap} {f fS : Addr} {fd fdS : FuncData}
theorem ok_marks (F : Fun K "marks_of" "marks_of" (top 27) f fd) (gN : mg "len" = none) (gR : mg "range" = none) : FnOk P w K mg base CX0 1 f fd ["words"] (spMarks K) := by
  have S0 : FnScope ["words", "marks", "word", "length"] ["words"] (defScope (top 27)) := ⟨rfl, rfl, rfl, by decide +kernel, rfl, by decide +kernel, by decide +kernel⟩
  refine F.ok S0 (fun vs H Q E h => ?_) (fun cdv A outer s H vs Q E hr h => ?_)
  · obtain ⟨a, ws, rfl, _⟩ := h
    rfl
  · obtain ⟨a, ws, rfl, hrows, hz, hy, kk⟩ := h
    have hu := hu_of hr
    rcases hrows with ha | ha
    · refine ⟨_, pss_cons (ps_set (i := 1) S0.nd rfl (Or.inl rfl) (pe_disp (pps_cons pe_str pe_bl pps_nil) rfl rfl (by simp) (by decide))) (pss_cons (ps_for PassesOwn.never rfl (pi_list (pv 0)) (pg_name (i := 2) S0.nd rfl (Or.inl rfl))
          (pss_cons (ps_for PassesOwn.never rfl (pi_range2 (by rfl) gR (pa_cons pe_int (pa_cons (pe_callB call_len_str (by rfl) gN PySem.boot_len (pa_cons (pv 2) pa_nil)) pa_nil))) (pg_name (i := 3) S0.nd rfl (Or.inl rfl))
            (pss_one (ps_expr (pe_dsetd (pv 1) (pe_slice sl_str (pv 2) po_none (po_some (pv 3))) pe_bl ⟨rfl, rfl, rfl, rfl⟩))))
          (pss_one (ps_dput hu (pv 1) (pv 2) pe_bl rfl))))
        (pss_one (ps_ret (pv 1)))), ?_⟩
      refine fun D nD => ⟨upd_same, [(.inr (Str.ofString ""), .bl false)], rfl, by decide, ?_⟩
      have em : mergeK [] [((Sum.inr (Str.ofString "") : Key), V.bl false)] = [(.inr (Str.ofString ""), .bl false)] := by kernel_rfl
      rw [em]
      have s0 : Same H (upd (upd H D (.dK [])) D (.dK [(.inr (Str.ofString ""), .bl false)])) := fun b o e => by
        have n1 := ne_of_none e nD
        rw [upd_ne n1, upd_ne n1]
        exact e
      have d0 : upd (upd H D (.dK [])) D (.dK [(.inr (Str.ofString ""), .bl false)]) D = some (.dK [(.inr (Str.ofString ""), .bl false)]) := upd_same
      generalize upd (upd H D (.dK [])) D (.dK [(.inr (Str.ofString ""), .bl false)]) = H0 at s0 d0
      refine ⟨V.ref a, rfl, a, rfl, ⟨_, .inl (.inl (s0 _ _ ha))⟩, for_it (walk_list (K := K) (xs := ws.map V.str)) (fun i σ G => ∃ (x2 x3 : Option V) (kvs : List (Key × V)) (ps : List Str), σ = [some (.ref a), some (.ref D), x2, x3] ∧ Same H G ∧ G D = some (.dK kvs) ∧ MarksAt kvs ps (ws.take i) ∧ (∀ x, x ∈ ps ↔ isBeg (ws.take i) x) ∧ ps.length ≤ 1 + 1001 * i)
        ⟨none, none, _, [Str.ofString ""], rfl, s0, d0, marks0, fun x => ⟨fun h => .inl (by simpa using h), fun h => h.elim (fun z => by simp [z]) fun ⟨u, hu, _⟩ => absurd hu (by simp)⟩, by show 1 ≤ _; omega⟩ (fun i σ G _ q => ?_) ?_ ?_⟩
      · obtain ⟨_, _, _, _, _, sG, _⟩ := q
        exact .inl (.inl (sG _ _ ha))
      · rintro i x σ G G2 hi ⟨x2, x3, kvs, ps, rfl, sG, hD, hM, hps, hl⟩ ⟨rfl, hx⟩
        obtain ⟨y, hy', rfl⟩ := map_at hx
        have hyz := hy y (List.mem_of_getElem? hy')
        have hyl : y.length ≤ 1000 := hyz
        have hys : y.length ≤ sizeLine := Nat.le_trans hyl (by decide)
        have big : (1100000 : Nat) < sizeLine := by decide
        have hil : i < 1000 := by
          rw [List.length_map] at hi
          omega
        have b62 : (1001 : Int) < 2 ^ 62 := by decide
        refine ⟨V.str y, rfl, y, rfl, hys, 1, _, rfl, ⟨by decide, by decide, by omega, by omega⟩, for_it walk_range (fun j σ G3 => ∃ (x3 : Option V) (kv2 : List (Key × V)) (p2 : List Str), σ = [some (.ref a), some (.ref D), some (.str y), x3] ∧ Same H G3 ∧ G3 D = some (.dK kv2) ∧ MarksAt kv2 p2 (ws.take i) ∧ (∀ x, x ∈ p2 ↔ (isBeg (ws.take i) x ∨ ∃ n, 1 ≤ n ∧ n ≤ j ∧ x.cps.toList = y.cps.toList.take n)) ∧ p2.length ≤ 1 + 1001 * i + j)
          ⟨x3, kvs, ps, rfl, sG, hD, hM, fun x => ⟨fun h => .inl ((hps x).mp h), fun h => h.elim (hps x).mpr fun ⟨n, h1, h2, _⟩ => by omega⟩, by omega⟩ (fun _ _ _ _ _ => trivial) ?_ ?_⟩
        · rintro j x σ G3 G4 hj ⟨x3, kv2, p2, rfl, s3, hD3, hM3, hp3, hl3⟩ ⟨rfl, rfl⟩
          have ec : (1 : Int) + (j : Int) = ((j + 1 : Nat) : Int) := by omega
          have hkl : kv2.length = p2.length := hM3.keys.len
          have hjl : j < 1000 := by omega
          refine ⟨V.ref D, rfl, D, rfl, .inl ⟨_, .inl hD3⟩, V.str y, rfl, V.int (1 + (j : Int)), rfl, _, rfl, y, rfl, hys, kv2, .inr (cutS y none (some (1 + (j : Int)))), hD3, rfl, by omega, fun v hv => ?_, fun hv => ?_⟩
          · have hm : cutS y none (some (1 + (j : Int))) ∈ p2 := Decidable.byContradiction fun z => by
              rw [hM3.no z] at hv
              cases hv
            refine ⟨_, kv2, p2, rfl, s3, hD3, hM3, fun x => ⟨fun h => ?_, fun h => ?_⟩, by omega⟩
            · rcases (hp3 x).mp h with h | ⟨n, h1, h2, h3⟩
              · exact .inl h
              · exact .inr ⟨n, h1, by omega, h3⟩
            · rcases h with h | ⟨n, h1, h2, h3⟩
              · exact (hp3 x).mpr (.inl h)
              · by_cases e : n = j + 1
                · have ex : x = cutS y none (some (1 + (j : Int))) := str_ext (by rw [h3, e, ec, cut_take])
                  rw [ex]
                  exact hm
                · exact (hp3 x).mpr (.inr ⟨n, h1, by omega, h3⟩)
          · have hm : cutS y none (some (1 + (j : Int))) ∉ p2 := fun z => by
              rw [hM3.vals _ z] at hv
              cases hv
            refine ⟨_, _, p2 ++ [cutS y none (some (1 + (j : Int)))], rfl, fun b o e => ?_, upd_same, hM3.add hm, fun x => ⟨fun h => ?_, fun h => ?_⟩, by rw [List.length_append]; show p2.length + 1 ≤ _; omega⟩
            · rw [upd_ne (ne_of_none e nD)]
              exact s3 _ _ e
            · rcases List.mem_append.mp h with h | h
              · rcases (hp3 x).mp h with h | ⟨n, h1, h2, h3⟩
                · exact .inl h
                · exact .inr ⟨n, h1, by omega, h3⟩
              · have ex : x = cutS y none (some (1 + (j : Int))) := by simpa using h
                exact .inr ⟨j + 1, by omega, by omega, by rw [ex, ec, cut_take]⟩
            · rcases h with h | ⟨n, h1, h2, h3⟩
              · exact List.mem_append_left _ ((hp3 x).mpr (.inl h))
              · by_cases e : n = j + 1
                · have ex : x = cutS y none (some (1 + (j : Int))) := str_ext (by rw [h3, e, ec, cut_take])
                  rw [ex]
                  exact List.mem_append_right _ (by simp)
                · exact List.mem_append_left _ ((hp3 x).mpr (.inr ⟨n, h1, by omega, h3⟩))
        · rintro σ G3 ⟨x3, kv2, p2, rfl, s3, hD3, hM3, hp3, hl3⟩
          have ej : (((y.length : Nat) : Int) - 1).toNat = y.length - 1 := by omega
          rw [ej] at hp3 hl3
          have hkl : kv2.length = p2.length := hM3.keys.len
          obtain ⟨p4, h1, h2, h3⟩ := hM3.mark y
          refine ⟨V.ref D, rfl, V.str y, rfl, D, _, rfl, .inl ⟨kv2, .inr y, hD3, rfl, by omega, rfl⟩, _, _, _, p4, rfl, fun b o e => ?_, upd_same, ?_, fun x => ?_, by omega⟩
          · rw [upd_ne (ne_of_none e nD)]
            exact s3 _ _ e
          · rw [take_snoc hy']
            exact h1
          · rw [take_snoc hy', beg_step, h2, hp3]
      · rintro σ G ⟨x2, x3, kvs, ps, rfl, sG, hD, hM, hps, hl⟩
        rw [List.length_map, List.take_length] at hM hps
        exact ⟨V.ref D, rfl, kk G D kvs ps sG nD hD hM hps⟩
    · refine ⟨_, pss_cons (ps_set (i := 1) S0.nd rfl (Or.inl rfl) (pe_disp (pps_cons pe_str pe_bl pps_nil) rfl rfl (by simp) (by decide))) (pss_cons (ps_for PassesOwn.never rfl (pi_tup (pv 0)) (pg_name (i := 2) S0.nd rfl (Or.inl rfl))
          (pss_cons (ps_for PassesOwn.never rfl (pi_range2 (by rfl) gR (pa_cons pe_int (pa_cons (pe_callB call_len_str (by rfl) gN PySem.boot_len (pa_cons (pv 2) pa_nil)) pa_nil))) (pg_name (i := 3) S0.nd rfl (Or.inl rfl))
            (pss_one (ps_expr (pe_dsetd (pv 1) (pe_slice sl_str (pv 2) po_none (po_some (pv 3))) pe_bl ⟨rfl, rfl, rfl, rfl⟩))))
          (pss_one (ps_dput hu (pv 1) (pv 2) pe_bl rfl))))
        (pss_one (ps_ret (pv 1)))), ?_⟩
      refine fun D nD => ⟨upd_same, [(.inr (Str.ofString ""), .bl false)], rfl, by decide, ?_⟩
      have em : mergeK [] [((Sum.inr (Str.ofString "") : Key), V.bl false)] = [(.inr (Str.ofString ""), .bl false)] := by kernel_rfl
      rw [em]
      have s0 : Same H (upd (upd H D (.dK [])) D (.dK [(.inr (Str.ofString ""), .bl false)])) := fun b o e => by
        have n1 := ne_of_none e nD
        rw [upd_ne n1, upd_ne n1]
        exact e
      have d0 : upd (upd H D (.dK [])) D (.dK [(.inr (Str.ofString ""), .bl false)]) D = some (.dK [(.inr (Str.ofString ""), .bl false)]) := upd_same
      generalize upd (upd H D (.dK [])) D (.dK [(.inr (Str.ofString ""), .bl false)]) = H0 at s0 d0
      refine ⟨V.ref a, rfl, a, rfl, ⟨_, .inl (.inl (s0 _ _ ha))⟩, for_it (walk_tup (K := K) (xs := ws.map V.str)) (fun i σ G => ∃ (x2 x3 : Option V) (kvs : List (Key × V)) (ps : List Str), σ = [some (.ref a), some (.ref D), x2, x3] ∧ Same H G ∧ G D = some (.dK kvs) ∧ MarksAt kvs ps (ws.take i) ∧ (∀ x, x ∈ ps ↔ isBeg (ws.take i) x) ∧ ps.length ≤ 1 + 1001 * i)
        ⟨none, none, _, [Str.ofString ""], rfl, s0, d0, marks0, fun x => ⟨fun h => .inl (by simpa using h), fun h => h.elim (fun z => by simp [z]) fun ⟨u, hu, _⟩ => absurd hu (by simp)⟩, by show 1 ≤ _; omega⟩ (fun i σ G _ q => ?_) ?_ ?_⟩
      · obtain ⟨_, _, _, _, _, sG, _⟩ := q
        exact .inl (.inl (sG _ _ ha))
      · rintro i x σ G G2 hi ⟨x2, x3, kvs, ps, rfl, sG, hD, hM, hps, hl⟩ ⟨rfl, hx⟩
        obtain ⟨y, hy', rfl⟩ := map_at hx
        have hyz := hy y (List.mem_of_getElem? hy')
        have hyl : y.length ≤ 1000 := hyz
        have hys : y.length ≤ sizeLine := Nat.le_trans hyl (by decide)
        have big : (1100000 : Nat) < sizeLine := by decide
        have hil : i < 1000 := by
          rw [List.length_map] at hi
          omega
        have b62 : (1001 : Int) < 2 ^ 62 := by decide
        refine ⟨V.str y, rfl, y, rfl, hys, 1, _, rfl, ⟨by decide, by decide, by omega, by omega⟩, for_it walk_range (fun j σ G3 => ∃ (x3 : Option V) (kv2 : List (Key × V)) (p2 : List Str), σ = [some (.ref a), some (.ref D), some (.str y), x3] ∧ Same H G3 ∧ G3 D = some (.dK kv2) ∧ MarksAt kv2 p2 (ws.take i) ∧ (∀ x, x ∈ p2 ↔ (isBeg (ws.take i) x ∨ ∃ n, 1 ≤ n ∧ n ≤ j ∧ x.cps.toList = y.cps.toList.take n)) ∧ p2.length ≤ 1 + 1001 * i + j)
          ⟨x3, kvs, ps, rfl, sG, hD, hM, fun x => ⟨fun h => .inl ((hps x).mp h), fun h => h.elim (hps x).mpr fun ⟨n, h1, h2, _⟩ => by omega⟩, by omega⟩ (fun _ _ _ _ _ => trivial) ?_ ?_⟩
        · rintro j x σ G3 G4 hj ⟨x3, kv2, p2, rfl, s3, hD3, hM3, hp3, hl3⟩ ⟨rfl, rfl⟩
          have ec : (1 : Int) + (j : Int) = ((j + 1 : Nat) : Int) := by omega
          have hkl : kv2.length = p2.length := hM3.keys.len
          have hjl : j < 1000 := by omega
          refine ⟨V.ref D, rfl, D, rfl, .inl ⟨_, .inl hD3⟩, V.str y, rfl, V.int (1 + (j : Int)), rfl, _, rfl, y, rfl, hys, kv2, .inr (cutS y none (some (1 + (j : Int)))), hD3, rfl, by omega, fun v hv => ?_, fun hv => ?_⟩
          · have hm : cutS y none (some (1 + (j : Int))) ∈ p2 := Decidable.byContradiction fun z => by
              rw [hM3.no z] at hv
              cases hv
            refine ⟨_, kv2, p2, rfl, s3, hD3, hM3, fun x => ⟨fun h => ?_, fun h => ?_⟩, by omega⟩
            · rcases (hp3 x).mp h with h | ⟨n, h1, h2, h3⟩
              · exact .inl h
              · exact .inr ⟨n, h1, by omega, h3⟩
            · rcases h with h | ⟨n, h1, h2, h3⟩
              · exact (hp3 x).mpr (.inl h)
              · by_cases e : n = j + 1
                · have ex : x = cutS y none (some (1 + (j : Int))) := str_ext (by rw [h3, e, ec, cut_take])
                  rw [ex]
                  exact hm
                · exact (hp3 x).mpr (.inr ⟨n, h1, by omega, h3⟩)
          · have hm : cutS y none (some (1 + (j : Int))) ∉ p2 := fun z => by
              rw [hM3.vals _ z] at hv
              cases hv
            refine ⟨_, _, p2 ++ [cutS y none (some (1 + (j : Int)))], rfl, fun b o e => ?_, upd_same, hM3.add hm, fun x => ⟨fun h => ?_, fun h => ?_⟩, by rw [List.length_append]; show p2.length + 1 ≤ _; omega⟩
            · rw [upd_ne (ne_of_none e nD)]
              exact s3 _ _ e
            · rcases List.mem_append.mp h with h | h
              · rcases (hp3 x).mp h with h | ⟨n, h1, h2, h3⟩
                · exact .inl h
                · exact .inr ⟨n, h1, by omega, h3⟩
              · have ex : x = cutS y none (some (1 + (j : Int))) := by simpa using h
                exact .inr ⟨j + 1, by omega, by omega, by rw [ex, ec, cut_take]⟩
            · rcases h with h | ⟨n, h1, h2, h3⟩
              · exact List.mem_append_left _ ((hp3 x).mpr (.inl h))
              · by_cases e : n = j + 1
                · have ex : x = cutS y none (some (1 + (j : Int))) := str_ext (by rw [h3, e, ec, cut_take])
                  rw [ex]
                  exact List.mem_append_right _ (by simp)
                · exact List.mem_append_left _ ((hp3 x).mpr (.inr ⟨n, h1, by omega, h3⟩))
        · rintro σ G3 ⟨x3, kv2, p2, rfl, s3, hD3, hM3, hp3, hl3⟩
          have ej : (((y.length : Nat) : Int) - 1).toNat = y.length - 1 := by omega
          rw [ej] at hp3 hl3
          have hkl : kv2.length = p2.length := hM3.keys.len
          obtain ⟨p4, h1, h2, h3⟩ := hM3.mark y
          refine ⟨V.ref D, rfl, V.str y, rfl, D, _, rfl, .inl ⟨kv2, .inr y, hD3, rfl, by omega, rfl⟩, _, _, _, p4, rfl, fun b o e => ?_, upd_same, ?_, fun x => ?_, by omega⟩
          · rw [upd_ne (ne_of_none e nD)]
            exact s3 _ _ e
          · rw [take_snoc hy']
            exact h1
          · rw [take_snoc hy', beg_step, h2, hp3]
      · rintro σ G ⟨x2, x3, kvs, ps, rfl, sG, hD, hM, hps, hl⟩
        rw [List.length_map, List.take_length] at hM hps
        exact ⟨V.ref D, rfl, kk G D kvs ps sG nD hD hM hps⟩
end
end SK
namespace SK
open PySem PySem.Spec PyProof.Rows L2 LamX NdefX
open K0 (De DeAll XCl spX withX)
/-! ### a list of words is looked through -/
def wscan (ls : Str) : List Str → Nat → List PyData → Option Nat
  | _, _, [] => none
  | seen, i, d :: r => if okW ls d = true ∧ strOf d ∉ seen then wscan ls (seen ++ [strOf d]) (i + 1) r else some i
def TxtFit (ds : List PyData) : Prop := ∀ x, PyData.str x ∈ ds → x.cps.size ≤ 1000
def spCW (K : PySem.W.Frag) (C : Addr) : Sp := fun vs H Q E => ∃ (ls : Str) (a : Addr) (xs : List V) (ds : List PyData), vs = [.str ls, .ref a] ∧ Rows H a xs ∧ DeAll K H xs ds ∧ TxtFit ds ∧ xs.length ≤ 5000 ∧
  (wscan ls [] 0 ds = none → ∀ H', Same H H' → Q .non H') ∧ (∀ i, wscan ls [] 0 ds = some i → Thrown E C H [("number", .int (i : Nat))])
section
variable {P : Program} {w : World} {K : PySem.W.Frag} {mg : Str → Option Value} {base : Heap} {f fW C : Addr} {fd fdW : FuncData}
theorem ok_cw (F : Fun K "check_words" "check_words" (top 19) f fd) (D : XR P w K mg base "BadWord" C ["number"]) (gE : mg "enumerate" = none) (gW : mg "is_word" = some (.ref fW)) (kW : PySem.W.keepIn K (.ref fW) = true)
    (GW : FnOk P w K mg base CX0 1 fW fdW ["letters", "word"] (spWord K)) (bW : Binds K fdW ["letters", "word"] []) : FnOk P w K mg base (L2.CX P w) 3 f fd ["letters", "words"] (spCW K C) := by
  have S0 : FnScope ["letters", "words", "known", "number", "word"] ["letters", "words"] (defScope (top 19)) := ⟨rfl, rfl, rfl, by decide +kernel, rfl, by decide +kernel, by decide +kernel⟩
  refine F.okX S0 (fun vs H Q E h => ?_) (fun cdv A outer s H vs Q E hr h => ?_)
  · obtain ⟨ls, a, xs, ds, rfl, _⟩ := h
    rfl
  · obtain ⟨ls, a, xs, ds, rfl, hrows, hda, hfit, hz, k1, k2⟩ := h
    obtain ⟨fi, fdi, iC, tI, F1, b1⟩ := D.ini
    have hu := hu_of hr
    have hlen := deAll_len hda
    rcases hrows with ha | ha
    · refine ⟨_, pss_cons (ps_set (i := 2) S0.nd rfl (Or.inl rfl) pe_dnewK) (pss_one (ps_for (passes_of rfl) rfl (pi_enum (by rfl) gE (pa_cons (pv 1) pa_nil)) (pg_tup rfl (pgs_cons (pg_name (i := 3) S0.nd rfl (Or.inl rfl)) (pgs_cons (pg_name (i := 4) S0.nd rfl (Or.inl rfl)) pgs_nil)))
        (pss_cons (ps_if (pw_or (pt_not (pt_val (pe_call GW (hr.mono (by decide)) (by rfl) gW kW bW .nil pass0 (pa_cons (pv 0) (pa_cons (pv 4) pa_nil))))) (pw_or1 (pt_cmp (pc_din hu (pv 4) (pv 2))))).pt
            (pss_one (ps_raise rfl (takes_of rfl rfl rfl rfl) (pmk_oex D.cl.T iC tI F1 hr b1 .nil pass0 (by rfl) D.gC (pa_cons (pv 3) pa_nil)))) pss_nil)
          (pss_one (ps_dput hu (pv 2) (pv 4) pe_bl rfl))))), ?_⟩
      refine fun B nB => ⟨V.ref a, rfl, a, xs, rfl, .inl (.inl (upd_new nB _ _ ha)), for_it (walk_enum (K := K) (xs := xs)) (fun i σ H1 => ∃ (x3 x4 : Option V) (kvs : List (Key × V)), σ = [some (.str ls), some (.ref a), some (.ref B), x3, x4] ∧ Same H H1 ∧ H1 B = some (.dK kvs) ∧ Keys kvs ((ds.take i).map strOf) ∧ wscan ls [] 0 ds = wscan ls ((ds.take i).map strOf) i (ds.drop i))
        ⟨none, none, [], rfl, upd_new nB, upd_same, rfl, rfl⟩ (fun i σ H1 _ q => ?_) ?_ ?_⟩
      · obtain ⟨_, _, _, _, s1, _⟩ := q
        exact .inl (.inl (s1 _ _ ha))
      · rintro i x σ H1 H2 hi ⟨x3, x4, kvs, rfl, s1, hB, hk, hsc⟩ ⟨T1, x1, y1, rfl, nT1, rfl, ex, ey⟩
        obtain rfl : V.int (i : Nat) = x1 := Option.some.inj ex
        obtain ⟨d, hdi, hd⟩ := deAll_at hda ey
        have s3 : Same H1 (upd H1 T1 (.tup [.int (i : Nat), y1])) := upd_new nT1
        refine ⟨T1, _, rfl, .inl (.inl upd_same), rfl, _, _, rfl, _, _, rfl, rfl, ?_⟩
        generalize upd H1 T1 (.tup [.int (i : Nat), y1]) = H2 at s3
        have hd2 : De K H2 y1 d := de_mono (s1.trans s3) d y1 hd
        refine ⟨V.str ls, rfl, y1, rfl, ls, y1, d, rfl, hd2, fun x e => hfit x (e ▸ List.mem_of_getElem? hdi), fun H3 s4 => ⟨okW ls d, rfl, ?_⟩⟩
        have s13 := (s1.trans s3).trans s4
        have hil : i < ds.length := by omega
        have ed : ds.drop i = d :: ds.drop (i + 1) := by
          have z := List.drop_eq_getElem_cons hil
          have e2 : ds[i] = d := by
            rw [List.getElem?_eq_getElem hil] at hdi
            exact Option.some.inj hdi
          rw [z, e2]
        have et : ds.take (i + 1) = ds.take i ++ [d] := take_snoc hdi
        rw [ed] at hsc
        have thr : ¬ (okW ls d = true ∧ strOf d ∉ (ds.take i).map strOf) → ∀ H4, Same H H4 → Thrown E C H4 [("number", .int (i : Nat))] := fun no H4 s5 => by
          have z : wscan ls [] 0 ds = some i := by
            rw [hsc]
            show (if okW ls d = true ∧ strOf d ∉ (ds.take i).map strOf then _ else _) = _
            rw [if_neg no]
          exact (k2 i z).mono s5
        cases eR : okW ls d with
        | false => exact iteT (iteT ⟨V.int (i : Nat), rfl, rd_mk rfl (by show 1 ≤ 1000; decide) fun dx H' s' n q => thr (fun z => by rw [eR] at z; exact absurd z.1 (by decide)) H3 s13 H' dx s' n q⟩)
        | true =>
          cases d with
          | str y =>
            cases hd
            have hB3 : H3 B = some (.dK kvs) := s4 _ _ (s3 _ _ hB)
            have hget : DGet H3 B (.str y) (valV kvs (.inr y)) := DGet.k (k := (.inr y : Key)) hB3
            refine iteF ⟨V.str y, rfl, V.ref B, rfl, B, _, rfl, hget, _, rfl, ?_⟩
            rw [hk.has]
            refine ite2 (fun c1 => ?_) (fun c1 => ?_)
            · have hm := of_decide_eq_true c1
              exact ⟨V.int (i : Nat), rfl, rd_mk rfl (by show 1 ≤ 1000; decide) fun dx H' s' n q => thr (fun z => z.2 hm) H3 s13 H' dx s' n q⟩
            · have hm : y ∉ (ds.take i).map strOf := fun z => c1 (decide_eq_true z)
              have hnone : valV kvs (.inr y) = none := by
                have z := hk.has y
                rw [decide_eq_false hm] at z
                cases q : valV kvs (.inr y) with
                | none => rfl
                | some v =>
                  rw [q] at z
                  cases z
              have hkl : kvs.length < sizeLine := by
                have z := hk.len
                rw [List.length_map, List.length_take] at z
                have z2 : (5000 : Nat) < sizeLine := by decide
                omega
              refine ⟨V.ref B, rfl, V.str y, rfl, B, _, rfl, DPut.k (k := (.inr y : Key)) hB3 hkl, _, _, kvs ++ [(.inr y, .bl true)], rfl, fun b o e => ?_, ?_, ?_, ?_⟩
              · rw [upd_ne (ne_of_none e nB)]
                exact s13 _ _ e
              · rw [putK_new _ hnone]
                exact upd_same
              · unfold Keys
                rw [et, List.map_append, List.map_append, List.map_append]
                have z : kvs.map Prod.fst = _ := hk
                rw [z]
                rfl
              · rw [hsc, et, List.map_append]
                show (if okW ls (.str y) = true ∧ strOf (.str y) ∉ (ds.take i).map strOf then _ else _) = _
                rw [if_pos ⟨eR, hm⟩]
                rfl
          | _ => cases eR
      · rintro σ H1 ⟨x3, x4, kvs, rfl, s1, hB, hk, hsc⟩
        rw [hlen, List.drop_length] at hsc
        exact k1 hsc H1 s1
    · refine ⟨_, pss_cons (ps_set (i := 2) S0.nd rfl (Or.inl rfl) pe_dnewK) (pss_one (ps_for (passes_of rfl) rfl (pi_enumT (by rfl) gE (pa_cons (pv 1) pa_nil)) (pg_tup rfl (pgs_cons (pg_name (i := 3) S0.nd rfl (Or.inl rfl)) (pgs_cons (pg_name (i := 4) S0.nd rfl (Or.inl rfl)) pgs_nil)))
        (pss_cons (ps_if (pw_or (pt_not (pt_val (pe_call GW (hr.mono (by decide)) (by rfl) gW kW bW .nil pass0 (pa_cons (pv 0) (pa_cons (pv 4) pa_nil))))) (pw_or1 (pt_cmp (pc_din hu (pv 4) (pv 2))))).pt
            (pss_one (ps_raise rfl (takes_of rfl rfl rfl rfl) (pmk_oex D.cl.T iC tI F1 hr b1 .nil pass0 (by rfl) D.gC (pa_cons (pv 3) pa_nil)))) pss_nil)
          (pss_one (ps_dput hu (pv 2) (pv 4) pe_bl rfl))))), ?_⟩
      refine fun B nB => ⟨V.ref a, rfl, a, xs, rfl, upd_new nB _ _ ha, for_it (walk_enumT (xs := xs)) (fun i σ H1 => ∃ (x3 x4 : Option V) (kvs : List (Key × V)), σ = [some (.str ls), some (.ref a), some (.ref B), x3, x4] ∧ Same H H1 ∧ H1 B = some (.dK kvs) ∧ Keys kvs ((ds.take i).map strOf) ∧ wscan ls [] 0 ds = wscan ls ((ds.take i).map strOf) i (ds.drop i))
        ⟨none, none, [], rfl, upd_new nB, upd_same, rfl, rfl⟩ (fun i σ H1 _ q => ?_) ?_ ?_⟩
      · obtain ⟨_, _, _, _, s1, _⟩ := q
        exact s1 _ _ ha
      · rintro i x σ H1 H2 hi ⟨x3, x4, kvs, rfl, s1, hB, hk, hsc⟩ ⟨T1, x1, y1, rfl, nT1, rfl, ex, ey⟩
        obtain rfl : V.int (i : Nat) = x1 := Option.some.inj ex
        obtain ⟨d, hdi, hd⟩ := deAll_at hda ey
        have s3 : Same H1 (upd H1 T1 (.tup [.int (i : Nat), y1])) := upd_new nT1
        refine ⟨T1, _, rfl, .inl (.inl upd_same), rfl, _, _, rfl, _, _, rfl, rfl, ?_⟩
        generalize upd H1 T1 (.tup [.int (i : Nat), y1]) = H2 at s3
        have hd2 : De K H2 y1 d := de_mono (s1.trans s3) d y1 hd
        refine ⟨V.str ls, rfl, y1, rfl, ls, y1, d, rfl, hd2, fun x e => hfit x (e ▸ List.mem_of_getElem? hdi), fun H3 s4 => ⟨okW ls d, rfl, ?_⟩⟩
        have s13 := (s1.trans s3).trans s4
        have hil : i < ds.length := by omega
        have ed : ds.drop i = d :: ds.drop (i + 1) := by
          have z := List.drop_eq_getElem_cons hil
          have e2 : ds[i] = d := by
            rw [List.getElem?_eq_getElem hil] at hdi
            exact Option.some.inj hdi
          rw [z, e2]
        have et : ds.take (i + 1) = ds.take i ++ [d] := take_snoc hdi
        rw [ed] at hsc
        have thr : ¬ (okW ls d = true ∧ strOf d ∉ (ds.take i).map strOf) → ∀ H4, Same H H4 → Thrown E C H4 [("number", .int (i : Nat))] := fun no H4 s5 => by
          have z : wscan ls [] 0 ds = some i := by
            rw [hsc]
            show (if okW ls d = true ∧ strOf d ∉ (ds.take i).map strOf then _ else _) = _
            rw [if_neg no]
          exact (k2 i z).mono s5
        cases eR : okW ls d with
        | false => exact iteT (iteT ⟨V.int (i : Nat), rfl, rd_mk rfl (by show 1 ≤ 1000; decide) fun dx H' s' n q => thr (fun z => by rw [eR] at z; exact absurd z.1 (by decide)) H3 s13 H' dx s' n q⟩)
        | true =>
          cases d with
          | str y =>
            cases hd
            have hB3 : H3 B = some (.dK kvs) := s4 _ _ (s3 _ _ hB)
            have hget : DGet H3 B (.str y) (valV kvs (.inr y)) := DGet.k (k := (.inr y : Key)) hB3
            refine iteF ⟨V.str y, rfl, V.ref B, rfl, B, _, rfl, hget, _, rfl, ?_⟩
            rw [hk.has]
            refine ite2 (fun c1 => ?_) (fun c1 => ?_)
            · have hm := of_decide_eq_true c1
              exact ⟨V.int (i : Nat), rfl, rd_mk rfl (by show 1 ≤ 1000; decide) fun dx H' s' n q => thr (fun z => z.2 hm) H3 s13 H' dx s' n q⟩
            · have hm : y ∉ (ds.take i).map strOf := fun z => c1 (decide_eq_true z)
              have hnone : valV kvs (.inr y) = none := by
                have z := hk.has y
                rw [decide_eq_false hm] at z
                cases q : valV kvs (.inr y) with
                | none => rfl
                | some v =>
                  rw [q] at z
                  cases z
              have hkl : kvs.length < sizeLine := by
                have z := hk.len
                rw [List.length_map, List.length_take] at z
                have z2 : (5000 : Nat) < sizeLine := by decide
                omega
              refine ⟨V.ref B, rfl, V.str y, rfl, B, _, rfl, DPut.k (k := (.inr y : Key)) hB3 hkl, _, _, kvs ++ [(.inr y, .bl true)], rfl, fun b o e => ?_, ?_, ?_, ?_⟩
              · rw [upd_ne (ne_of_none e nB)]
                exact s13 _ _ e
              · rw [putK_new _ hnone]
                exact upd_same
              · unfold Keys
                rw [et, List.map_append, List.map_append, List.map_append]
                have z : kvs.map Prod.fst = _ := hk
                rw [z]
                rfl
              · rw [hsc, et, List.map_append]
                show (if okW ls (.str y) = true ∧ strOf (.str y) ∉ (ds.take i).map strOf then _ else _) = _
                rw [if_pos ⟨eR, hm⟩]
                rfl
          | _ => cases eR
      · rintro σ H1 ⟨x3, x4, kvs, rfl, s1, hB, hk, hsc⟩
        rw [hlen, List.drop_length] at hsc
        exact k1 hsc H1 s1
end
end SK
namespace SK
open PySem PySem.Spec PyProof.Rows L2 LamX NdefX
open K0 (De DeAll XCl spX withX)
/-! ### C(e, ..), C a local name that holds a class -/
def tMakeV (i : Nat) (C : Addr) (sp : Sp) (dvs : List V) (E : XK) (t : TA) : TE := fun σ H Q => σ[i]? = some (some (.ref C)) ∧ tMake C sp dvs E t σ H Q
section
variable {X : Cx} {CX : CXT} {k i : Nat} {f C : Addr} {fd : FuncData} {ps : List Str} {ds : List Value} {dvs : List V} {sp : Sp} {E : XK} {x : Str} {e : Expr} {es : List Expr} {t : TA} {p pos : Pos}
theorem pe_makeV (M : Mk X.K C f) (F : FnOk X.prog X.w X.K X.mg X.base CX k f fd ps sp) (hr : Room (k + 1) X.A) (hb : Binds X.K fd ps ds) (hd : Vals dvs ds) (hx : Passes CX X E) (ha : PA X (e :: es) t) (hN : X.N[i]? = some x := by rfl)
    (hv : Vis X.env.scope x := by first | exact Or.inl rfl | exact Or.inr (Or.inl rfl) | exact Or.inr (Or.inr rfl)) (hdb : (x == ("__debug__" : Str)) = false := by decide) (hcd : (x == ("__classdict__" : Str)) = false := by decide)
    (he : starEach (e :: es) X.env = (false, eval e X.env) :: starEach es X.env := by rfl) (hpl : (backTo pos (starEach es X.env)).any (·.1) = false := by rfl) : PE X (.Call (.Name x p) (e :: es) [] pos) (tMakeV i C sp dvs E t) := by
  refine ⟨fun pins s σ H Q I h => ?_⟩
  obtain ⟨hs, h⟩ := h
  refine wpAny_Call_Name_kw (thn ((pe_var (pos := p) (i := i) hN hv hdb hcd).run pins s σ H (fun v H1 => v = .ref C ∧ H1 = H) I ⟨.ref C, hs, rfl, rfl⟩) fun u s1 ⟨v, H1, I1, r1, ev, eH⟩ => ?_)
  subst ev
  rw [eH] at I1
  cases r1
  refine PySem.W.callWith_K (h₀ := X.base) I.ok.mod.kin M.kp (thn (ha.run pos pins s1 σ H _ I1 h) fun us s2 ⟨vs, H2, I2, r, q⟩ => ⟨I2.kIn, ?_⟩) he hpl
  exact run_make M F hr hb hd hx I2 r q
end
/-! ### data that is words -/
theorem wscan_none {ls : Str} : ∀ {ds : List PyData} {seen : List Str} {i : Nat}, wscan ls seen i ds = none → (∀ d ∈ ds, okW ls d = true ∧ strOf d ∉ seen) ∧ (ds.map strOf).Nodup
  | [], _, _, _ => ⟨fun d h => absurd h (by simp), by simp⟩
  | d :: r, seen, i, h => by
    have h' : (if okW ls d = true ∧ strOf d ∉ seen then wscan ls (seen ++ [strOf d]) (i + 1) r else some i) = none := h
    by_cases c : okW ls d = true ∧ strOf d ∉ seen
    · rw [if_pos c] at h'
      obtain ⟨h1, h2⟩ := wscan_none h'
      refine ⟨fun e he => ?_, ?_⟩
      · rcases List.mem_cons.mp he with rfl | he
        · exact c
        · exact ⟨(h1 e he).1, fun z => (h1 e he).2 (List.mem_append_left _ z)⟩
      · rw [List.map_cons, List.nodup_cons]
        refine ⟨fun z => ?_, h2⟩
        obtain ⟨e, he, e2⟩ := List.mem_map.mp z
        exact (h1 e he).2 (by rw [e2]; simp)
    · rw [if_neg c] at h'
      cases h'
theorem okW_str {ls : Str} {d : PyData} (h : okW ls d = true) : d = .str (strOf d) ∧ OverL ls (strOf d) := by
  cases d with
  | str y =>
    have h : (decide (y.cps.size ≤ 200) && y.cps.toList.all fun c => decide (c ∈ ls.cps.toList)) = true := h
    rw [Bool.and_eq_true, decide_eq_true_eq, List.all_eq_true] at h
    exact ⟨rfl, h.1, fun c hc => of_decide_eq_true (h.2 c hc)⟩
  | _ => cases h
theorem de_strs {K : PySem.W.Frag} {H : Hp} : ∀ {ds : List PyData} {xs : List V}, (∀ d ∈ ds, d = .str (strOf d)) → DeAll K H xs ds → xs = (ds.map strOf).map V.str
  | [], _, _, .nil => rfl
  | d :: ds, _, h, .cons h1 h2 => by
    have e := h d (by simp)
    rw [e] at h1
    cases h1
    rw [de_strs (fun y hy => h y (List.mem_cons_of_mem _ hy)) h2]
    rfl
theorem deAll_snoc {K : PySem.W.Frag} {H : Hp} : ∀ {xs : List V} {ds : List PyData} {v : V} {d : PyData}, DeAll K H xs ds → De K H v d → DeAll K H (xs ++ [v]) (ds ++ [d])
  | _, _, _, _, .nil, h => .cons h .nil
  | _, _, _, _, .cons h1 h2, h => .cons h1 (deAll_snoc h2 h)
/-! ### the tree of words -/
def mkS (ws : List Str) (p : Str) : Spot := (p, decide (p ∈ ws), false)
def ofS (ls : Str) (bs ws : List Str) : List Spot := (sortW ls bs).map (mkS ws)
theorem plc_mk (ws bs : List Str) : plc (bs.map (mkS ws)) = bs := by
  unfold plc
  rw [List.map_map]
  exact List.map_id'' (fun _ => rfl) bs
theorem over_pre {ls x y : Str} (h : OverL ls y) (hp : x.cps.toList <+: y.cps.toList) : OverL ls x := by
  refine ⟨?_, fun c hc => h.2 c (hp.subset hc)⟩
  have z := hp.length_le
  rw [Array.length_toList, Array.length_toList] at z
  exact Nat.le_trans z h.1
theorem over_empty (ls : Str) : OverL ls (Str.ofString "") := ⟨by decide, fun c hc => by rw [empty_list] at hc; exact absurd hc (by simp)⟩
theorem beg_over {ls : Str} {ws : List Str} (h : ∀ y ∈ ws, OverL ls y) {x : Str} (hx : isBeg ws x) : OverL ls x := by
  rcases hx with rfl | ⟨y, hy, hp⟩
  · exact over_empty ls
  · exact over_pre (h y hy) hp
theorem good_of {ls : Str} {bs ws : List Str} (nd : bs.Nodup) (hb : ∀ x, x ∈ bs ↔ isBeg ws x) (ho : ∀ y ∈ ws, OverL ls y) (hn : bs.length ≤ 2000) : GoodS ls (ofS ls bs ws) := by
  have pm := sortW_perm ls bs
  have ov : ∀ y ∈ bs, OverL ls y := fun y hy => beg_over ho ((hb y).mp hy)
  have e : plc (ofS ls bs ws) = sortW ls bs := plc_mk ws _
  refine ⟨?_, ?_, ?_, ?_, ?_, ?_⟩
  · rw [e]
    exact pm.nodup_iff.mpr nd
  · rw [e, pm.mem_iff, hb]
    exact .inl rfl
  · intro p hp hne
    rw [e, pm.mem_iff, hb] at hp ⊢
    rcases hp with h | ⟨y, hy, h⟩
    · exact absurd h hne
    · refine .inr ⟨y, hy, List.IsPrefix.trans ?_ h⟩
      unfold initS
      rw [List.toList_toArray]
      exact List.dropLast_prefix _
  · intro p hp
    rw [e, pm.mem_iff] at hp
    exact ov p hp
  · unfold ofS
    rw [List.length_map, pm.length_eq]
    exact hn
  · rw [e]
    exact sortW_sorted ov
theorem ofS_congr {ls : Str} {b1 b2 ws : List Str} (n1 : b1.Nodup) (n2 : b2.Nodup) (h1 : ∀ x, x ∈ b1 ↔ isBeg ws x) (h2 : ∀ x, x ∈ b2 ↔ isBeg ws x) (ho : ∀ y ∈ ws, OverL ls y) : ofS ls b1 ws = ofS ls b2 ws := by
  unfold ofS
  rw [sortW_congr ((List.perm_ext_iff_of_nodup n1 n2).mpr fun x => (h1 x).trans (h2 x).symm) fun y hy => beg_over ho ((h1 y).mp hy)]
def spOf (K : PySem.W.Frag) (CT : Addr) (C : Cs) (CW : Addr) (T : List (Addr × Str)) : Sp := fun vs H Q E => ∃ (vL : V) (L : PyData) (a : Addr) (xs : List V) (ds : List PyData), vs = [.ref CT, vL, .ref a] ∧ De K H vL L ∧ (∀ z, L = .str z → z.cps.all (· < 128) = true ∧ z.cps.size ≤ 1000) ∧
  Rows H a xs ∧ DeAll K H xs ds ∧ TxtFit ds ∧ xs.length ≤ 1000 ∧ Tabs T H ∧
  (okLd L = false → ThrownN E C.l H [("letters", vL)] T) ∧
  (okLd L = true → ∀ i : Nat, wscan (strOf L) [] 0 ds = some i → ThrownN E CW H [("number", .int i)] T) ∧
  (okLd L = true → wscan (strOf L) [] 0 ds = none → ¬ (1 ≤ nob (ds.map strOf) ∧ nob (ds.map strOf) ≤ 2000) → ThrownN E C.m H [("most", .int 2000), ("many", .int (nob (ds.map strOf) : Nat)), ("what", .str "places")] T) ∧
  (okLd L = true → wscan (strOf L) [] 0 ds = none → (1 ≤ nob (ds.map strOf) ∧ nob (ds.map strOf) ≤ 2000) → (∀ bs : List Str, bs.Nodup → (∀ x ∈ bs, isBeg (ds.map strOf) x) → bs.length ≤ 2000) ∧
    ∀ (H' : Hp) (x : Addr) (bs : List Str), ExtN H H' → Tabs T H' → bs.Nodup → (∀ y, y ∈ bs ↔ isBeg (ds.map strOf) y) → TreeF K CT H' (.ref x) (strOf L) (ofS (strOf L) bs (ds.map strOf)) → Q (.ref x) H')
section
variable {P : Program} {w : World} {K : PySem.W.Frag} {mg : Str → Option Value} {base : Heap} {f fCL fCW fCP fN fM fI CT CW : Addr} {fd fdCL fdCW fdCP fdN fdM fdI : FuncData} {C : Cs} {T : List (Addr × Str)}
theorem ok_of (F : Fun K "of" "Tree.of" (tm 1) f fd) (M : Mk K CT fI) (GI : FnOk P w K mg base (L2.CX P w) 6 fI fdI ["self", "letters", "rows"] (spInit K CT C T)) (bI : Binds K fdI ["self", "letters", "rows"] [])
    (gCL : mg "check_letters" = some (.ref fCL)) (kCL : PySem.W.keepIn K (.ref fCL) = true) (GCL : FnOk P w K mg base (L2.CX P w) 3 fCL fdCL ["letters"] (spCheckL K C.l)) (bCL : Binds K fdCL ["letters"] [])
    (gCW : mg "check_words" = some (.ref fCW)) (kCW : PySem.W.keepIn K (.ref fCW) = true) (GCW : FnOk P w K mg base (L2.CX P w) 3 fCW fdCW ["letters", "words"] (spCW K CW)) (bCW : Binds K fdCW ["letters", "words"] [])
    (gCP : mg "check_places" = some (.ref fCP)) (kCP : PySem.W.keepIn K (.ref fCP) = true) (GCP : FnOk P w K mg base (L2.CX P w) 3 fCP fdCP ["many"] (spCheckP C.m)) (bCP : Binds K fdCP ["many"] [])
    (gN : mg "number_of_beginnings" = some (.ref fN)) (kN : PySem.W.keepIn K (.ref fN) = true) (GN : FnOk P w K mg base CX0 2 fN fdN ["words"] (spNob K)) (bN : Binds K fdN ["words"] [])
    (gM : mg "marks_of" = some (.ref fM)) (kM : PySem.W.keepIn K (.ref fM) = true) (GM : FnOk P w K mg base CX0 1 fM fdM ["words"] (spMarks K)) (bM : Binds K fdM ["words"] []) :
    FnOk P w K mg base (L2.CX P w) 8 f fd ["cls", "letters", "words"] (spOf K CT C CW T) := by
  have S0 : FnScope ["cls", "letters", "words", "marks", "place"] ["cls", "letters", "words"] (defScope (tm 1)) := ⟨rfl, rfl, rfl, by decide +kernel, rfl, by decide +kernel, by decide +kernel⟩
  have nd := S0.nd
  refine F.okX S0 (fun vs H Q E h => ?_) (fun cdv A outer s H vs Q E hr h => ?_)
  · obtain ⟨vL, L, a, xs, ds, rfl, _⟩ := h
    rfl
  · obtain ⟨vL, L, a, xs, ds, rfl, hL, hasc, hrows, hda, hfit, hz, hT, e1, e2, e3, kk⟩ := h
    have hu := hu_of hr
    have hr3 : Room 3 _ := hr.mono (by decide)
    have hr2 : Room 2 _ := hr.mono (by decide)
    have hr1 : Room 1 _ := hr.mono (by decide)
    refine ⟨_, pss_cons (ps_expr (pe_call GCL hr3 (by rfl) gCL kCL bCL .nil (passes_call (takes_of rfl rfl rfl rfl) (fun _ _ _ _ h => h)) (pa_cons (pv 1) pa_nil)))
      (pss_cons (ps_expr (pe_call GCW hr3 (by rfl) gCW kCW bCW .nil (passes_call (takes_of rfl rfl rfl rfl) (fun _ _ _ _ h => h)) (pa_cons (pv 1) (pa_cons (pv 2) pa_nil))))
      (pss_cons (ps_expr (pe_call GCP hr3 (by rfl) gCP kCP bCP .nil (passes_call (takes_of rfl rfl rfl rfl) (fun _ _ _ _ h => h)) (pa_cons (pe_call GN hr2 (by rfl) gN kN bN .nil pass0 (pa_cons (pv 2) pa_nil)) pa_nil)))
      (pss_cons (ps_set (i := 3) nd rfl (Or.inr rfl) (pe_call GM hr1 (by rfl) gM kM bM .nil pass0 (pa_cons (pv 2) pa_nil)))
      (pss_one (ps_ret (pe_makeV (i := 0) M GI hr bI .nil (passes_call (takes_of rfl rfl rfl rfl) (fun _ _ _ _ h => h)) (pa_cons (pv 1) (pa_cons (pe_lock (pe_lc (own := [("place", 4)]) (g := gName 4) (tt := tYes) rfl nd (pi_keys (pv 3)) (blkOk_by (N := ["cls", "letters", "words", "marks", "place"]) (sc := defScope (tm 1)) (by decide +kernel))
        (fun _ _ _ _ _ => pg_name (i := 4) nd rfl (Or.inl rfl)) (fun _ _ _ _ _ => pts_nil) (fun _ _ _ _ _ => pe_tup (pa_cons (pv 4) (pa_cons (pe_dget hu (pv 3) (pv 4) (fun _ _ => rfl)) (pa_cons pe_bl pa_nil)))))) pa_nil)))))))), ?_⟩
    refine ⟨vL, rfl, vL, L, rfl, hL, hasc, fun okL H1 s1 => ?_, fun no => (e1 no).to (ExtN.refl H) hT⟩
    obtain ⟨ls, rfl⟩ : ∃ ls, L = .str ls := by
      cases L with
      | str z => exact ⟨z, rfl⟩
      | _ => cases okL
    cases hL
    have e2 := e2 okL
    have e3 := e3 okL
    have kk := kk okL
    have r1 := hrows.mono (ExtN.of s1)
    refine ⟨V.str ls, rfl, V.ref a, rfl, ls, a, xs, ds, rfl, r1, de_monoAll s1 _ _ hda, hfit, by omega, fun hsc H2 s2 => ?_, fun i e => (e2 i e).to (ExtN.of s1) (hT.ext s1)⟩
    have e3 := e3 hsc
    have kk := kk hsc
    obtain ⟨hall, hnd⟩ := wscan_none hsc
    have exs : xs = (ds.map strOf).map V.str := de_strs (fun d hd => (okW_str (hall d hd).1).1) hda
    have ho : ∀ y ∈ ds.map strOf, OverL ls y := fun y hy => by
      obtain ⟨d, hd, rfl⟩ := List.mem_map.mp hy
      exact (okW_str (hall d hd).1).2
    have hwl : (ds.map strOf).length ≤ 1000 := by
      have z := deAll_len hda
      rw [List.length_map]
      omega
    have eL : strOf (.str ls) = ls := rfl
    rw [eL] at kk
    generalize ds.map strOf = ws at e3 kk exs ho hnd hwl
    subst exs
    have hw1 : ∀ y ∈ ws, y.cps.size ≤ 1000 := fun y hy => Nat.le_trans (ho y hy).1 (by decide)
    have s12 := s1.trans s2
    have r2 := hrows.mono (ExtN.of s12)
    refine ⟨V.ref a, rfl, a, ws, rfl, r2.seq, hwl, hw1, fun H3 s3 => ?_⟩
    have s13 := s12.trans s3
    refine ⟨nob ws, rfl, fun hn => ?_, fun hn => (e3 hn).to (ExtN.of s13) (hT.ext s13)⟩
    obtain ⟨hcap, kk⟩ := kk hn
    refine ⟨V.ref a, rfl, a, ws, rfl, hrows.mono (ExtN.of s13), hwl, hw1, fun H4 d kvs ps s4 nd4 hd4 hM hps => ?_⟩
    have s14 := s13.trans s4
    have hk : kvs.map Prod.fst = ps.map fun a => (Sum.inr a : Key) := hM.keys
    have hkl : kvs.length = ps.length := hM.keys.len
    have hpl := hcap ps hM.nd fun x hx => (hps x).mp hx
    have b2 : (2000 : Nat) < sizeLine := by decide
    refine ⟨rfl, V.str ls, rfl, d, .dK kvs, hd4, trivial, fun od => ⟨V.ref d, rfl, d, od, rfl, .inl ⟨kvs, upd_same, fun D nD => lc_it (walk_keys (d := d) (o := od) (kvs := kvs)) (fun i G => Same (upd H4 d (.frz od (.dK kvs))) G ∧ ∃ acc : List V, G D = some (.lst acc) ∧ acc.length = i ∧ DeAll K G acc (((ps.take i).map (mkS ws)).map rowD))
      ⟨upd_new nD, [], upd_same, rfl, .nil⟩ (fun i G _ q => q.1 _ _ upd_same) ?_ ?_⟩⟩⟩
    · rintro i x G G2 hi ⟨sG, acc, hD, hal, hacc⟩ ⟨rfl, k, v, hkv, rfl⟩
      obtain ⟨y, hy⟩ : ∃ y, ps[i]? = some y := ⟨_, List.getElem?_eq_getElem (by omega)⟩
      have ek : k = .inr y := by
        have z := congrArg (fun l : List Key => l[i]?) hk
        simp only [List.getElem?_map, hkv, hy, Option.map_some] at z
        exact Option.some.inj z
      subst ek
      have hv := hM.vals y (List.mem_of_getElem? hy)
      have hdG : G2 d = some (.frz od (.dK kvs)) := sG _ _ upd_same
      refine ⟨rfl, V.str y, rfl, V.ref d, rfl, V.str y, rfl, d, .bl (decide (y ∈ ws)), rfl, .inl ⟨kvs, .inr y, .inr ⟨od, hdG⟩, rfl, hv.symm⟩, (by show 3 ≤ sizeLine; decide), fun q nq => ?_⟩
      have s5 := upd_new (o := .tup [.str y, .bl (decide (y ∈ ws)), .bl false]) nq
      have hq : upd G2 q (.tup [.str y, .bl (decide (y ∈ ws)), .bl false]) q = some (.tup [.str y, .bl (decide (y ∈ ws)), .bl false]) := upd_same
      generalize upd G2 q (.tup [.str y, .bl (decide (y ∈ ws)), .bl false]) = G3 at s5 hq
      have hD3 := s5 _ _ hD
      refine ⟨acc, hD3, by omega, fun b o e => ?_, _, upd_same, by rw [List.length_append, hal]; rfl, ?_⟩
      · rw [upd_ne (ne_of_none e nD)]
        exact s5 _ _ (sG _ _ e)
      · have ky : Ky G3 (upd G3 D (.lst (acc ++ [.ref q]))) := fun b o h _ _ hl => by
          rw [upd_ne (fun z => by rw [z, hD3] at h; exact hl acc (Option.some.inj h).symm)]
          exact h
        rw [take_snoc hy, List.map_append]
        have all : DeAll K G3 (acc ++ [.ref q]) (((ps.take i).map (mkS ws) ++ [mkS ws y]).map rowD) := by
          rw [List.map_append]
          exact deAll_snoc (de_monoAll s5 _ _ hacc) (.tup hq (.cons (.str _) (.cons (.bl _) (.cons (.bl _) .nil))))
        exact rows_ky ky all
    · rintro G ⟨sG, acc, hD, hal, hacc⟩
      rw [hkl, List.take_length] at hacc
      have hdG : G d = some (.frz od (.dK kvs)) := sG _ _ upd_same
      refine ⟨hdG, ?_⟩
      have nDd : D ≠ d := ne_of hD hdG (by intro z; cases z)
      have s6 : Same H4 (upd G d (.dK kvs)) := unlock_same hd4 sG
      have hD6 : upd G d (.dK kvs) D = some (.lst acc) := by
        rw [upd_ne nDd]
        exact hD
      have hacc6 : DeAll K (upd G d (.dK kvs)) acc ((ps.map (mkS ws)).map rowD) := by
        have e : ∀ {xs : List V} {S : List Spot}, DeAll K G xs (S.map rowD) → DeAll K (upd G d (.dK kvs)) xs (S.map rowD) := by
          intro xs S
          induction S generalizing xs with
          | nil => intro h; cases h; exact .nil
          | cons s S ih =>
            intro h
            cases h with
            | cons h1 h2 =>
              refine .cons ?_ (ih h2)
              obtain ⟨t, rfl, ht⟩ := de_row (s := s) h1
              exact .tup (by rw [upd_ne (ne_of ht hdG (by intro z; cases z))]; exact ht) (.cons (.str _) (.cons (.bl _) (.cons (.bl _) .nil)))
        exact e hacc
      generalize upd G d (.dK kvs) = H6 at s6 hD6 hacc6
      have s16 := s14.trans s6
      intro x dx nx ndx nxd
      have g := good_of (ls := ls) hM.nd hps ho hpl
      have hro : RowsOf ((ps.map (mkS ws)).map rowD) (ofS ls ps ws) := by
        refine ⟨fun e he => ?_, ?_⟩
        · obtain ⟨s, _, rfl⟩ := List.mem_map.mp he
          rfl
        · rw [List.map_map]
          unfold ofS
          exact (((sortW_perm ls ps).symm.map (mkS ws)).map _)
      have s7 : Same H6 (upd (upd H6 dx (.own x)) x (.ins CT dx [])) := fun b o e => by
        rw [upd_ne (ne_of_none e nx), upd_ne (ne_of_none e ndx)]
        exact e
      have hx7 : upd (upd H6 dx (.own x)) x (.ins CT dx []) x = some (.ins CT dx []) := upd_same
      generalize upd (upd H6 dx (.own x)) x (.ins CT dx []) = H7 at s7 hx7
      have s17 := s16.trans s7
      have hway := way_good (show okLb ls = true from okL) g hro
      refine ⟨x, dx, D, .str ls, .str ls, acc, _, rfl, hx7, .str ls, hasc, .inl (s7 _ _ hD6), de_monoAll s7 _ _ hacc6, fun e he => ?_, ?_, hT.ext s17, ?_, fun _ H' fs keep T' hx' tA => ⟨rfl, ?_⟩⟩
      · obtain ⟨s, hs, rfl⟩ := List.mem_map.mp he
        obtain ⟨p, hp, rfl⟩ := List.mem_map.mp hs
        have z := beg_over ho ((hps p).mp hp)
        intro es ees u hu
        rcases ees with ees | ees
        · injection ees with ees
          subst ees
          have hu : u = p := by simpa [mkS] using hu
          rw [hu]
          exact Nat.le_trans z.1 (by decide)
        · cases ees
      · have z := deAll_len hacc6
        rw [List.length_map, List.length_map] at z
        omega
      · rw [hway]
        exact ⟨fun z => (by cases z), fun _ z => (by cases z), fun _ z => (by cases z), fun _ z => (by cases z)⟩
      · refine kk H' x ps (fun b o e t => keep b o (fun z => ?_) (s17 _ _ e) t) T' hM.nd hps (treeP_of hx' g hro tA)
        subst z
        have z := s16 _ _ e
        rw [z] at nx
        cases nx
end
end SK
namespace SK
open PySem PySem.Spec PyProof.Rows L2 LamX NdefX
open K0 (De DeAll XCl spX withX)
/-! ### the law's beginnings and rows -/
def Short (ls y : Str) : Prop := OverL ls y ∧ y.cps.size ≤ 4
theorem short_cut {ls y : Str} {hi : Option Int} (h : Short ls y) : Short ls (cutS y none hi) := by
  have e : (cutS y none hi).cps.toList = (y.cps.toList.drop (HT.sIx y.length 0 none)).take (HT.sIx y.length y.length hi - HT.sIx y.length 0 none) := by
    unfold cutS
    rw [List.toList_toArray]
  have z : (cutS y none hi).cps.size ≤ y.cps.size := by
    rw [← Array.length_toList, e, List.length_take, List.length_drop, Array.length_toList]
    omega
  refine ⟨⟨Nat.le_trans z h.1.1, fun c hc => ?_⟩, Nat.le_trans z h.2⟩
  rw [e] at hc
  exact h.1.2 c (List.mem_of_mem_drop (List.mem_of_mem_take hc))
theorem short_empty (ls : Str) : Short ls "" := ⟨⟨by decide, fun c hc => absurd hc (by rw [show (("" : Str)).cps.toList = [] from by decide +kernel]; simp)⟩, by decide⟩
theorem beg_all (pw : List Str) (y x : Str) : isBeg (pw ++ [y]) x ↔ (isBeg pw x ∨ ∃ n, 1 ≤ n ∧ n ≤ y.length ∧ x.cps.toList = y.cps.toList.take n) := by
  rw [beg_step]
  have hyl : y.length = y.cps.toList.length := by simp [Str.length]
  constructor
  · rintro ((h | ⟨n, h1, h2, h3⟩) | h)
    · exact .inl h
    · exact .inr ⟨n, h1, by omega, h3⟩
    · subst h
      by_cases h0 : x.length = 0
      · exact .inl (.inl (str_ext (by rw [empty_list]; exact List.eq_nil_of_length_eq_zero (by omega))))
      · exact .inr ⟨x.length, by omega, Nat.le_refl _, by rw [hyl, List.take_length]⟩
  · rintro (h | ⟨n, h1, h2, h3⟩)
    · exact .inl (.inl h)
    · by_cases e : n = y.length
      · refine .inr (str_ext ?_)
        rw [h3, e, hyl, List.take_length]
      · exact .inl (.inr ⟨n, h1, by omega, h3⟩)
def spBegX (K : PySem.W.Frag) : Sp := fun vs H Q _ => ∃ (ls : Str) (a : Addr) (ws : List Str), vs = [.str ls, .ref a] ∧ SqL K H a (ws.map V.str) ∧ (∀ y ∈ ws, Short ls y) ∧ ws.length ≤ 6 ∧
  ∀ (H' : Hp) (b : Addr) (bs : List Str), Same H H' → H' b = some (.lst ((sortW ls bs).map V.str)) → bs.Nodup → (∀ x, x ∈ bs ↔ isBeg ws x) → bs.length ≤ 25 → Q (.ref b) H'
section
variable {P : Program} {w : World} {K : PySem.W.Frag} {mg : Str → Option Value} {base : Heap} {f fO fD fS fB : Addr} {fd fdO fdD fdS fdB : FuncData}
theorem sc33 : FnScope ["letters", "words", "found", "word", "size"] ["letters", "words"] (defScope (top 47)) := ⟨rfl, rfl, rfl, by decide +kernel, rfl, by decide +kernel, by decide +kernel⟩
theorem ok_begX (F : Fun K "_law_beginnings" "_law_beginnings" (top 47) f fd) (gR : mg "range" = none) (gN : mg "len" = none) (gO : mg "_law_in_order" = some (.ref fO)) (kO : PySem.W.keepIn K (.ref fO) = true) (GO : FnOk P w K mg base CX0 1 fO fdO ["letters", "words"] (spOrdL K))
    (bO : Binds K fdO ["letters", "words"] []) : FnOk P w K mg base CX0 2 f fd ["letters", "words"] (spBegX K) := by
  refine F.ok sc33 (fun vs H Q E h => ?_) (fun cdv A outer s H vs Q E hr h => ?_)
  · obtain ⟨ls, a, ws, rfl, _⟩ := h
    rfl
  · obtain ⟨ls, a, ws, rfl, hS, hW, hz, kk⟩ := h
    refine ⟨_, pss_cons (ps_set (i := 2) sc33.nd rfl (Or.inl rfl) (pe_lst (pa_cons pe_str pa_nil))) (pss_cons (ps_for PassesOwn.never rfl (pi_list (pv 1)) (pg_name (i := 3) sc33.nd rfl (Or.inl rfl))
        (pss_one (ps_for PassesOwn.never rfl (pi_range2 (by rfl) gR (pa_cons pe_int (pa_cons (pe_op op_add (pe_callB call_len_str (by rfl) gN PySem.boot_len (pa_cons (pv 3) pa_nil)) pe_int) pa_nil))) (pg_name (i := 4) sc33.nd rfl (Or.inl rfl))
          (pss_one (ps_if (pt_cmpR op_notIn_seq (pe_slice sl_str (pv 3) po_none (po_some (pv 4))) (pv 2) (by rfl)) (pss_one (ps_expr (pe_bm PySem.F.plainAttrs_list PySem.F.slot_list_append PySem.F.type_list_append mt_append (pv 2) (pa_cons (pe_slice sl_str (pv 3) po_none (po_some (pv 4))) pa_nil)))) pss_nil)))))
      (pss_one (ps_ret (pe_call GO hr (by rfl) gO kO bO .nil pass0 (pa_cons (pv 0) (pa_cons (pv 2) pa_nil)))))), ?_⟩
    refine ⟨(by show 1 ≤ sizeLine; decide), fun b nb => ?_⟩
    have s0 := upd_new (o := .lst [.str ""]) nb
    have b0 : upd H b (.lst [.str ""]) b = some (.lst [.str ""]) := upd_same
    generalize upd H b (.lst [.str ""]) = H0 at s0 b0
    refine ⟨V.ref a, rfl, a, rfl, ⟨_, s0.seq hS⟩, for_it (walk_list (K := K) (xs := ws.map V.str)) (fun i σ G => ∃ (x3 x4 : Option V) (fs : List Str), σ = [some (.str ls), some (.ref a), some (.ref b), x3, x4] ∧ Same H G ∧ G b = some (.lst (fs.map V.str)) ∧ (fs.Nodup ∧ ∀ x, x ∈ fs ↔ isBeg (ws.take i) x) ∧ fs.length ≤ 1 + 4 * i)
      ⟨none, none, [""], rfl, s0, b0, ⟨by simp, fun x => ⟨fun h => .inl (by simpa using h), fun h => h.elim (fun z => by rw [z]; simp) fun ⟨u, hu, _⟩ => absurd hu (by simp)⟩⟩, Nat.le_refl _⟩ (fun i σ G _ q => ?_) ?_ ?_⟩
    · obtain ⟨x3, x4, fs, _, sm, _⟩ := q
      exact sm.seq hS
    · rintro i x σ G G2 hi ⟨x3, x4, fs, rfl, sm, hb, hF, hl⟩ ⟨rfl, hx⟩
      obtain ⟨y, hy, rfl⟩ : ∃ y, ws[i]? = some y ∧ V.str y = x := by
        rw [List.getElem?_map] at hx
        cases q : ws[i]? with
        | none =>
          rw [q] at hx
          cases hx
        | some y =>
          rw [q] at hx
          exact ⟨y, rfl, Option.some.inj hx⟩
      have hys := hW y (List.mem_of_getElem? hy)
      have hyz : y.length ≤ 4 := hys.2
      have b4 : (4 : Nat) < sizeLine := by decide
      have b62 : (6 : Int) < 2 ^ 62 := by decide
      refine ⟨V.str y, rfl, y, rfl, by omega, _, 1, rfl, rfl, 1, _, rfl, ⟨by decide, by decide, by omega, by omega⟩, for_it walk_range (fun j σ G3 => ∃ (x4 : Option V) (gs : List Str), σ = [some (.str ls), some (.ref a), some (.ref b), some (.str y), x4] ∧ Same H G3 ∧ G3 b = some (.lst (gs.map V.str)) ∧ (gs.Nodup ∧ ∀ x, x ∈ gs ↔ (isBeg (ws.take i) x ∨ ∃ n, 1 ≤ n ∧ n ≤ j ∧ x.cps.toList = y.cps.toList.take n)) ∧ gs.length ≤ 1 + 4 * i + j)
        ⟨x4, fs, rfl, sm, hb, ⟨hF.1, fun x => ⟨fun h => .inl ((hF.2 x).mp h), fun h => h.elim (hF.2 x).mpr fun ⟨n, h1, h2, _⟩ => by omega⟩⟩, hl⟩ (fun _ _ _ _ _ => trivial) ?_ ?_⟩
      · rintro j x σ G3 G4 hj ⟨x4, gs, rfl, sm3, hb3, hF3, hl3⟩ ⟨rfl, rfl⟩
        have ec : (1 : Int) + (j : Int) = ((j + 1 : Nat) : Int) := by omega
        have hyl : y.length ≤ sizeLine := by omega
        refine ⟨V.str y, rfl, V.int (1 + (j : Int)), rfl, _, rfl, y, rfl, hyl, V.ref b, rfl, b, gs.map V.str, rfl, .inl (.inl (.inl hb3)), rfl, flat_strs gs, _, rfl, ?_⟩
        refine ite2 (fun c => ?_) (fun c => ?_)
        · refine ⟨V.ref b, rfl, .inl ⟨rfl, _, .inl (.inl hb3)⟩, V.str y, rfl, V.int (1 + (j : Int)), rfl, _, rfl, y, rfl, hyl, b, _, _, rfl, rfl, hb3, ?_, _, gs ++ [cutS y none (some (1 + (j : Int)))], rfl, ?_, ?_, ?_, ?_⟩
          · have hws : (i : Nat) < 6 := by
              rw [List.length_map] at hi
              omega
            have t : (100 : Nat) < sizeLine := by decide
            rw [List.length_map]
            omega
          · exact fun c o e => by
              rw [upd_ne (ne_of_none e nb)]
              exact sm3 _ _ e
          · rw [List.map_append]
            exact upd_same
          · have hm : cutS y none (some (1 + (j : Int))) ∉ gs := fun z => by
              rw [inV_strs, decide_eq_true z] at c
              cases c
            refine ⟨List.nodup_append.mpr ⟨hF3.1, by simp, fun a ha b hb z => ?_⟩, fun x => ⟨fun h => ?_, fun h => ?_⟩⟩
            · obtain rfl : b = cutS y none (some (1 + (j : Int))) := by simpa using hb
              subst z
              exact hm ha
            · rcases List.mem_append.mp h with h | h
              · rcases (hF3.2 x).mp h with h | ⟨n, h1, h2, h3⟩
                · exact .inl h
                · exact .inr ⟨n, h1, by omega, h3⟩
              · have ex : x = cutS y none (some (1 + (j : Int))) := by simpa using h
                exact .inr ⟨j + 1, by omega, by omega, by rw [ex, ec, cut_take]⟩
            · rcases h with h | ⟨n, h1, h2, h3⟩
              · exact List.mem_append_left _ ((hF3.2 x).mpr (.inl h))
              · by_cases e : n = j + 1
                · have ex : x = cutS y none (some (1 + (j : Int))) := str_ext (by rw [h3, e, ec, cut_take])
                  rw [ex]
                  exact List.mem_append_right _ (by simp)
                · exact List.mem_append_left _ ((hF3.2 x).mpr (.inr ⟨n, h1, by omega, h3⟩))
          · rw [List.length_append]
            show gs.length + 1 ≤ 1 + 4 * i + (j + 1)
            omega
        · have hm : cutS y none (some (1 + (j : Int))) ∈ gs := Decidable.byContradiction fun z => c (by rw [inV_strs, decide_eq_false z]; rfl)
          refine ⟨_, gs, rfl, sm3, hb3, ⟨hF3.1, fun x => ⟨fun h => ?_, fun h => ?_⟩⟩, by omega⟩
          · rcases (hF3.2 x).mp h with h | ⟨n, h1, h2, h3⟩
            · exact .inl h
            · exact .inr ⟨n, h1, by omega, h3⟩
          · rcases h with h | ⟨n, h1, h2, h3⟩
            · exact (hF3.2 x).mpr (.inl h)
            · by_cases e : n = j + 1
              · have ex : x = cutS y none (some (1 + (j : Int))) := str_ext (by rw [h3, e, ec, cut_take])
                rw [ex]
                exact hm
              · exact (hF3.2 x).mpr (.inr ⟨n, h1, by omega, h3⟩)
      · rintro σ G3 ⟨x4, gs, rfl, sm3, hb3, hF3, hl3⟩
        have e : (((y.length : Nat) : Int) + 1 - 1).toNat = y.length := by omega
        rw [e] at hl3 hF3
        exact ⟨_, x4, gs, rfl, sm3, hb3, ⟨hF3.1, fun x => by rw [take_snoc hy, beg_all]; exact hF3.2 x⟩, by omega⟩
    · rintro σ G ⟨x3, x4, fs, rfl, sm, hb, hF, hl⟩
      rw [List.length_map] at hl hF
      rw [List.take_length] at hF
      refine ⟨V.str ls, rfl, V.ref b, rfl, ls, b, fs, rfl, .inl (.inl hb), fun y hy => beg_over (fun u hu => (hW u hu).1) ((hF.2 y).mp hy), by omega, fun G2 q sm2 nq hq => ?_⟩
      exact kk G2 q fs (sm.trans sm2) hq hF.1 hF.2 (by omega)
end
end SK
namespace SK
open PySem PySem.Spec PyProof.Rows L2 LamX NdefX
open K0 (De DeAll XCl spX withX)
/-! ### any list != [] -/
def rNeE (K : PySem.W.Frag) : R2 := fun x y H Q => ∃ (a b : Addr) (xs : List V), x = .ref a ∧ y = .ref b ∧ SqL K H a xs ∧ SqL K H b [] ∧ Q (.bl (!xs.isEmpty)) H
theorem op_neE {X : Cx} (hu : X.A.units < cLine) : OpR X (compareOp .NotEq) (rNeE X.K) := by
  intro pins s σ H x y v u Q I rx ry h
  obtain ⟨a, b, xs, rfl, rfl, h1, h2, q⟩ := h
  obtain rfl : v = Value.ref a := rx
  obtain rfl : u = Value.ref b := ry
  obtain ⟨its, r1, p1, z1⟩ := I.list h1
  obtain ⟨js, r2, p2, z2⟩ := I.list h2
  cases r2
  have hl := r1.length
  show wpAny (model X.prog X.w) X.A (richCompare .NotEq (.ref a) (.ref b)) (EP X pins σ Q) X.xe s
  cases xs with
  | nil =>
    cases r1
    refine SeqAt.RcNeAt.lists (e := fun _ => true) p1.isList p2.isList rfl hu (fun j h1 h2 => absurd h1 (by simp)) X.prog X.w _ _ ⟨.bl false, H, I, ?_, q⟩
    rfl
  | cons x0 xr =>
    cases r1 with
    | cons g1 g2 =>
      refine SeqAt.RcNeAt.lists_lengths p1.isList p2.isList (by simp) hu X.prog X.w _ _ ⟨.bl true, H, I, rfl, q⟩
def spShufA (K : PySem.W.Frag) : Sp := fun vs H Q _ => ∃ (p l a : Addr) (ns : List Int) (k lf : Int) (xs : List V), vs = [.ref p, .ref a] ∧ PenAt H p l ns k lf ∧ ns.length ≤ 63 ∧ 0 ≤ k ∧ k ≤ 90000 ∧ 0 ≤ lf ∧ SqL K H a xs ∧ xs.length ≤ 900 ∧
  ∀ (H' : Hp) (k' lf' : Int) (b : Addr) (ys : List V), k' ≤ k + xs.length → 0 ≤ k' → 0 ≤ lf' → ys.Perm xs → SameBut p H H' → PenAt H' p l ns k' lf' → H' b = some (.lst ys) → H b = none → Q (.ref b) H'
section
variable {P : Program} {w : World} {K : PySem.W.Frag} {mg : Str → Option Value} {base : Heap} {f fD fP : Addr} {fd fdD fdP : FuncData}
theorem ok_shufA (F : Fun K "_law_shuffled" "_law_shuffled" (top 43) f fd) (gN : mg "len" = none) (gL : mg "list" = none) (gD : mg "_law_draw" = some (.ref fD)) (kD : PySem.W.keepIn K (.ref fD) = true) (GD : FnOk P w K mg base CX0 1 fD fdD ["pen", "many"] spDraw)
    (bD : Binds K fdD ["pen", "many"] []) : FnOk P w K mg base CX0 2 f fd ["pen", "items"] (spShufA K) := by
  refine F.ok scShuf (fun vs H Q E h => ?_) (fun cdv A outer s H vs Q E hr h => ?_)
  · obtain ⟨p, l, a, ns, k, lf, xs, rfl, _⟩ := h
    rfl
  · obtain ⟨p, l, a, ns, k, lf, xs, rfl, hp, hn, hk0, hk1, hf, hS, hz, kk⟩ := h
    have hu1 : _ < cLine := Nat.lt_of_le_of_lt (Nat.le_add_right _ 64) hr.units
    refine ⟨_, pss_cons (ps_par (i := 2) (j := 3) rfl scShuf.nd rfl rfl (by decide) rfl rfl (pa_cons (pe_callTy call_list_of (by rfl) gL PyProof.Rows.boot_list (pa_cons (pv 1) pa_nil)) (pa_cons (pe_lst pa_nil) pa_nil)) rfl)
      (pss_cons (ps_while PassesOwn.never (pt_cmpR (op_neE hu1) (pv 2) (pe_lst pa_nil) (nomark _)) (pss_one (ps_expr (pe_bm PySem.F.plainAttrs_list PySem.F.slot_list_append PySem.F.type_list_append mt_append (pv 3) (pa_cons
          (pe_bm PySem.F.plainAttrs_list PySem.F.slot_list_pop PySem.F.type_list_pop mt_popAt (pv 2) (pa_cons (pe_call GD hr (by rfl) gD kD bD .nil pass0 (pa_cons (pv 0) (pa_cons (pe_callB call_len_seq (by rfl) gN PySem.boot_len (pa_cons (pv 2) pa_nil)) pa_nil))) pa_nil)) pa_nil)))))
      (pss_one (ps_ret (pv 3)))), ?_⟩
    refine ⟨V.ref a, rfl, a, xs, rfl, .inl hS, fun r nr => ⟨Nat.zero_le _, fun b nb => ⟨V.ref r, V.ref b, rfl, ?_⟩⟩⟩
    have s0 : Same H (upd (upd H r (.lst xs)) b (.lst [])) := (upd_new nr).trans (upd_new nb)
    have r0 : upd (upd H r (.lst xs)) b (.lst []) r = some (.lst xs) := upd_new nb _ _ upd_same
    have b0 : upd (upd H r (.lst xs)) b (.lst []) b = some (.lst []) := upd_same
    have nrb : r ≠ b := fun z => by
      rw [← z, upd_same] at nb
      cases nb
    have nbH : H b = none := by
      rw [upd_ne (Ne.symm nrb)] at nb
      exact nb
    generalize upd (upd H r (.lst xs)) b (.lst []) = H0 at s0 r0 b0
    refine ⟨fun m σ H1 => ∃ (k1 lf1 : Int) (zs ys : List V), σ = [some (.ref p), some (.ref a), some (.ref r), some (.ref b)] ∧ zs.length = m ∧ (ys ++ zs).Perm xs ∧ k1 ≤ k + ys.length ∧ 0 ≤ k1 ∧ 0 ≤ lf1 ∧ PenAt H1 p l ns k1 lf1 ∧ SameBut p H H1 ∧
      H1 r = some (.lst zs) ∧ H1 b = some (.lst ys), ⟨xs.length, k, lf, xs, [], rfl, rfl, .refl _, by simp, hk0, hf, ⟨s0 _ _ hp.dc, s0 _ _ hp.ls⟩, .of s0, r0, b0⟩, ?_⟩
    rintro m σ H1 ⟨k1, lf1, zs, ys, rfl, hm, hperm, e1, e2, e3, P1, s1, hr1, hb1⟩
    have hsum : ys.length + zs.length = xs.length := by
      have z := hperm.length_eq
      rw [List.length_append] at z
      exact z
    refine ⟨V.ref r, rfl, Nat.zero_le _, fun q nq => ?_⟩
    have s2 := upd_new (o := .lst []) nq
    have hq2 : upd H1 q (.lst []) q = some (.lst []) := upd_same
    have P2 : PenAt (upd H1 q (.lst [])) p l ns k1 lf1 := ⟨s2 _ _ P1.dc, s2 _ _ P1.ls⟩
    have s02 := s1.trans (SameBut.of s2)
    have hr2 := s2 _ _ hr1
    have hb2 := s2 _ _ hb1
    generalize upd H1 q (.lst []) = H2 at s2 hq2 P2 s02 hr2 hb2
    refine ⟨r, q, zs, rfl, rfl, .inl (.inl hr2), .inl (.inl hq2), _, rfl, ?_⟩
    have npr : r ≠ p := ne_of hr2 P2.dc (by intro z; cases z)
    have npb : b ≠ p := ne_of hb2 P2.dc (by intro z; cases z)
    cases zs with
    | nil =>
      have hy : ys.length = xs.length := hsum
      rw [List.append_nil] at hperm
      exact ⟨V.ref b, rfl, kk H2 k1 lf1 b ys (by omega) e2 e3 hperm s02 P2 hb2 nbH⟩
    | cons z0 zr =>
      have ed : (z0 :: zr).isEmpty = false := rfl
      rw [ed]
      generalize hzs : z0 :: zr = zs at *
      have hpos : 0 < zs.length := by rw [← hzs]; simp
      refine ⟨_, fun σ' H' q => q, ?_⟩
      refine ⟨V.ref b, rfl, .inl ⟨rfl, _, .inl (.inl hb2)⟩, V.ref r, rfl, .inl ⟨rfl, _, .inl (.inl hr2)⟩, V.ref p, rfl, V.ref r, rfl, r, zs, rfl, .inl (.inl (.inl hr2)), p, l, ns, k1, lf1, _, rfl, P2, hn, e2, by omega, e3, by omega, by omega, fun H3 k3 lf3 d g1 g2 g3 g4 g5 s3 P3 => ?_⟩
      obtain ⟨j, hj⟩ : ∃ j : Nat, d = (j : Int) := ⟨d.toNat, (Int.toNat_of_nonneg g4).symm⟩
      have hjl : j < zs.length := by omega
      obtain ⟨y, hy⟩ : ∃ y, zs[j]? = some y := ⟨_, List.getElem?_eq_getElem hjl⟩
      have hr3 := s3 _ _ npr hr2
      have hb3 := s3 _ _ npb hb2
      have b63 : (900 : Int) < 2 ^ 63 := by decide
      have b900 : (900 : Nat) < sizeLine := by decide
      refine ⟨r, zs, d, j, y, rfl, rfl, hr3, by omega, by omega, seq_ix hj hjl, hy, b, ys, y, rfl, rfl, (upd_ne (Ne.symm nrb)).trans hb3, by omega, ?_⟩
      refine ⟨(zs.eraseIdx j).length, ?_, k3, lf3, zs.eraseIdx j, ys ++ [y], rfl, rfl, ?_, ?_, g2, g3, ⟨?_, ?_⟩, ?_, ?_, upd_same⟩
      · rw [List.length_eraseIdx_of_lt hjl]
        omega
      · have e := erase_perm hy
        rw [List.append_assoc]
        exact (e.append_left ys).trans hperm
      · rw [List.length_append]
        show k3 ≤ k + ((ys.length + 1 : Nat) : Int)
        omega
      · rw [upd_ne (Ne.symm npb), upd_ne (Ne.symm npr)]
        exact P3.dc
      · rw [upd_ne (ne_of_none hp.ls nbH), upd_ne (ne_of_none hp.ls nr)]
        exact P3.ls
      · intro c o hc e
        have n1 : c ≠ r := fun z => by
          rw [z] at e
          rw [e] at nr
          cases nr
        have n2 : c ≠ b := fun z => by
          rw [z] at e
          rw [e] at nbH
          cases nbH
        rw [upd_ne n2, upd_ne n1]
        exact s3 _ _ hc (s02 _ _ hc e)
      · rw [upd_ne nrb, upd_same]
end
end SK
namespace SK
open PySem PySem.Spec PyProof.Rows L2 LamX NdefX
open K0 (De DeAll XCl spX withX)
/-! ### small data, as texts -/
theorem quote_two (x : Str) : reprQuote x = 34 ∨ reprQuote x = 39 := by
  unfold reprQuote
  split
  · exact .inl rfl
  · exact .inr rfl
theorem char_ok : ∀ q, q = 34 ∨ q = 39 → ∀ c < 128, ((Builtin.Str.reprChar q c).all fun z => decide (z < 0x110000)) = true := by
  intro q hq
  rcases hq with rfl | rfl <;> decide +kernel
theorem repr_fold (q : Nat) (hq : q = 34 ∨ q = 39) : ∀ (l : List Nat) (acc : Array Nat), (∀ c ∈ l, c < 128) → (∀ z ∈ acc.toList, z < 0x110000) → ∀ z ∈ (l.foldl (fun out c => out ++ (Builtin.Str.reprChar q c).toArray) acc).toList, z < 0x110000
  | [], acc, _, h => h
  | c :: r, acc, hl, h => by
    rw [List.foldl_cons]
    refine repr_fold q hq r _ (fun d hd => hl d (List.mem_cons_of_mem _ hd)) fun z hz => ?_
    rw [Array.toList_append] at hz
    rcases List.mem_append.mp hz with hz | hz
    · exact h z hz
    · have a := char_ok q hq c (hl c (by simp))
      rw [List.all_eq_true] at a
      exact of_decide_eq_true (a z hz)
theorem repr_ok {x : Str} (h : ∀ c ∈ x.cps.toList, c < 128) : PyData.strOk (reprText x) = true := by
  have hq := quote_two x
  have q0 : reprQuote x < 0x110000 := by rcases hq with e | e <;> rw [e] <;> decide
  unfold PyData.strOk reprText
  rw [← Array.all_toList, List.all_eq_true]
  intro z hz
  rw [← Array.foldl_toList, Array.toList_push] at hz
  refine decide_eq_true ?_
  rcases List.mem_append.mp hz with hz | hz
  · refine repr_fold (reprQuote x) hq x.cps.toList #[reprQuote x] h (fun c hc => ?_) z hz
    obtain rfl : c = reprQuote x := by simpa using hc
    exact q0
  · obtain rfl : z = reprQuote x := by simpa using hz
    exact q0
theorem small_str {x : Str} (h : ∀ c ∈ x.cps.toList, c < 128) (hz : x.cps.size ≤ 400) : Small (.str x) ∧ PyData.strOk (PyData.str x).shown = true := by
  have e : (PyData.str x).shown = reprText x := rfl
  refine ⟨⟨rfl, by simp [PyData.depth], ?_⟩, by rw [e]; exact repr_ok h⟩
  rw [e]
  have z := PySem.StrLaws.reprText_len x fun c hc => Nat.lt_trans (h c hc) (by decide)
  have z2 : x.length = x.cps.size := rfl
  omega
/-- data that is refused as a place -/
structure OddD (S : List Spot) (d : PyData) : Prop where
  no : hasD S d = false
  sm : Small d
  ok : PyData.strOk d.shown = true
end SK
namespace SK
open PySem PySem.Spec PyProof.Rows L2 LamX NdefX
open K0 (De DeAll XCl spX withX)
/-! ### expressions that make data -/
def Al (K : PySem.W.Frag) (H0 : Hp) (σ : St) (te : TE) (d : PyData) : Prop := ∀ (H : Hp) (R : VK), Same H0 H → (∀ H' v, Same H H' → De K H' v d → R v H') → te σ H R
def AlAll (K : PySem.W.Frag) (H0 : Hp) (σ : St) (ta : TA) (ds : List PyData) : Prop := ∀ (H : Hp) (R : List V → Hp → Prop), Same H0 H → (∀ H' vs, Same H H' → DeAll K H' vs ds → R vs H') → ta σ H R
section
variable {K : PySem.W.Frag} {H0 : Hp} {σ : St}
theorem Al.mono {H1 : Hp} {te : TE} {d : PyData} (h : Al K H0 σ te d) (s : Same H0 H1) : Al K H1 σ te d := fun H R s1 k => h H R (s.trans s1) k
theorem al_non : Al K H0 σ (tC .non) .none := fun H R _ k => k H _ (Same.refl _) .non
theorem al_bl {b : Bool} : Al K H0 σ (tC (.bl b)) (.bool b) := fun H R _ k => k H _ (Same.refl _) (.bl b)
theorem al_int {i : Int} : Al K H0 σ (tC (.int i)) (.int i) := fun H R _ k => k H _ (Same.refl _) (.int i)
theorem al_str {x : Str} : Al K H0 σ (tC (.str x)) (.str x) := fun H R _ k => k H _ (Same.refl _) (.str x)
theorem al_var {i : Nat} {v : V} {d : PyData} (h : σ[i]? = some (some v)) (hd : De K H0 v d) : Al K H0 σ (tVar i) d := fun H R s k => ⟨v, h, k H v (Same.refl _) (de_mono s _ _ hd)⟩
theorem al_new : Al K H0 σ tDNewK (.dict []) := fun H R s k p np => k _ _ (upd_new np) (.dic upd_same)
theorem al_nil : AlAll K H0 σ tNil [] := fun H R s k => k H [] (Same.refl _) .nil
theorem al_cons {te : TE} {ta : TA} {d : PyData} {ds : List PyData} (h1 : Al K H0 σ te d) (h2 : AlAll K H0 σ ta ds) : AlAll K H0 σ (tCons te ta) (d :: ds) := fun H R s k => by
  refine h1 H _ s fun H1 v s1 hd => ?_
  exact h2 H1 _ (s.trans s1) fun H2 vs s2 hds => k H2 (v :: vs) (s1.trans s2) (.cons (de_mono s2 _ _ hd) hds)
theorem al_tup {ta : TA} {ds : List PyData} (h : AlAll K H0 σ ta ds) (hz : ds.length ≤ 1000) : Al K H0 σ (tTup ta) (.tuple ds) := fun H R s k => by
  refine h H _ s fun H1 vs s1 hds => ⟨?_, fun p np => ?_⟩
  · rw [deAll_len hds]
    exact Nat.le_trans hz (by decide)
  · exact k _ _ (s1.trans (upd_new np)) (.tup upd_same (de_monoAll (upd_new np) _ _ hds))
theorem al_lst {ta : TA} {ds : List PyData} (h : AlAll K H0 σ ta ds) (hz : ds.length ≤ 1000) : Al K H0 σ (tLst ta) (.list ds) := fun H R s k => by
  refine h H _ s fun H1 vs s1 hds => ⟨?_, fun p np => ?_⟩
  · rw [deAll_len hds]
    exact Nat.le_trans hz (by decide)
  · exact k _ _ (s1.trans (upd_new np)) (.lst upd_same (de_monoAll (upd_new np) _ _ hds))
theorem deAll_app {H : Hp} : ∀ {xs ys : List V} {ds es : List PyData}, DeAll K H xs ds → DeAll K H ys es → DeAll K H (xs ++ ys) (ds ++ es)
  | _, _, _, _, .nil, h => h
  | _, _, _, _, .cons h t, h2 => .cons h (deAll_app t h2)
theorem al_cat {t1 t2 : TE} {ds es : List PyData} (h1 : Al K H0 σ t1 (.list ds)) (h2 : Al K H0 σ t2 (.list es)) (hz : ds.length + es.length ≤ 1000) : Al K H0 σ (tOp rCat t1 t2) (.list (ds ++ es)) := fun H R s k => by
  refine h1 H _ s fun H1 v s1 hd => ?_
  refine h2 H1 _ (s.trans s1) fun H2 u s2 he => ?_
  cases de_mono s2 _ _ hd with
  | @lst a xs _ ha hx =>
    cases he with
    | @lst b ys _ hb hy =>
      refine ⟨a, b, xs, ys, rfl, rfl, ha, hb, ?_, fun p np => ?_⟩
      · rw [deAll_len hx, deAll_len hy]
        exact Nat.le_trans hz (by decide)
      · exact k _ _ ((s1.trans s2).trans (upd_new np)) (.lst upd_same (de_monoAll (upd_new np) _ _ (deAll_app hx hy)))
theorem al_addS {t1 t2 : TE} {x y : Str} (h1 : Al K H0 σ t1 (.str x)) (h2 : Al K H0 σ t2 (.str y)) (hz : x.length + y.length ≤ 10000) : Al K H0 σ (tOp (fun x y H Q => ∃ i j, x = .str i ∧ y = .str j ∧ i.length + j.length ≤ sizeLine ∧ Q (.str (i ++ j)) H) t1 t2) (.str (x ++ y)) := fun H R s k => by
  refine h1 H _ s fun H1 v s1 hd => ?_
  refine h2 H1 _ (s.trans s1) fun H2 u s2 he => ?_
  cases hd
  cases he
  exact ⟨x, y, rfl, rfl, Nat.le_trans hz (by decide), k H2 _ (s1.trans s2) (.str _)⟩
/-- a text, some times -/
def rMulS : R2 := fun x y H Q => ∃ (z : Str) (n : Int), x = .str z ∧ y = .int n ∧ z.length ≤ 16 ∧ 0 ≤ n ∧ n ≤ 1000 ∧ Q (.str (Txt.mul z n)) H
theorem op_mulS {X : Cx} : OpR X (binaryOp .Mult) rMulS := by
  intro pins s σ H x y v u Q I rx ry h
  obtain ⟨z, n, rfl, rfl, hz, h0, h1, q⟩ := h
  obtain ⟨t, rfl⟩ := rx
  obtain ⟨t', rfl⟩ := ry
  have b63 : (1000 : Int) < 2 ^ 63 := by decide
  exact SB.mul (mulOk_of 16 1000 hz (by omega) (by omega) (by decide) (by decide)) fun t' k => ⟨.str _, H, I.tok _, ⟨_, rfl⟩, q⟩
end
/-! ### data that stays but for the pen -/
mutual
theorem de_but {K : PySem.W.Frag} {H H' : Hp} {p : Addr} {kv : Key × V} {kvs : List (Key × V)} (hp : H p = some (.dK (kv :: kvs))) (m : SameBut p H H') : ∀ {d : PyData} {v : V}, De K H v d → De K H' v d
  | _, _, .non => .non
  | _, _, .bl b => .bl b
  | _, _, .int i => .int i
  | _, _, .str x => .str x
  | _, _, .lst ha hd => .lst (m _ _ (ne_of ha hp (by intro z; cases z)) ha) (de_butAll hp m hd)
  | _, _, .tup ha hd => .tup (m _ _ (ne_of ha hp (by intro z; cases z)) ha) (de_butAll hp m hd)
  | _, _, .dic ha => .dic (m _ _ (ne_of ha hp (by intro z; cases z)) ha)
theorem de_butAll {K : PySem.W.Frag} {H H' : Hp} {p : Addr} {kv : Key × V} {kvs : List (Key × V)} (hp : H p = some (.dK (kv :: kvs))) (m : SameBut p H H') : ∀ {ds : List PyData} {vs : List V}, DeAll K H vs ds → DeAll K H' vs ds
  | _, _, .nil => .nil
  | _, _, .cons h1 h2 => .cons (de_but hp m h1) (de_butAll hp m h2)
end
theorem deAll_mem {K : PySem.W.Frag} {H : Hp} {y : V} : ∀ {xs : List V} {ds : List PyData}, DeAll K H xs ds → y ∈ xs → ∃ d ∈ ds, De K H y d
  | _, _, .nil, h => absurd h (by simp)
  | _, _, .cons h t, hm => by
    rcases List.mem_cons.mp hm with rfl | hm
    · exact ⟨_, by simp, h⟩
    · obtain ⟨d, hd, he⟩ := deAll_mem t hm
      exact ⟨d, List.mem_cons_of_mem _ hd, he⟩
theorem deAll_drop {K : PySem.W.Frag} {H : Hp} : ∀ (n : Nat) {xs : List V} {ds : List PyData}, DeAll K H xs ds → DeAll K H (xs.drop n) (ds.drop n)
  | 0, _, _, h => h
  | _ + 1, _, _, .nil => .nil
  | n + 1, _, _, .cons _ t => deAll_drop n t
theorem deAll_take {K : PySem.W.Frag} {H : Hp} : ∀ (n : Nat) {xs : List V} {ds : List PyData}, DeAll K H xs ds → DeAll K H (xs.take n) (ds.take n)
  | 0, _, _, _ => .nil
  | _ + 1, _, _, .nil => .nil
  | n + 1, _, _, .cons h t => .cons h (deAll_take n t)
/-! ### what rows and letters hold -/
structure RowD (d : PyData) : Prop where
  f : Fit d
  p : FitP d
theorem fit_tup {ds : List PyData} (h : ∀ x, PyData.str x ∈ ds → x.cps.size ≤ 1000) : Fit (.tuple ds) := fun es e => by
  rcases e with e | e
  · injection e with e
    subst e
    exact h
  · cases e
theorem fit_lst {ds : List PyData} (h : ∀ x, PyData.str x ∈ ds → x.cps.size ≤ 1000) : Fit (.list ds) := fun es e => by
  rcases e with e | e
  · cases e
  · injection e with e
    subst e
    exact h
theorem row_flat {d : PyData} (h : isTL d = false) : RowD d := by
  refine ⟨fun es e => ?_, fun a b c e => ?_⟩
  · rcases e with rfl | rfl <;> cases h
  · cases d with
    | tuple ds => cases h
    | list ds => cases h
    | _ => cases e
theorem row_three {ds : List PyData} {a b c : PyData} (h : ds = [a, b, c]) (ha : ∀ x, a = .str x → x.cps.size ≤ 1000) (hb : Plain b) (hc : Plain c) : RowD (.tuple ds) ∧ RowD (.list ds) := by
  subst h
  have hs : ∀ x, PyData.str x ∈ [a, b, c] → x.cps.size ≤ 1000 := fun x hx => by
    simp only [List.mem_cons, List.mem_nil_iff, or_false] at hx
    rcases hx with hx | hx | hx
    · exact ha x hx.symm
    · subst hx
      cases hb
      decide +kernel
    · subst hx
      cases hc
      decide +kernel
  have hp : ∀ a' b' c', ([a, b, c] : List PyData) = [a', b', c'] → Plain b' ∧ Plain c' := fun a' b' c' e => by
    injection e with e1 e
    injection e with e2 e
    injection e with e3 _
    subst e2 e3
    exact ⟨hb, hc⟩
  exact ⟨⟨fit_tup hs, hp⟩, ⟨fit_lst hs, hp⟩⟩
theorem row_few {ds : List PyData} (hl : ds.length ≠ 3) (h : ∀ x, PyData.str x ∈ ds → x.cps.size ≤ 1000) : RowD (.tuple ds) ∧ RowD (.list ds) := by
  have hp : ∀ a b c, ds = [a, b, c] → Plain b ∧ Plain c := fun a b c e => absurd (by rw [e]; rfl) hl
  exact ⟨⟨fit_tup h, hp⟩, ⟨fit_lst h, hp⟩⟩
end SK
namespace SK
open PySem PySem.Spec PyProof.Rows L2 LamX NdefX
open K0 (De DeAll XCl spX withX)
/-! ### dicts whose keys are tuples of bools, ints, texts; each value is True -/
abbrev Lf := PySem.Leaf
inductive LfV : Lf → V → Prop
  | int (i : Int) : LfV (.num i) (.int i)
  | bl (b : Bool) : LfV (.num (if b = true then 1 else 0)) (.bl b)
  | str (x : Str) : LfV (.text x) (.str x)
  | non : LfV .none .non
theorem LfV.is {k : Lf} {v : V} {u : Value} (h : LfV k v) (r : RelV v u) : Leaf.isOf k u = true := by
  cases h with
  | int i =>
    obtain ⟨t, rfl⟩ := (show ∃ t, u = Value.int i t from r)
    exact decide_eq_true rfl
  | bl b =>
    obtain rfl : u = Value.bool b := r
    exact decide_eq_true rfl
  | str x =>
    obtain ⟨t, rfl⟩ := (show ∃ t, u = Value.str x t from r)
    show Value.isStrOf x (.str x t) = true
    simp [Value.isStrOf]
  | non =>
    obtain rfl : u = Value.none := r
    rfl
def LfVs : List Lf → List V → Prop := Paired LfV
def KeyT (H : Hp) (b : Addr) (k : List Lf) : Prop := ∃ vs : List V, H b = some (.tup vs) ∧ LfVs k vs
theorem KeyT.same {H H' : Hp} {b : Addr} {k : List Lf} (h : KeyT H b k) (s : ∀ c xs, H c = some (.tup xs) → H' c = some (.tup xs)) : KeyT H' b k := by
  obtain ⟨vs, h1, h2⟩ := h
  exact ⟨vs, s _ _ h1, h2⟩
theorem lf_items {P : Program} {w : World} : ∀ {k : List Lf} {vs : List V} {us : List Value}, LfVs k vs → Vals vs us → ItemsAre (leafKind P w) k us
  | [], _, _, .nil, r => by
    cases r
    exact .nil
  | _ :: _, _, _, .cons h t, r => by
    cases r with
    | cons r1 r2 => exact .cons (h.is r1) (lf_items t r2)
theorem key_ofL {P : Program} {w : World} {H : Hp} {h : Heap} {b : Addr} {k : List Lf} (ok : HOk P w H h) (e : KeyT H b k) : (tupleKind (leafKind P w)).is h k b := by
  obtain ⟨vs, e1, e2⟩ := e
  obtain ⟨_, its, r, o, h1, h2, n, h3⟩ := (show ObjOk P w H h b (.tup vs) from ok b _ e1)
  exact ⟨o, its.toArray, n, h1, h2, h3, by simpa using lf_items e2 r⟩
def dlx (ks : List (List Lf × Addr)) : List (List Lf × Addr × Value) := ks.map fun p => (p.1, p.2, Value.bool true)
def DLo (P : Program) (w : World) (a : Addr) (ks : List (List Lf × Addr)) : HO := .ext fun h => ∃ o es ep, h.get? a = some o ∧ o.ExactDict ∧ o.data = .dict es ep ∧ es.toList = (dlx ks).map (entryOfKey (tupleKind (leafKind P w)))
structure DL (P : Program) (w : World) (H : Hp) (a : Addr) (ks : List (List Lf × Addr)) : Prop where
  o : H a = some (DLo P w a ks)
  nd : (ks.map (·.1)).Nodup
  sz : ks.length ≤ 1000
  lo : (a == sysModules) = false
  tr : ∀ p ∈ ks, KeyT H p.2 p.1
theorem DL.same {P : Program} {w : World} {H H' : Hp} {a : Addr} {ks : List (List Lf × Addr)} (d : DL P w H a ks) (s : Same H H') : DL P w H' a ks := ⟨s _ _ d.o, d.nd, d.sz, d.lo, fun p hp => (d.tr p hp).same fun c xs e => s _ _ e⟩
theorem dlx_fst (ks : List (List Lf × Addr)) : (dlx ks).map (·.1) = ks.map (·.1) := by
  unfold dlx
  rw [List.map_map]
  rfl
theorem dlx_len (ks : List (List Lf × Addr)) : (dlx ks).length = ks.length := by
  unfold dlx
  rw [List.length_map]
theorem atKey_dlx (ks : List (List Lf × Addr)) (k : List Lf) : (atKey (dlx ks) k).isSome = decide (k ∈ ks.map (·.1)) := by
  unfold atKey dlx
  rw [Option.isSome_map, List.find?_map, Option.isSome_map, Bool.eq_iff_iff, List.find?_isSome, decide_eq_true_eq]
  constructor
  · rintro ⟨p, hp, e⟩
    exact List.mem_map.mpr ⟨p, hp, of_decide_eq_true e⟩
  · intro c
    obtain ⟨p, hp, e⟩ := List.mem_map.mp c
    exact ⟨p, hp, decide_eq_true e⟩
section
variable {X : Cx} {pins : List (Addr × Obj)} {σ : St} {H : Hp} {s : Shared} {a : Addr} {ks : List (List Lf × Addr)}
theorem DL.dict (I : Inv X pins σ H s) (d : DL X.prog X.w H a ks) : s.heap.DictOfH (tupleKind (leafKind X.prog X.w)) a (dlx ks) := by
  obtain ⟨⟨o, es, ep, h1, h2, h3, h4⟩, _⟩ := (show ObjOk X.prog X.w H s.heap a (DLo X.prog X.w a ks) from I.hok a _ d.o)
  refine ⟨o, es, ep, h1, h2, h3, h4, fun x hx => ?_, by rw [dlx_fst]; exact d.nd⟩
  obtain ⟨p, hp, rfl⟩ := List.mem_map.mp hx
  exact key_ofL I.hok (d.tr p hp)
theorem dl_ok {P : Program} {w : World} {H : Hp} {h : Heap} {a : Addr} {ks : List (List Lf × Addr)} {o : Obj} {es : Array DictEntry} {ep : Nat} (h1 : h.get? a = some o) (h2 : o.ExactDict) (h3 : o.data = .dict es ep) (h4 : es.toList = (dlx ks).map (entryOfKey (tupleKind (leafKind P w)))) : ObjOk P w H h a (DLo P w a ks) :=
  ⟨⟨o, es, ep, h1, h2, h3, h4⟩, ⟨o, h1⟩, fun g1 g2 ⟨o, es, ep, e1, e2, e3, e4⟩ k => ⟨o, es, ep, k _ e1, e2, e3, e4⟩⟩
/-- {} -/
def tDNewL (P : Program) (w : World) : TE := fun _ H Q => ∀ d, H d = none → DL P w (upd H d (DLo P w d [])) d [] → Q (.ref d) (upd H d (DLo P w d []))
theorem pe_dnewL {pos : Pos} : PE X (.Dict [] [] pos) (tDNewL X.prog X.w) := ⟨fun pins s σ H Q I h => by
  have hm : (s.heap.objs.size == sysModules) = false := beq_eq_false_iff_ne.mpr (Nat.ne_of_gt I.big)
  exact wpAny_Dict_empty ⟨.ref s.heap.objs.size, _, I.laid (a := s.heap.objs.size) (o := DLo X.prog X.w s.heap.objs.size []) (t' := s.toks) (fun _ _ q => Heap.get?_push_of_some _ q) (Nat.le_refl _) (dl_ok (Heap.get?_push_size _ rfl) ⟨rfl, rfl, rfl⟩ rfl rfl), rfl,
    h _ (I.hok.fresh (Nat.le_refl _)) ⟨upd_same, List.nodup_nil, Nat.zero_le _, hm, fun p hp => nomatch hp⟩⟩⟩
/-- k in d -/
def tDInL (P : Program) (w : World) (ty td : TE) : TE := fun σ H Q => ty σ H fun y H1 => td σ H1 fun x H2 => ∃ a ks k b, x = .ref a ∧ DL P w H2 a ks ∧ y = .ref b ∧ KeyT H2 b k ∧ Q (.bl (decide (k ∈ ks.map (·.1)))) H2
theorem pc_dinL {i o : Expr} {ty td : TE} (hu : X.A.units + 1 < cLine) (hi : PE X i ty) (ho : PE X o td) : PC X .In i o (tDInL X.prog X.w ty td) := by
  refine ⟨fun pins s σ H Q I h => ?_⟩
  refine thn (hi.run pins s σ H _ I h) fun iv s1 ⟨y, H1, I1, ry, q1⟩ => thn (ho.run pins s1 σ H1 _ I1 q1) fun u s2 ⟨x, H2, I2, rx, a, ks, k, b, ex, d, ey, hk, q2⟩ => ?_
  subst ex ey
  obtain rfl : u = Value.ref a := rx
  obtain rfl : iv = Value.ref b := ry
  refine wpAny_in_heap (tupleKind_room_in1 hu) (key_ofL I2.hok hk) d.lo (d.dict I2) ?_
  rw [atKey_dlx]
  exact ⟨.bl _, H2, I2.tok _, rfl, q2⟩
/-- d[k] = True, k a new key -/
def sDPutL (P : Program) (w : World) (td ty tv : TE) : TS := fun D σ H => tv σ H fun v H1 => td σ H1 fun x H2 => ty σ H2 fun y H3 => ∃ a ks k b, x = .ref a ∧ DL P w H3 a ks ∧ y = .ref b ∧ KeyT H3 b k ∧ v = .bl true ∧ k ∉ ks.map (·.1) ∧ ks.length < 1000 ∧
  (DL P w (upd H3 a (DLo P w a (ks ++ [(k, b)]))) a (ks ++ [(k, b)]) → D.nx σ (upd H3 a (DLo P w a (ks ++ [(k, b)]))))
theorem ps_dputL {i o value : Expr} {ty td tv : TE} {pos pos' : Pos} (hu : X.A.units + 1 < cLine) (ho : PE X o td) (hi : PE X i ty) (hv : PE X value tv) (hs : swapsWith value (some (.Subscript o i pos')) pos.line X.env = pure false) :
    PS X (.Assign [.Subscript o i pos'] value pos) (sDPutL X.prog X.w td ty tv) := by
  refine ⟨fun pins s σ H D I h => ?_⟩
  refine wpAny_Assign_Subscript (thn (hv.run pins s σ H _ I h) fun r s1 ⟨v, H1, I1, rv, q1⟩ => thn (ho.run pins s1 σ H1 _ I1 q1) fun u s2 ⟨x, H2, I2, rx, q2⟩ => thn (hi.run pins s2 σ H2 _ I2 q2) fun iv s3 ⟨y, H3, I3, ry, a, ks, k, b, ex, d, ey, hk, ev, hn, hz, q3⟩ => ?_) hs
  subst ex ey ev
  obtain rfl : u = Value.ref a := rx
  obtain rfl : iv = Value.ref b := ry
  obtain rfl : r = Value.bool true := rv
  have z : (dlx ks).length ≤ sizeLine := by
    rw [dlx_len]
    exact Nat.le_trans d.sz (by decide)
  refine wpAny_setItem_heap (hsz := z) (tupleKind_room_in1 hu) (key_ofL I3.hok hk) (d.dict I3) fun h' dd' hs => ?_
  have hat : atKey (dlx ks) k = none := by
    have z := atKey_dlx ks k
    rw [decide_eq_false hn] at z
    exact Option.isNone_iff_eq_none.mp (by rw [← Option.not_isSome, z]; rfl)
  rw [storedH_new hat] at dd'
  obtain ⟨q, es, ep, hq, h2, h3, h4, _, h5⟩ := dd'
  have h4' : es.toList = (dlx (ks ++ [(k, b)])).map (entryOfKey (tupleKind (leafKind X.prog X.w))) := by
    rw [h4]
    unfold dlx
    simp only [List.map_append]
    rfl
  have nx : ∀ c xs, H3 c = some (.tup xs) → upd H3 a (DLo X.prog X.w a (ks ++ [(k, b)])) c = some (.tup xs) := fun c xs e => by
    rw [upd_ne (ne_of e d.o (fun z => nomatch z))]
    exact e
  refine ⟨σ, _, d_write (t' := _) I3 (by rw [d.o]; exact True.intro) hs ⟨q, hq⟩ (dl_ok hq h2 h3 h4'), q3 ⟨upd_same, ?_, ?_, d.lo, fun p hp => ?_⟩⟩
  · rw [List.map_append]
    refine List.nodup_append.mpr ⟨d.nd, by simp, fun x hx y hy e => ?_⟩
    obtain rfl : y = k := by simpa using hy
    exact hn (e ▸ hx)
  · rw [List.length_append]
    show ks.length + 1 ≤ 1000
    omega
  · rcases List.mem_append.mp hp with hp | hp
    · exact (d.tr p hp).same nx
    · obtain rfl : p = (k, b) := by simpa using hp
      exact hk.same nx
end
end SK
namespace SK
open PySem PySem.Spec PyProof.Rows L2 LamX NdefX
open K0 (De DeAll XCl spX withX)
/-! ### sorted of such a dict -/
def rSortDL (P : Program) (w : World) (K : PySem.W.Frag) : List V → Hp → VK → Prop := fun xs H Q => ∃ (a : Addr) (ks : List (List Lf × Addr)) (enc : Addr → PyData), xs = [.ref a] ∧ DL P w H a ks ∧ (∀ p ∈ ks, De K H (.ref p.2) (enc p.2)) ∧ PySem.W.AllAlike ((ks.map (·.2)).map enc) ∧ PySem.W.Sortable ((ks.map (·.2)).map enc) ∧ (∀ p ∈ ks, (enc p.2).depth ≤ 8) ∧
  ∀ p, H p = none → Q (.ref p) (upd H p (.lst (((ks.map (·.2)).mergeSort (PySem.W.dataLe false enc)).map V.ref)))
theorem refs_to : ∀ {us : List Value} {bs : List Addr}, PySem.W.EachIs (fun v b => v = Value.ref b) us bs → Vals (bs.map V.ref) us
  | _, _, .nil => .nil
  | _, _, .cons h1 h2 => .cons h1 (refs_to h2)
theorem each_at {R : Value → Addr → Prop} : ∀ {us : List Value} {bs : List Addr}, us.length = bs.length → (∀ (i : Nat) (v : Value) (b : Addr), us[i]? = some v → bs[i]? = some b → R v b) → PySem.W.EachIs R us bs
  | [], [], _, _ => .nil
  | u :: us, b :: bs, hl, h => .cons (h 0 u b rfl rfl) (each_at (by simpa using hl) fun i v c hv hc => h (i + 1) v c (by simpa using hv) (by simpa using hc))
  | [], _ :: _, hl, _ => by simp at hl
  | _ :: _, [], hl, _ => by simp at hl
theorem cr_sortDL {X : Cx} (hcalm : X.calm = true) (hu : X.A.units + 64 < cLine) (hsys : ∃ o, X.K.lookup sysModules = some o) : CallR X (.builtin "sorted") (rSortDL X.prog X.w X.K) := by
  intro pins s σ H xs us Q I r h
  obtain ⟨a, ks, enc, rfl, d, hd, hal, hsk, hdp, q⟩ := h
  obtain ⟨u, rfl, ru⟩ := vals1 r
  obtain rfl : u = Value.ref a := ru
  obtain ⟨oS, hoS⟩ := hsys
  have hs : H sysModules = none := (I.bs _ _ (I.ok.mod.kin _ _ hoS)).2
  obtain ⟨⟨o, es, ep, h1, h2, h3, h4⟩, _⟩ := (show ObjOk X.prog X.w H s.heap a (DLo X.prog X.w a ks) from I.hok a _ d.o)
  have raw : s.heap.DictRaw a es ep := ⟨o, h1, h2, h3⟩
  have hsz : es.size = ks.length := by
    have z := congrArg List.length h4
    rw [Array.length_toList, List.length_map, dlx_len] at z
    exact z
  have hz : es.size ≤ sizeLine := by
    rw [hsz]
    exact Nat.le_trans d.sz (by decide)
  refine Calls.call_function_entry PyProof.Rows.kind_sorted PyProof.Rows.plain_sorted PyProof.Rows.entry_sorted (PyProof.Rows.args_sorted1 _) ?_
  unfold Builtin.«sorted»
  refine wpAny_bind (m := checkCount "sorted" 1 1 _) (wpAny_pure ?_)
  refine wpAny_bind (PySem.W.kdu_collect (A := X.A.in1) (KdlSrc.rawDict d.lo) (I.ok.hd hcalm) raw hz fun h' tk acc hk hacc => ?_)
  have e : PySem.W.EachIs (fun v b => v = Value.ref b) acc.toList (ks.map (·.2)) := each_at (by rw [Array.length_toList, hacc.1, hsz, List.length_map]) fun i v b hv hb => by
    obtain ⟨hi, ev⟩ := hacc.2 i v (by rw [← Array.getElem?_toList]; exact hv)
    have ee : es.toList[i]? = some es[i] := by
      rw [Array.getElem?_toList]
      exact Array.getElem?_eq_getElem hi
    rw [h4, List.getElem?_map] at ee
    unfold dlx at ee
    rw [List.getElem?_map] at ee
    rw [List.getElem?_map] at hb
    cases z : ks[i]? with
    | none =>
      rw [z] at hb
      cases hb
    | some p =>
      rw [z] at hb ee
      have hb := Option.some.inj hb
      have ee := Option.some.inj ee
      rw [ev, ← ee, ← hb]
      rfl
  have I1 : Inv X pins σ H { s with heap := h', toks := tk } := I.kept hk
  have hal2 : acc.toList.length ≤ sizeLine := by
    rw [Array.length_toList, hacc.1]
    exact hz
  refine wpAny_bind (wpAny_newList ?_ hal2)
  have hoL : (h'.push (seqObj "list" acc.toList.toArray 0)).get? h'.objs.size = some (seqObj "list" acc.toList.toArray 0) := Heap.get?_push_size _ rfl
  show wpAny _ _ _ _ _ { s with heap := h'.push (seqObj "list" acc.toList.toArray 0), toks := tk }
  have er : PySem.W.EachIs (fun v b => ∃ as, Reads (PySem.W.sortingHeap (h'.push (seqObj "list" acc.toList.toArray 0)) h'.objs.size acc.toList) v (enc b) as) acc.toList (ks.map (·.2)) := by
    have z : ∀ {us : List Value} {bs : List Addr}, PySem.W.EachIs (fun v b => v = Value.ref b) us bs → (∀ b ∈ bs, De X.K H (.ref b) (enc b)) → PySem.W.EachIs (fun v b => ∃ as, Reads (PySem.W.sortingHeap (h'.push (seqObj "list" acc.toList.toArray 0)) h'.objs.size acc.toList) v (enc b) as) us bs := fun {us bs} ee => by
      induction ee with
      | nil => exact fun _ => .nil
      | cons h1 h2 ih =>
        intro hh
        obtain ⟨as, hr, _⟩ := K0.de_reads I1 hs _ _ _ (hh _ (by simp)) (show RelV (V.ref _) _ from h1)
        refine .cons ⟨as, PyProof.Rows.Reads.keeps (fun b ob z => ?_) hr⟩ (ih fun b hb => hh b (List.mem_cons_of_mem _ hb))
        have hlt : b < h'.objs.size := Heap.lt_size z
        exact PySem.W.sortingHeap_old (Nat.ne_of_lt hlt) (Heap.get?_push_of_some _ z)
    exact z e fun b hb => by
      obtain ⟨p, hp, rfl⟩ := List.mem_map.mp hb
      exact hd p hp
  have S : PySem.W.SortsAt X.prog X.w X.A.in1.in1 { s with heap := PySem.W.sortingHeap (h'.push (seqObj "list" acc.toList.toArray 0)) h'.objs.size acc.toList, toks := tk } _ acc.toList := PySem.W.SortsAt.data (s := { s with heap := PySem.W.sortingHeap (h'.push (seqObj "list" acc.toList.toArray 0)) h'.objs.size acc.toList, toks := tk }) (PySem.W.each_map (R := fun v d => ∃ as, Reads (PySem.W.sortingHeap (h'.push (seqObj "list" acc.toList.toArray 0)) h'.objs.size acc.toList) v d as) enc er) hal hsk (PySem.W.bound_map fun b hb => by
      obtain ⟨p, hp, rfl⟩ := List.mem_map.mp hb
      have := hdp p hp
      show X.A.units + 2 + _ < cLine
      omega)
  refine wpAny_bind (wpAny_holding (wpAny_call_entry PyProof.Rows.slot_list_sort ⟨_, hoL, rfl⟩ PyProof.Rows.entry_list_sort ?_ (PyProof.Rows.args_list_sort _)))
  refine PySem.W.list_sort_vals (s := { s with heap := h'.push (seqObj "list" acc.toList.toArray 0), toks := tk }) hoL S hal2 ⟨_, rfl, ?_⟩
  have eo := PySem.W.sortVals_data (R := fun v b => v = Value.ref b) false e er hal
  generalize hout : PySem.W.sortVals _ false acc.toList acc.toList = out at eo
  obtain ⟨e', he'⟩ := PyProof.Rows.sortedHeap_at (vs := acc.toList) (out := out.toArray) hoL
  have hlen : (((ks.map (·.2)).mergeSort (PySem.W.dataLe false enc)).map V.ref).length ≤ sizeLine := by
    rw [List.length_map, List.length_mergeSort, List.length_map]
    exact Nat.le_trans d.sz (by decide)
  refine wpAny_pure ⟨_, rfl, .ref h'.objs.size, upd H h'.objs.size (.lst (((ks.map (·.2)).mergeSort (PySem.W.dataLe false enc)).map V.ref)), ?_, rfl, q _ (I1.hok.fresh (Nat.le_refl _))⟩
  refine I1.laid (t' := tk) (fun b u e => ?_) (Nat.le_refl _) (show ObjOk X.prog X.w _ _ _ (.lst _) from ⟨hlen, out, e', refs_to eo, he'⟩)
  have hb : b < h'.objs.size := Heap.lt_size e
  rw [PyProof.Rows.sortedHeap_old (Nat.ne_of_lt hb) (by rw [size_push']; exact Nat.lt_succ_of_lt hb)]
  exact Heap.get?_push_of_some _ e
end SK
namespace SK
open PySem PySem.Spec PyProof.Rows L2 LamX NdefX
open K0 (De DeAll XCl spX withX)
/-! ### dicts whose keys are bools, ints, texts, None by value (True is 1) -/
def DBo (P : Program) (w : World) (a : Addr) (kvs : List (Lf × V)) : HO := .ext fun h => ∃ vs, KV kvs vs ∧ h.DictOf (leafKind P w) a vs
structure DB (P : Program) (w : World) (H : Hp) (a : Addr) (kvs : List (Lf × V)) : Prop where
  o : H a = some (DBo P w a kvs)
  sz : kvs.length ≤ 1000
  lo : (a == sysModules) = false
theorem DB.same {P : Program} {w : World} {H H' : Hp} {a : Addr} {kvs : List (Lf × V)} (d : DB P w H a kvs) (s : Same H H') : DB P w H' a kvs := ⟨s _ _ d.o, d.sz, d.lo⟩
theorem db_ok {P : Program} {w : World} {H : Hp} {h : Heap} {a : Addr} {kvs : List (Lf × V)} {vs : List (Lf × Value)} (rel : KV kvs vs) (dd : h.DictOf (leafKind P w) a vs) : ObjOk P w H h a (DBo P w a kvs) := by
  obtain ⟨o, es, ep, h1, h2⟩ := id dd
  refine ⟨⟨vs, rel, dd⟩, ⟨o, h1⟩, fun g1 g2 ⟨vs2, rel2, o, es, ep, e1, e2⟩ k => ⟨vs2, rel2, o, es, ep, k _ e1, e2⟩⟩
def LGet (P : Program) (w : World) (H : Hp) (a : Addr) (y : V) (r : Option V) : Prop := ∃ kvs k, DB P w H a kvs ∧ LfV k y ∧ r = valV kvs k
section
variable {X : Cx} {pins : List (Addr × Obj)} {σ : St} {H : Hp} {s : Shared} {a : Addr} {kvs : List (Lf × V)}
theorem DB.dict (I : Inv X pins σ H s) (d : DB X.prog X.w H a kvs) : ∃ vs, KV kvs vs ∧ s.heap.DictOf (leafKind X.prog X.w) a vs := by
  obtain ⟨h, _⟩ := (show ObjOk X.prog X.w H s.heap a (DBo X.prog X.w a kvs) from I.hok a _ d.o)
  exact h
/-- {} -/
def tDNewB (P : Program) (w : World) : TE := fun _ H Q => ∀ d, H d = none → DB P w (upd H d (DBo P w d [])) d [] → Q (.ref d) (upd H d (DBo P w d []))
theorem pe_dnewB {pos : Pos} : PE X (.Dict [] [] pos) (tDNewB X.prog X.w) := ⟨fun pins s σ H Q I h => by
  have hm : (s.heap.objs.size == sysModules) = false := beq_eq_false_iff_ne.mpr (Nat.ne_of_gt I.big)
  exact wpAny_Dict_empty ⟨.ref s.heap.objs.size, _, I.laid (a := s.heap.objs.size) (o := DBo X.prog X.w s.heap.objs.size []) (t' := s.toks) (fun _ _ q => Heap.get?_push_of_some _ q) (Nat.le_refl _) (db_ok .nil (Heap.DictOf.new s.heap)), rfl,
    h _ (I.hok.fresh (Nat.le_refl _)) ⟨upd_same, Nat.zero_le _, hm⟩⟩⟩
/-- k in d, d[k], d.get(k), d.get(k, x) -/
def tLIn (P : Program) (w : World) (ty td : TE) : TE := fun σ H Q => ty σ H fun y H1 => td σ H1 fun x H2 => ∃ a o, x = .ref a ∧ LGet P w H2 a y o ∧ Q (.bl o.isSome) H2
theorem pc_lin {i o : Expr} {ty td : TE} (hi : PE X i ty) (ho : PE X o td) : PC X .In i o (tLIn X.prog X.w ty td) := by
  refine ⟨fun pins s σ H Q I h => ?_⟩
  refine thn (hi.run pins s σ H _ I h) fun iv s1 ⟨y, H1, I1, ry, q1⟩ => thn (ho.run pins s1 σ H1 _ I1 q1) fun u s2 ⟨x, H2, I2, rx, a, ov, ex, ⟨kvs, k, d, hk, l⟩, q2⟩ => ?_
  subst ex
  obtain rfl : u = Value.ref a := rx
  obtain ⟨vs, rel, dd⟩ := d.dict I2
  refine wpAny_in_of (knd := leafKind X.prog X.w) (hk.is ry) d.lo dd.mapOf ?_
  rw [← (rel.val k).isSome_eq, ← l]
  exact ⟨.bl ov.isSome, H2, I2.tok _, rfl, q2⟩
def tLGet (P : Program) (w : World) (td ty : TE) : TE := fun σ H Q => td σ H fun x H1 => ty σ H1 fun y H2 => ∃ a v, x = .ref a ∧ LGet P w H2 a y (some v) ∧ Q v H2
theorem pe_lget {o i : Expr} {td ty : TE} {pos : Pos} (ho : PE X o td) (hi : PE X i ty) (hs : NoSl i) : PE X (.Subscript o i pos) (tLGet X.prog X.w td ty) := by
  refine ⟨fun pins s σ H Q I h => ?_⟩
  refine subD_of PySem.F.slot_dict_getitem.lookup hs (thn (ho.run pins s σ H _ I h) fun u s1 ⟨x, H1, I1, rx, q1⟩ => thn (hi.run pins s1 σ H1 _ I1 q1) fun iv s2 ⟨y, H2, I2, ry, a, v, ex, ⟨kvs, k, d, hk, l⟩, q2⟩ => ?_)
  subst ex
  obtain rfl : u = Value.ref a := rx
  obtain ⟨vs, rel, dd⟩ := d.dict I2
  obtain ⟨w', hw, rw'⟩ := RelO.some_of (v := v) (o := valueAt vs k) (by rw [l]; exact rel.val k)
  exact ⟨dd.typeIs, wpAny_getItem_of (knd := leafKind X.prog X.w) (hk.is ry) dd.mapOf hw ⟨v, H2, I2.tok _, rw', q2⟩⟩
/-- d[k] = v -/
def sLPut (P : Program) (w : World) (td ty tv : TE) : TS := fun D σ H => tv σ H fun v H1 => td σ H1 fun x H2 => ty σ H2 fun y H3 => ∃ a kvs k, x = .ref a ∧ DB P w H3 a kvs ∧ LfV k y ∧ kvs.length < 1000 ∧
  (DB P w (upd H3 a (DBo P w a (putK kvs k v))) a (putK kvs k v) → D.nx σ (upd H3 a (DBo P w a (putK kvs k v))))
theorem ps_lput {i o value : Expr} {ty td tv : TE} {pos pos' : Pos} (ho : PE X o td) (hi : PE X i ty) (hv : PE X value tv) (hs : swapsWith value (some (.Subscript o i pos')) pos.line X.env = pure false) :
    PS X (.Assign [.Subscript o i pos'] value pos) (sLPut X.prog X.w td ty tv) := by
  refine ⟨fun pins s σ H D I h => ?_⟩
  refine wpAny_Assign_Subscript (thn (hv.run pins s σ H _ I h) fun r s1 ⟨v, H1, I1, rv, q1⟩ => thn (ho.run pins s1 σ H1 _ I1 q1) fun u s2 ⟨x, H2, I2, rx, q2⟩ => thn (hi.run pins s2 σ H2 _ I2 q2) fun iv s3 ⟨y, H3, I3, ry, a, kvs, k, ex, d, hk, hz, q3⟩ => ?_) hs
  subst ex
  obtain rfl : u = Value.ref a := rx
  obtain ⟨vs, rel, dd⟩ := d.dict I3
  have z : vs.length ≤ sizeLine := by
    rw [← rel.length]
    exact Nat.le_trans d.sz (by decide)
  refine wpAny_setItem_pairs (knd := leafKind X.prog X.w) (hsz := z) (hk.is ry) dd fun h' dd' hs => ?_
  have he : ∃ q, h'.get? a = some q := let ⟨q, _, _, hq, _⟩ := dd'; ⟨q, hq⟩
  have hl := length_putK kvs k v
  exact ⟨σ, _, d_write I3 (by rw [d.o]; exact True.intro) hs he (db_ok (rel.put k rv) dd'), q3 ⟨upd_same, by omega, d.lo⟩⟩
theorem db_noDict {vs : List (Lf × Value)} (dd : s.heap.DictOf (leafKind X.prog X.w) a vs) : ∀ b, Value.ref a = .ref b → ∃ ob, s.heap.get? b = some ob ∧ ob.dict = none := fun b q => by
  cases q
  obtain ⟨ob, _, _, h1, h2, _⟩ := dd
  exact ⟨ob, h1, h2.2.1⟩
def tLGet1 (P : Program) (w : World) (td ty : TE) : TE := fun σ H Q => td σ H fun x H1 => ∃ a, x = .ref a ∧ (∃ kvs, DB P w H1 a kvs) ∧ ty σ H1 fun y H2 => ∃ o, LGet P w H2 a y o ∧ Q (o.getD .non) H2
theorem pe_lget1 {o e : Expr} {apos cpos : Pos} {td ty : TE} (ho : PE X o td) (he : PE X e ty) (m : M1 X o "get" apos e cpos) : PE X (.Call (.Attribute o "get" apos) [e] [] cpos) (tLGet1 X.prog X.w td ty) := by
  refine ⟨fun pins s σ H Q I h => ?_⟩
  refine wpAny_Call_method m.base m.few m.line PySem.F.plainAttrs_dict PySem.F.slot_dict_get PySem.F.type_dict_get (thn (ho.run pins s σ H _ I h) fun u s1 ⟨x, H1, I1, rx, a, ex, ⟨kv0, d0⟩, q1⟩ => ?_)
  subst ex
  obtain rfl : u = Value.ref a := rx
  obtain ⟨v0, _, dd0⟩ := d0.dict I1
  refine ⟨dd0.typeIs, db_noDict (X := X) dd0, ?_⟩
  rw [m.trees]
  refine Calls.callWith_builtin rfl (Calls.evalArgs_plain (Calls.spliced_cons (thn (he.run pins s1 σ H1 _ I1 q1) fun iv s2 ⟨y, H2, I2, ry, ov, ⟨kvs, k, d, hk, l⟩, q2⟩ => Calls.spliced_nil ?_)))
  obtain ⟨vs, rel, dd⟩ := d.dict I2
  refine call_meetsIn PySem.F.slot_dict_get dd.typeIs PySem.F.entry_dict_get (PySem.F.args_dict_get_2 _ _) (meets_dict_get (leafKind X.prog X.w) a (hk.is ry) d.lo) ⟨_, dd.mapOf, ⟨_, H2, I2.tok _, ?_, q2⟩⟩
  rw [l]
  exact (rel.val k).getD rfl
def tLGet2 (P : Program) (w : World) (td ty tx : TE) : TE := fun σ H Q => td σ H fun x H1 => ∃ a, x = .ref a ∧ (∃ kvs, DB P w H1 a kvs) ∧ ty σ H1 fun y H2 => tx σ H2 fun z H3 => ∃ o, LGet P w H3 a y o ∧ Q (o.getD z) H3
theorem pe_lget2 {o e f : Expr} {apos cpos : Pos} {td ty tx : TE} (ho : PE X o td) (he : PE X e ty) (hf : PE X f tx) (m : M2 X o "get" apos e f cpos) : PE X (.Call (.Attribute o "get" apos) [e, f] [] cpos) (tLGet2 X.prog X.w td ty tx) := by
  refine ⟨fun pins s σ H Q I h => ?_⟩
  refine wpAny_Call_method m.base m.few m.line PySem.F.plainAttrs_dict PySem.F.slot_dict_get PySem.F.type_dict_get (thn (ho.run pins s σ H _ I h) fun u s1 ⟨x, H1, I1, rx, a, ex, ⟨kv0, d0⟩, q1⟩ => ?_)
  subst ex
  obtain rfl : u = Value.ref a := rx
  obtain ⟨v0, _, dd0⟩ := d0.dict I1
  refine ⟨dd0.typeIs, db_noDict (X := X) dd0, ?_⟩
  rw [m.trees]
  refine Calls.callWith_builtin rfl (Calls.evalArgs_plain (Calls.spliced_cons (thn (he.run pins s1 σ H1 _ I1 q1) fun iv s2 ⟨y, H2, I2, ry, q2⟩ =>
    Calls.spliced_cons (thn (hf.run pins s2 σ H2 _ I2 q2) fun fv s3 ⟨z, H3, I3, rz, ov, ⟨kvs, k, d, hk, l⟩, q3⟩ => Calls.spliced_nil ?_))))
  obtain ⟨vs, rel, dd⟩ := d.dict I3
  refine call_meetsIn PySem.F.slot_dict_get dd.typeIs PySem.F.entry_dict_get (PySem.F.args_dict_get_3 _ _ _) (meets_dict_get_default (leafKind X.prog X.w) a (hk.is ry) d.lo fv) ⟨_, dd.mapOf, ⟨_, H3, I3.tok _, ?_, q3⟩⟩
  rw [l]
  exact (rel.val k).getD rz
end
end SK
namespace SK
open PySem PySem.Spec PyProof.Rows L2 LamX NdefX
open K0 (De DeAll XCl spX withX)
/-! ### x in t, x not in t, of any data -/
def rInD (K : PySem.W.Frag) (neg : Bool) : R2 := fun x y H Q => ∃ (p : Addr) (xs : List V) (ds : List PyData) (d : PyData), y = .ref p ∧ (SqL K H p xs ∨ SqT K H p xs) ∧ DpAll K H xs ds ∧ Dp K H x d ∧ d.canLay0 = true ∧ PyData.canLayAll0 ds = true ∧ d.depth ≤ 32 ∧
  Q (.bl (if neg = true then !(ds.any fun e => PyData.eqv e d) else ds.any fun e => PyData.eqv e d)) H
theorem dp_items {X : Cx} {pins : List (Addr × Obj)} {σ : L2.St} {H : Hp} {s : Shared} (I : Inv X pins σ H s) {d : PyData} {v : Value} {bs : List Addr} (rd : Reads s.heap v d bs) (hd : d.canLay0 = true) (hz : d.depth ≤ 32) (hu : X.A.units + 64 < cLine) : ∀ {ds : List PyData} {xs : List V} {us : List Value}, DpAll X.K H xs ds → Vals xs us → PyData.canLayAll0 ds = true →
    ∃ f : Value → Bool, (∀ y ∈ us, SeqAt.EqAt X.A.in1 s y v (f y)) ∧ (us.any f = ds.any fun e => PyData.eqv e d) ∧ f = fun y => @decide (∃ e as, Reads s.heap y e as ∧ e.canLay0 = true ∧ PyData.eqv e d = true) (Classical.propDecidable _) := by
  intro ds xs us h r hc
  refine ⟨_, ?_, ?_, rfl⟩
  · intro y hy
    have go : ∀ {ds : List PyData} {xs : List V} {us : List Value}, DpAll X.K H xs ds → Vals xs us → PyData.canLayAll0 ds = true → y ∈ us → ∃ e as, Reads s.heap y e as ∧ e.canLay0 = true := fun {ds xs us} h => by
      induction us generalizing ds xs with
      | nil => intro _ _ hy; cases hy
      | cons u us ih =>
        intro r hc hy
        cases r with
        | cons r1 r2 =>
          cases h with
          | @cons v1 vs e es h1 h2 =>
            have hc' : e.canLay0 = true ∧ PyData.canLayAll0 es = true := by simpa only [PyData.canLayAll0, Bool.and_eq_true] using hc
            rcases List.mem_cons.mp hy with rfl | hy
            · obtain ⟨as, q⟩ := Dp.reads I e _ _ h1 r1
              exact ⟨e, as, q, hc'.1⟩
            · exact ih h2 r2 hc'.2 hy
    obtain ⟨e, as, q, hce⟩ := go h r hc hy
    have ev : @decide (∃ e as, Reads s.heap y e as ∧ e.canLay0 = true ∧ PyData.eqv e d = true) (Classical.propDecidable _) = PyData.eqv e d := by
      cases z : PyData.eqv e d with
      | true => exact @decide_eq_true _ (Classical.propDecidable _) ⟨e, as, q, hce, z⟩
      | false =>
        refine @decide_eq_false _ (Classical.propDecidable _) ?_
        rintro ⟨e2, as2, q2, hc2, z2⟩
        rw [SeqAt.Reads.unique e2 e y as2 as hc2 q2 q] at z2
        rw [z] at z2
        cases z2
    rw [ev]
    have hm : min e.depth d.depth ≤ d.depth := Nat.min_le_right _ _
    exact SeqAt.eqAt_reads e d X.A.in1 s y v as bs q rd hce hd (by show X.A.units + 1 + _ < cLine; omega)
  · have go : ∀ {ds : List PyData} {xs : List V} {us : List Value}, DpAll X.K H xs ds → Vals xs us → PyData.canLayAll0 ds = true → (us.any fun y => @decide (∃ e as, Reads s.heap y e as ∧ e.canLay0 = true ∧ PyData.eqv e d = true) (Classical.propDecidable _)) = ds.any fun e => PyData.eqv e d := fun {ds xs us} h => by
      induction us generalizing ds xs with
      | nil =>
        intro r _
        cases r
        cases h
        rfl
      | cons u us ih =>
        intro r hc
        cases r with
        | cons r1 r2 =>
          cases h with
          | @cons v1 vs e es h1 h2 =>
            have hc' : e.canLay0 = true ∧ PyData.canLayAll0 es = true := by simpa only [PyData.canLayAll0, Bool.and_eq_true] using hc
            obtain ⟨as, q⟩ := Dp.reads I e _ _ h1 r1
            have ev : @decide (∃ e as, Reads s.heap u e as ∧ e.canLay0 = true ∧ PyData.eqv e d = true) (Classical.propDecidable _) = PyData.eqv e d := by
              cases z : PyData.eqv e d with
              | true => exact @decide_eq_true _ (Classical.propDecidable _) ⟨e, as, q, hc'.1, z⟩
              | false =>
                refine @decide_eq_false _ (Classical.propDecidable _) ?_
                rintro ⟨e2, as2, q2, hc2, z2⟩
                rw [SeqAt.Reads.unique e2 e u as2 as hc2 q2 q] at z2
                rw [z] at z2
                cases z2
            rw [List.any_cons, List.any_cons, ev, ih h2 r2 hc'.2]
    exact go h r hc
theorem op_inD {X : Cx} (hu : X.A.units + 64 < cLine) : OpR X (compareOp .In) (rInD X.K false) := by
  intro pins s σ H x y v u Q I rx ry h
  obtain ⟨p, xs, ds, d, rfl, hq, hds, hd, c1, c2, hz, q⟩ := h
  obtain rfl : u = Value.ref p := ry
  obtain ⟨bs, rd⟩ := Dp.reads I d x v hd rx
  rcases hq with hq | hq
  · obtain ⟨its, r, pl, hzz⟩ := I.list hq
    obtain ⟨f, h1, h2, _⟩ := dp_items I rd c1 hz hu hds r c2
    refine SeqAt.in_listAt f pl.isList (fun w hw => h1 w (by simpa using hw)) ⟨.bl _, H, I, ?_, q⟩
    show Value.bool _ = Value.bool _
    rw [List.any_toArray, h2]
    rfl
  · obtain ⟨its, r, pl, hzz⟩ := I.tuple hq
    obtain ⟨f, h1, h2, _⟩ := dp_items I rd c1 hz hu hds r c2
    refine SeqAt.in_tupleAt f pl (fun w hw => h1 w (by simpa using hw)) ⟨.bl _, H, I, ?_, q⟩
    show Value.bool _ = Value.bool _
    rw [List.any_toArray, h2]
    rfl
theorem op_notInD {X : Cx} (hu : X.A.units + 64 < cLine) : OpR X (compareOp .NotIn) (rInD X.K true) := by
  intro pins s σ H x y v u Q I rx ry h
  obtain ⟨p, xs, ds, d, rfl, hq, hds, hd, c1, c2, hz, q⟩ := h
  obtain rfl : u = Value.ref p := ry
  obtain ⟨bs, rd⟩ := Dp.reads I d x v hd rx
  rcases hq with hq | hq
  · obtain ⟨its, r, pl, hzz⟩ := I.list hq
    obtain ⟨f, h1, h2, _⟩ := dp_items I rd c1 hz hu hds r c2
    refine SeqAt.notIn_listAt f pl.isList (fun w hw => h1 w (by simpa using hw)) ⟨.bl _, H, I, ?_, q⟩
    show Value.bool _ = Value.bool _
    rw [List.any_toArray, h2]
    rfl
  · obtain ⟨its, r, pl, hzz⟩ := I.tuple hq
    obtain ⟨f, h1, h2, _⟩ := dp_items I rd c1 hz hu hds r c2
    refine SeqAt.notIn_tupleAt f pl (fun w hw => h1 w (by simpa using hw)) ⟨.bl _, H, I, ?_, q⟩
    show Value.bool _ = Value.bool _
    rw [List.any_toArray, h2]
    rfl
end SK
namespace SK
open PySem PySem.Spec PyProof.Rows L2 LamX NdefX
open K0 (De DeAll XCl spX withX)
/-! ### kinds -/
abbrev Kd := Bool × Bool × Int
def kdV (k : Kd) : List V := [.bl k.1, .bl k.2.1, .int k.2.2]
def kdD (k : Kd) : PyData := .tuple [.bool k.1, .bool k.2.1, .int k.2.2]
def KAt (H : Hp) (t : Addr) (k : Kd) : Prop := H t = some (.tup (kdV k))
def OkK (k : Kd) : Prop := 0 ≤ k.2.2 ∧ k.2.2 ≤ 2
abbrev PK := List (Addr × Kd)
def rfs (ps : PK) : List V := ps.map fun p => V.ref p.1
def kds (ps : PK) : List Kd := ps.map (·.2)
def KsAt (H : Hp) (ps : PK) : Prop := ∀ p ∈ ps, KAt H p.1 p.2
theorem KsAt.same {H H' : Hp} {ps : PK} (h : KsAt H ps) (s : ∀ c xs, H c = some (.tup xs) → H' c = some (.tup xs)) : KsAt H' ps := fun p hp => s _ _ (h p hp)
def lfk (k : Kd) : List Lf := [.num (if k.1 = true then 1 else 0), .num (if k.2.1 = true then 1 else 0), .num k.2.2]
theorem lfk_inj {a b : Kd} (h : lfk a = lfk b) : a = b := by
  obtain ⟨a1, a2, a3⟩ := a
  obtain ⟨b1, b2, b3⟩ := b
  unfold lfk at h
  injection h with h1 h
  injection h with h2 h
  injection h with h3 h
  injection h1 with h1
  injection h2 with h2
  injection h3 with h3
  dsimp only at h1 h2 h3
  rw [h3]
  cases a1 <;> cases b1 <;> cases a2 <;> cases b2 <;> first | rfl | (simp at h1; done) | (simp at h2; done)
theorem KAt.key {H : Hp} {t : Addr} {k : Kd} (h : KAt H t k) : KeyT H t (lfk k) := ⟨kdV k, h, .cons (.bl _) (.cons (.bl _) (.cons (.int _) .nil))⟩
theorem KAt.de {K : PySem.W.Frag} {H : Hp} {t : Addr} {k : Kd} (h : KAt H t k) : De K H (.ref t) (kdD k) := .tup h (.cons (.bl _) (.cons (.bl _) (.cons (.int _) .nil)))
theorem KAt.dp {K : PySem.W.Frag} {H : Hp} {t : Addr} {k : Kd} (h : KAt H t k) : Dp K H (.ref t) (kdD k) := .tup (.inl (.inl h)) (.cons (.bl _) (.cons (.bl _) (.cons (.int _) .nil)))
theorem kd_alike (a b : Kd) : PySem.W.alike (kdD a) (kdD b) = true := by simp [kdD, PySem.W.alike, PySem.W.alikeAll]
theorem kd_eqv (a b : Kd) : PyData.eqv (kdD a) (kdD b) = decide (a = b) := by
  obtain ⟨a1, a2, a3⟩ := a
  obtain ⟨b1, b2, b3⟩ := b
  simp only [kdD, PyData.eqv, PyData.eqvAll]
  rw [Bool.eq_iff_iff]
  simp only [Bool.and_eq_true, decide_eq_true_eq, beq_iff_eq, Prod.mk.injEq]
  cases a1 <;> cases b1 <;> cases a2 <;> cases b2 <;> simp
theorem kd_lay (k : Kd) : (kdD k).canLay0 = true ∧ (kdD k).depth ≤ 8 := ⟨by simp [kdD, PyData.canLay0, PyData.canLayAll0], by simp [kdD, PyData.depth, PyData.depthAll]⟩
theorem kds_lay : ∀ ks : List Kd, PyData.canLayAll0 (ks.map kdD) = true
  | [] => rfl
  | k :: ks => by
    rw [List.map_cons]
    simp only [PyData.canLayAll0, (kd_lay k).1, kds_lay ks, Bool.and_self]
theorem KsAt.dp {K : PySem.W.Frag} {H : Hp} : ∀ {ps : PK}, KsAt H ps → DpAll K H (rfs ps) ((kds ps).map kdD)
  | [], _ => .nil
  | p :: ps, h => .cons (h p (by simp)).dp (KsAt.dp fun q hq => h q (List.mem_cons_of_mem _ hq))
theorem kds_any (ks : List Kd) (k : Kd) : ((ks.map kdD).any fun e => PyData.eqv e (kdD k)) = decide (k ∈ ks) := by
  rw [List.any_map, Bool.eq_iff_iff, List.any_eq_true, decide_eq_true_eq]
  constructor
  · rintro ⟨a, ha, e⟩
    have e : PyData.eqv (kdD a) (kdD k) = true := e
    rw [kd_eqv, decide_eq_true_eq] at e
    exact e ▸ ha
  · intro h
    exact ⟨k, h, by show PyData.eqv (kdD k) (kdD k) = true; rw [kd_eqv, decide_eq_true_eq]⟩
def encH (H : Hp) (t : Addr) : PyData := match H t with
  | some (.tup [.bl m, .bl f, .int c]) => kdD (m, f, c)
  | _ => .none
theorem KAt.enc {H : Hp} {t : Addr} {k : Kd} (h : KAt H t k) : encH H t = kdD k := by
  have h : H t = some (.tup [.bl k.1, .bl k.2.1, .int k.2.2]) := h
  unfold encH
  rw [h]
def srtK (ps : PK) : PK := ps.mergeSort (PySem.W.dataLe false fun p => kdD p.2)
theorem srtK_perm (ps : PK) : (srtK ps).Perm ps := List.mergeSort_perm _ _
theorem srt_refs {H : Hp} {ps : PK} (h : KsAt H ps) : ((ps.map (·.1)).mergeSort (PySem.W.dataLe false (encH H))).map V.ref = rfs (srtK ps) := by
  have z := List.map_mergeSort (r := PySem.W.dataLe false fun p : Addr × Kd => kdD p.2) (s := PySem.W.dataLe false (encH H)) (f := fun p : Addr × Kd => p.1) (l := ps) (fun a ha b hb => by
    rw [PySem.W.dataLe_eq, PySem.W.dataLe_eq]
    show (!PySem.W.dataLt (kdD b.2) (kdD a.2)) = !PySem.W.dataLt (encH H b.1) (encH H a.1)
    rw [(h a ha).enc, (h b hb).enc])
  rw [← z, List.map_map]
  rfl
def lks (ps : PK) : List (List Lf × Addr) := ps.map fun p => (lfk p.2, p.1)
theorem lks_fst (ps : PK) : (lks ps).map (·.1) = (kds ps).map lfk := by
  unfold lks kds
  rw [List.map_map, List.map_map]
  rfl
theorem lks_snd (ps : PK) : (lks ps).map (·.2) = ps.map (·.1) := by
  unfold lks
  rw [List.map_map]
  rfl
/-! ### is_kind, of a kind -/
end SK
namespace SK
open PySem PySem.Spec PyProof.Rows L2 LamX NdefX
open K0 (De DeAll XCl spX withX)
/-! ### is_kind, of anything -/
theorem pg_or {X : Cx} {tg : Expr} {g1 g2 : TG} (h1 : PG X tg g1) (h2 : PG X tg g2) : PG X tg (fun v σ H Q => g1 v σ H Q ∨ g2 v σ H Q) :=
  ⟨fun pins s σ H v u Q I r h => h.elim (h1.run pins s σ H v u Q I r) (h2.run pins s σ H v u Q I r)⟩
def isI : PyData → Bool
  | .int _ => true
  | _ => false
def okC : PyData → Bool
  | .int i => decide (0 ≤ i) && decide (i ≤ 2)
  | _ => false
def okK3 : List PyData → Bool
  | [a, b, c] => isB a && (isB b && okC c)
  | _ => false
def okK (d : PyData) : Bool := isTL d && okK3 (elems d)
theorem ty_bi {K : PySem.W.Frag} {H : Hp} {v : V} {d : PyData} (h : De K H v d) : ∃ T : String, TyX K H v (.type T) ∧ kitB T "bool" = some (isB d) ∧ kitB T "int" = some (isB d || isI d) := by
  cases h with
  | non => exact ⟨"NoneType", .base .non, (by show kitB "NoneType" "bool" = some false; decide +kernel), (by show kitB "NoneType" "int" = some false; decide +kernel)⟩
  | bl b => exact ⟨"bool", .base (.bl b), (by show kitB "bool" "bool" = some true; decide +kernel), (by show kitB "bool" "int" = some true; decide +kernel)⟩
  | int i => exact ⟨"int", .base (.int i), (by show kitB "int" "bool" = some false; decide +kernel), (by show kitB "int" "int" = some true; decide +kernel)⟩
  | str x => exact ⟨"str", .base (.str x), (by show kitB "str" "bool" = some false; decide +kernel), (by show kitB "str" "int" = some false; decide +kernel)⟩
  | lst ha hd => exact ⟨"list", .base (.lst ha), (by show kitB "list" "bool" = some false; decide +kernel), (by show kitB "list" "int" = some false; decide +kernel)⟩
  | tup ha hd => exact ⟨"tuple", .base (.tup ha), (by show kitB "tuple" "bool" = some false; decide +kernel), (by show kitB "tuple" "int" = some false; decide +kernel)⟩
  | dic ha => exact ⟨"dict", .base (.dK ha), (by show kitB "dict" "bool" = some false; decide +kernel), (by show kitB "dict" "int" = some false; decide +kernel)⟩
def spIsKG (K : PySem.W.Frag) : Sp := fun vs H Q _ => ∃ (v : V) (d : PyData), vs = [v] ∧ De K H v d ∧ ∀ H', Same H H' → Q (.bl (okK d)) H'
section
variable {P : Program} {w : World} {K : PySem.W.Frag} {mg : Str → Option Value} {base : Heap} {f : Addr} {fd : FuncData}
theorem ok_isKG (F : Fun K "is_kind" "is_kind" (top 32) f fd) (gI : mg "isinstance" = none) (gT : mg "tuple" = none) (gL : mg "list" = none) (gN : mg "len" = none) (gB : mg "bool" = none) (gIn : mg "int" = none) : FnOk P w K mg base CX0 1 f fd ["kind"] (spIsKG K) := by
  have S0 : FnScope ["kind", "mark", "flag", "children"] ["kind"] (defScope (top 32)) := ⟨rfl, rfl, rfl, by decide +kernel, rfl, by decide +kernel, by decide +kernel⟩
  have nd := S0.nd
  refine F.ok S0 (fun vs H Q E h => ?_) (fun cdv A outer s H vs Q E hr h => ?_)
  · obtain ⟨v, d, rfl, _⟩ := h
    rfl
  · obtain ⟨v, d, rfl, hd, kk⟩ := h
    refine ⟨_, pss_cons (ps_if (PW.pt (pw_or (pt_not (pt_val (pe_callB call_isiT (by rfl) gI PyProof.Rows.boot_isinstance (pa_cons (pv 0) (pa_cons (pe_tup (pa_cons (pe_bltn (v := .ty "tuple") (by rfl) gT PyProof.Rows.boot_tuple rfl) (pa_cons (pe_bltn (v := .ty "list") (by rfl) gL PyProof.Rows.boot_list rfl) pa_nil))) pa_nil)))))
        (pw_or1 (pt_cmpR op_ne (pe_callB call_len_seq (by rfl) gN PySem.boot_len (pa_cons (pv 0) pa_nil)) pe_int (nomark _))))) (pss_one (ps_ret pe_bl)) pss_nil)
      (pss_cons (ps_asg (pv 0) (pg_or (pg_tup rfl (pgs_cons (pg_name (i := 1) nd rfl (Or.inl rfl)) (pgs_cons (pg_name (i := 2) nd rfl (Or.inl rfl)) (pgs_cons (pg_name (i := 3) nd rfl (Or.inl rfl)) pgs_nil)))) (pg_lst rfl (pgs_cons (pg_name (i := 1) nd rfl (Or.inl rfl)) (pgs_cons (pg_name (i := 2) nd rfl (Or.inl rfl)) (pgs_cons (pg_name (i := 3) nd rfl (Or.inl rfl)) pgs_nil))))))
      (pss_cons (ps_if (PW.pt (pw_or (pt_not (pt_val (pe_callB (r := rIsi K) call_isi (by rfl) gI PyProof.Rows.boot_isinstance (pa_cons (pv 1) (pa_cons (pe_bltn (v := .ty "bool") (by rfl) gB PyProof.Rows.boot_bool rfl) pa_nil)))))
        (pw_or1 (pt_not (pt_val (pe_callB (r := rIsi K) call_isi (by rfl) gI PyProof.Rows.boot_isinstance (pa_cons (pv 2) (pa_cons (pe_bltn (v := .ty "bool") (by rfl) gB PyProof.Rows.boot_bool rfl) pa_nil)))))))) (pss_one (ps_ret pe_bl)) pss_nil)
      (pss_one (ps_ret (pe_and (pe_callB (r := rIsi K) call_isi (by rfl) gI PyProof.Rows.boot_isinstance (pa_cons (pv 3) (pa_cons (pe_bltn (v := .ty "int") (by rfl) gIn PyProof.Rows.boot_int rfl) pa_nil)))
        (pe_and (pe_not (pe_callB (r := rIsi K) call_isi (by rfl) gI PyProof.Rows.boot_isinstance (pa_cons (pv 3) (pa_cons (pe_bltn (v := .ty "bool") (by rfl) gB PyProof.Rows.boot_bool rfl) pa_nil))))
          (pe_one (pe_chain op_le op_le pe_int (pv 3) pe_int)))))))), ?_⟩
    refine ⟨v, rfl, (by show 2 ≤ sizeLine; decide), fun tp hp => ?_⟩
    have s1 := upd_new (o := .tup [.ty "tuple", .ty "list"]) hp
    have t1 : upd H tp (.tup [.ty "tuple", .ty "list"]) tp = some (.tup [.ty "tuple", .ty "list"]) := upd_same
    generalize upd H tp (.tup [.ty "tuple", .ty "list"]) = H1 at s1 t1
    have hd1 := de_mono s1 d v hd
    obtain ⟨Ty, tx, _, _, b1, b2, k1, k2, kt⟩ := ty_of hd1
    refine ⟨v, tp, [.ty "tuple", .ty "list"], .type Ty, [.type "tuple", .type "list"], isTL d, rfl, t1, .cons (.ty _) (.cons (.ty _) .nil), tx, (by rw [← kt]; exact kit_two k1 k2), _, rfl, ?_⟩
    have shape : (isTL d = false) ∨ ∃ (p : Addr) (vs : List V) (ds : List PyData), v = .ref p ∧ DeAll K H1 vs ds ∧ (SqL K H1 p vs ∨ SqT K H1 p vs) ∧ isTL d = true ∧ okK d = okK3 ds := by
      cases hd1 with
      | @lst a vs ds ha hds => exact .inr ⟨a, vs, ds, rfl, hds, .inl (.inl (.inl ha)), rfl, rfl⟩
      | @tup a vs ds ha hds => exact .inr ⟨a, vs, ds, rfl, hds, .inr (.inl (.inl ha)), rfl, rfl⟩
      | _ => exact .inl rfl
    rcases shape with e | ⟨p, us, ds, rfl, hds, hsq, e, ek⟩
    · rw [e]
      refine iteT ?_
      have z := kk H1 s1
      unfold okK at z
      rw [e, Bool.false_and] at z
      exact z
    rw [e]
    rw [ek] at kk
    have hul := deAll_len hds
    refine iteF ⟨V.ref p, rfl, p, us, rfl, hsq, rfl, _, rfl, ?_⟩
    by_cases hl : us.length = 3
    · rw [decide_eq_true (show V.int (us.length : Nat) = V.int 3 by rw [hl]; rfl)]
      refine iteF ?_
      obtain ⟨v1, v2, v3, rfl⟩ : ∃ v1 v2 v3, us = [v1, v2, v3] := by
        match us, hl with
        | [v1, v2, v3], _ => exact ⟨v1, v2, v3, rfl⟩
      cases hds with
      | @cons _ _ d1 _ h1 hds =>
      cases hds with
      | @cons _ _ d2 _ h2 hds =>
      cases hds with
      | @cons _ _ d3 _ h3 hds =>
      cases hds
      obtain ⟨T1, x1, kb1, _⟩ := ty_bi h1
      obtain ⟨T2, x2, kb2, _⟩ := ty_bi h2
      obtain ⟨T3, x3, kb3, ki3⟩ := ty_bi h3
      have kk := kk H1 s1
      have ek3 : okK3 [d1, d2, d3] = (isB d1 && (isB d2 && okC d3)) := rfl
      refine ⟨V.ref p, rfl, ?_⟩
      rcases hsq with hq | hq
      · refine .inr ⟨p, _, rfl, hq, rfl, _, _, rfl, _, _, rfl, _, _, rfl, rfl, ?_⟩
        refine ⟨v1, rfl, v1, .ty "bool", .type T1, .type "bool", isB d1, rfl, .ty _, x1, kit_ty kb1, _, rfl, ?_⟩
        cases e1 : isB d1 with
        | false =>
          rw [ek3, e1] at kk
          exact iteT kk
        | true =>
          refine iteF ⟨v2, rfl, v2, .ty "bool", .type T2, .type "bool", isB d2, rfl, .ty _, x2, kit_ty kb2, _, rfl, ?_⟩
          cases e2 : isB d2 with
          | false =>
            rw [ek3, e1, e2] at kk
            exact iteT kk
          | true =>
            rw [ek3, e1, e2] at kk
            refine iteF ⟨v3, rfl, v3, .ty "int", .type T3, .type "int", (isB d3 || isI d3), rfl, .ty _, x3, kit_ty ki3, _, rfl, ?_⟩
            cases d3 with
            | int i =>
              cases h3
              refine iteT ⟨V.int i, rfl, .int i, .ty "bool", .type T3, .type "bool", false, rfl, .ty _, x3, kit_ty kb3, _, rfl, true, rfl, iteT ?_⟩
              refine ⟨V.int i, rfl, 0, i, rfl, rfl, _, rfl, ?_⟩
              refine ite2 (fun c1 => ?_) (fun c1 => ?_)
              · have c1 := of_decide_eq_true c1
                have kk : Q (.bl (true && (true && (decide (0 ≤ i) && decide (i ≤ 2))))) H1 := kk
                rw [decide_eq_true c1, Bool.true_and, Bool.true_and, Bool.true_and] at kk
                exact ⟨i, 2, rfl, rfl, kk⟩
              · have kk : Q (.bl (true && (true && (decide (0 ≤ i) && decide (i ≤ 2))))) H1 := kk
                have c1 : ¬ (0 : Int) ≤ i := fun z => c1 (decide_eq_true z)
                rw [decide_eq_false c1, Bool.false_and, Bool.and_false, Bool.and_false] at kk
                exact kk
            | bool b => exact iteT ⟨v3, rfl, v3, .ty "bool", .type T3, .type "bool", true, rfl, .ty _, x3, kit_ty kb3, _, rfl, false, rfl, iteF kk⟩
            | _ => exact iteF kk
      · refine .inl ⟨p, _, rfl, hq, rfl, _, _, rfl, _, _, rfl, _, _, rfl, rfl, ?_⟩
        refine ⟨v1, rfl, v1, .ty "bool", .type T1, .type "bool", isB d1, rfl, .ty _, x1, kit_ty kb1, _, rfl, ?_⟩
        cases e1 : isB d1 with
        | false =>
          rw [ek3, e1] at kk
          exact iteT kk
        | true =>
          refine iteF ⟨v2, rfl, v2, .ty "bool", .type T2, .type "bool", isB d2, rfl, .ty _, x2, kit_ty kb2, _, rfl, ?_⟩
          cases e2 : isB d2 with
          | false =>
            rw [ek3, e1, e2] at kk
            exact iteT kk
          | true =>
            rw [ek3, e1, e2] at kk
            refine iteF ⟨v3, rfl, v3, .ty "int", .type T3, .type "int", (isB d3 || isI d3), rfl, .ty _, x3, kit_ty ki3, _, rfl, ?_⟩
            cases d3 with
            | int i =>
              cases h3
              refine iteT ⟨V.int i, rfl, .int i, .ty "bool", .type T3, .type "bool", false, rfl, .ty _, x3, kit_ty kb3, _, rfl, true, rfl, iteT ?_⟩
              refine ⟨V.int i, rfl, 0, i, rfl, rfl, _, rfl, ?_⟩
              refine ite2 (fun c1 => ?_) (fun c1 => ?_)
              · have c1 := of_decide_eq_true c1
                have kk : Q (.bl (true && (true && (decide (0 ≤ i) && decide (i ≤ 2))))) H1 := kk
                rw [decide_eq_true c1, Bool.true_and, Bool.true_and, Bool.true_and] at kk
                exact ⟨i, 2, rfl, rfl, kk⟩
              · have kk : Q (.bl (true && (true && (decide (0 ≤ i) && decide (i ≤ 2))))) H1 := kk
                have c1 : ¬ (0 : Int) ≤ i := fun z => c1 (decide_eq_true z)
                rw [decide_eq_false c1, Bool.false_and, Bool.and_false, Bool.and_false] at kk
                exact kk
            | bool b => exact iteT ⟨v3, rfl, v3, .ty "bool", .type T3, .type "bool", true, rfl, .ty _, x3, kit_ty kb3, _, rfl, false, rfl, iteF kk⟩
            | _ => exact iteF kk
    · rw [decide_eq_false (show ¬ V.int (us.length : Nat) = V.int 3 from fun z => hl (by injection z with z; omega))]
      refine iteT ?_
      have z : okK3 ds = false := by
        match ds, hul with
        | [], _ => rfl
        | [_], _ => rfl
        | [_, _], _ => rfl
        | [_, _, _], h => exact absurd h hl
        | _ :: _ :: _ :: _ :: _, _ => rfl
      have z2 := kk H1 s1
      rw [z] at z2
      exact z2
end
end SK
namespace SK
open PySem PySem.Spec PyProof.Rows L2 LamX NdefX
open K0 (De DeAll XCl spX withX)
/-! ### lists of kinds, looked through -/
/-- the kind that data is (if okK) -/
def kOf (d : PyData) : Kd := match elems d with
  | [.bool m, .bool f, .int i] => (m, f, i)
  | _ => (false, false, 0)
theorem okK_elems {d : PyData} (h : okK d = true) : isTL d = true ∧ elems d = [.bool (kOf d).1, .bool (kOf d).2.1, .int (kOf d).2.2] ∧ OkK (kOf d) := by
  unfold okK at h
  rw [Bool.and_eq_true] at h
  obtain ⟨h1, h2⟩ := h
  refine ⟨h1, ?_⟩
  unfold kOf
  generalize elems d = es at h2
  match es, h2 with
  | [a, b, c], h2 =>
    have h2 : (isB a && (isB b && okC c)) = true := h2
    rw [Bool.and_eq_true, Bool.and_eq_true] at h2
    obtain ⟨ha, hb, hc⟩ := h2
    cases a with
    | bool m =>
      cases b with
      | bool f =>
        cases c with
        | int i =>
          have hc : (decide (0 ≤ i) && decide (i ≤ 2)) = true := hc
          rw [Bool.and_eq_true, decide_eq_true_eq, decide_eq_true_eq] at hc
          exact ⟨rfl, hc⟩
        | _ => cases hc
      | _ => cases hb
    | _ => cases ha
/-- the number of the first element that is no kind, or stands before -/
def kscan : List Kd → Nat → List PyData → Option Nat
  | _, _, [] => none
  | seen, i, d :: r => if okK d = true ∧ kOf d ∉ seen then kscan (seen ++ [kOf d]) (i + 1) r else some i
theorem kscan_none : ∀ {ds : List PyData} {seen : List Kd} {i : Nat}, kscan seen i ds = none → (∀ d ∈ ds, okK d = true ∧ kOf d ∉ seen) ∧ (ds.map kOf).Nodup
  | [], _, _, _ => ⟨fun d h => absurd h (by simp), by simp⟩
  | d :: r, seen, i, h => by
    have h' : (if okK d = true ∧ kOf d ∉ seen then kscan (seen ++ [kOf d]) (i + 1) r else some i) = none := h
    by_cases c : okK d = true ∧ kOf d ∉ seen
    · rw [if_pos c] at h'
      obtain ⟨h1, h2⟩ := kscan_none h'
      refine ⟨fun e he => ?_, ?_⟩
      · rcases List.mem_cons.mp he with rfl | he
        · exact c
        · exact ⟨(h1 e he).1, fun z => (h1 e he).2 (List.mem_append_left _ z)⟩
      · rw [List.map_cons, List.nodup_cons]
        refine ⟨fun z => ?_, h2⟩
        obtain ⟨e, he, e2⟩ := List.mem_map.mp z
        exact (h1 e he).2 (by rw [e2]; simp)
    · rw [if_neg c] at h'
      cases h'
/-- kinds in their order -/
def srtKd (ks : List Kd) : List Kd := ks.mergeSort (PySem.W.dataLe false kdD)
theorem srt_kinds (ps : PK) : (srtK ps).map (·.2) = srtKd (kds ps) := by
  unfold srtK srtKd kds
  rw [← List.map_mergeSort (r := PySem.W.dataLe false fun p : Addr × Kd => kdD p.2) (s := PySem.W.dataLe false kdD) (f := fun p : Addr × Kd => p.2) (fun a _ b _ => rfl)]
theorem kinds_de {K : PySem.W.Frag} {H : Hp} : ∀ {ps : PK}, KsAt H ps → DeAll K H (rfs ps) ((kds ps).map kdD)
  | [], _ => .nil
  | p :: ps, h => .cons (h p (by simp)).de (kinds_de fun q hq => h q (List.mem_cons_of_mem _ hq))
/-- what checked_kinds is asked, and gives -/
def spCkG (K : PySem.W.Frag) (C : Addr) : Sp := fun vs H Q E => ∃ (v : V) (a : Addr) (xs : List V) (ds : List PyData), vs = [v, .ref a] ∧ Rows H a xs ∧ DeAll K H xs ds ∧ xs.length ≤ 100 ∧
  (kscan [] 0 ds = none → ∀ (H' : Hp) (r : Addr), Same H H' → De K H' (.ref r) (.tuple ((srtKd (ds.map kOf)).map kdD)) → Q (.ref r) H') ∧
  (∀ i, kscan [] 0 ds = some i → Thrown E C H [("number", .int (i : Nat)), ("side", v)])
end SK
namespace SK
open PySem PySem.Spec PyProof.Rows L2 LamX NdefX
open K0 (De DeAll XCl spX withX)
theorem kd_mem (ps : PK) (k : Kd) : (lfk k ∈ (lks ps).map (·.1)) ↔ k ∈ kds ps := by
  rw [lks_fst]
  constructor
  · intro h
    obtain ⟨k2, hk2, e⟩ := List.mem_map.mp h
    rw [← lfk_inj e]
    exact hk2
  · exact fun h => List.mem_map.mpr ⟨k, h, rfl⟩
theorem DL.no_tup {P : Program} {w : World} {G : Hp} {d : Addr} {l : List (List Lf × Addr)} {us : List V} (h : DL P w G d l) (e : G d = some (.tup us)) : False := by
  have z := h.o
  rw [e] at z
  unfold DLo at z
  cases z
theorem us_kd {K : PySem.W.Frag} {H : Hp} {us : List V} {k : Kd} (h : DeAll K H us [.bool k.1, .bool k.2.1, .int k.2.2]) : us = kdV k := by
  cases h with
  | cons h1 h =>
    cases h with
    | cons h2 h =>
      cases h with
      | cons h3 h =>
        cases h
        cases h1
        cases h2
        cases h3
        rfl
section
variable {P : Program} {w : World} {K : PySem.W.Frag} {mg : Str → Option Value} {base : Heap} {f fK C : Addr} {fd fdK : FuncData}
theorem ok_ckG (F : Fun K "checked_kinds" "checked_kinds" (top 33) f fd) (D : XR P w K mg base "BadKind" C ["side", "number"]) (gE : mg "enumerate" = none) (gT : mg "tuple" = none) (gS : mg "sorted" = none) (hsys : ∃ o, K.lookup sysModules = some o)
    (gK : mg "is_kind" = some (.ref fK)) (kK : PySem.W.keepIn K (.ref fK) = true) (GK : FnOk P w K mg base CX0 1 fK fdK ["kind"] (spIsKG K)) (bK : Binds K fdK ["kind"] []) : FnOk P w K mg base (L2.CX P w) 3 f fd ["side", "kinds"] (spCkG K C) := by
  have S0 : FnScope ["side", "kinds", "known", "number", "kind"] ["side", "kinds"] (defScope (top 33)) := ⟨rfl, rfl, rfl, by decide +kernel, rfl, by decide +kernel, by decide +kernel⟩
  have nd := S0.nd
  refine F.okX S0 (fun vs H Q E h => ?_) (fun cdv A outer s H vs Q E hr h => ?_)
  · obtain ⟨v, a, xs, ds, rfl, _⟩ := h
    rfl
  · obtain ⟨v, a, xs, ds, rfl, hrows, hda, hz, k1, k2⟩ := h
    obtain ⟨fi, fdi, iC, tI, F1, b1⟩ := D.ini
    have hu := hu_of hr
    have hu64 := hr.units
    have hlen := deAll_len hda
    have thrown : ∀ (i : Nat) (d : PyData) (H4 : Hp), ds[i]? = some d → kscan [] 0 ds = kscan ((ds.take i).map kOf) i (ds.drop i) → Same H H4 → ¬ (okK d = true ∧ kOf d ∉ (ds.take i).map kOf) → Thrown E C H4 [("number", .int (i : Nat)), ("side", v)] := fun i d H4 hdi hsc s5 no => by
      have ed : ds.drop i = d :: ds.drop (i + 1) := by
        have z := List.drop_eq_getElem_cons (List.getElem?_eq_some_iff.mp hdi).1
        rw [(List.getElem?_eq_some_iff.mp hdi).2] at z
        exact z
      have z : kscan [] 0 ds = some i := by
        rw [hsc, ed]
        show (if okK d = true ∧ kOf d ∉ (ds.take i).map kOf then _ else _) = _
        rw [if_neg no]
      exact (k2 i z).mono s5
    have next : ∀ (i : Nat) (d : PyData), ds[i]? = some d → kscan [] 0 ds = kscan ((ds.take i).map kOf) i (ds.drop i) → okK d = true → kOf d ∉ (ds.take i).map kOf → kscan [] 0 ds = kscan ((ds.take (i + 1)).map kOf) (i + 1) (ds.drop (i + 1)) := fun i d hdi hsc ok no => by
      have ed : ds.drop i = d :: ds.drop (i + 1) := by
        have z := List.drop_eq_getElem_cons (List.getElem?_eq_some_iff.mp hdi).1
        rw [(List.getElem?_eq_some_iff.mp hdi).2] at z
        exact z
      rw [hsc, ed, take_snoc hdi, List.map_append]
      show (if okK d = true ∧ kOf d ∉ (ds.take i).map kOf then _ else _) = _
      rw [if_pos ⟨ok, no⟩]
      rfl
    rcases hrows with ha | ha
    · refine ⟨_, pss_cons (ps_set (i := 2) nd rfl (Or.inl rfl) pe_dnewL)
      (pss_cons (ps_for (passes_of rfl) rfl (pi_enum (by rfl) gE (pa_cons (pv 1) pa_nil)) (pg_tup rfl (pgs_cons (pg_name (i := 3) nd rfl (Or.inl rfl)) (pgs_cons (pg_name (i := 4) nd rfl (Or.inl rfl)) pgs_nil)))
        (pss_cons (ps_if (PW.pt (pw_or (pt_not (pt_val (pe_call GK (hr.mono (by decide)) (by rfl) gK kK bK .nil pass0 (pa_cons (pv 4) pa_nil)))) (pw_or1 (pt_cmp (pc_dinL hu (pe_callTy call_tuple_of (by rfl) gT PyProof.Rows.boot_tuple (pa_cons (pv 4) pa_nil)) (pv 2)))))) (pss_one (ps_raise rfl (takes_of rfl rfl rfl rfl) (pmk_oex D.cl.T iC tI F1 hr b1 .nil pass0 (by rfl) D.gC (pa_cons (pv 0) (pa_cons (pv 3) pa_nil))))) pss_nil)
        (pss_one (ps_dputL hu (pv 2) (pe_callTy call_tuple_of (by rfl) gT PyProof.Rows.boot_tuple (pa_cons (pv 4) pa_nil)) pe_bl rfl))))
      (pss_one (ps_ret (pe_callTy call_tuple_of (by rfl) gT PyProof.Rows.boot_tuple (pa_cons (pe_callB (cr_sortDL rfl hu64 hsys) (by rfl) gS PyProof.Rows.boot_sorted (pa_cons (pv 2) pa_nil)) pa_nil))))), ?_⟩
      intro d0 hd0 D0
      have s0 : Same H (upd H d0 (DLo P w d0 [])) := upd_new hd0
      have ha0 := s0 _ _ ha
      refine ⟨V.ref a, rfl, a, _, rfl, .inl (.inl ha0), for_it (walk_enum (K := K) (xs := xs)) (fun i σ G => ∃ (x3 x4 : Option V) (ps : PK), σ = [some v, some (.ref a), some (.ref d0), x3, x4] ∧ Same H G ∧ DL P w G d0 (lks ps) ∧ KsAt G ps ∧ kds ps = (ds.take i).map kOf ∧ kscan [] 0 ds = kscan ((ds.take i).map kOf) i (ds.drop i))
        ⟨none, none, [], rfl, s0, D0, fun p hp => absurd hp (by simp), rfl, rfl⟩ (fun i σ G _ q => ?_) ?_ ?_⟩
      · obtain ⟨_, _, _, _, s, _⟩ := q
        exact .inl (.inl (s _ _ ha))
      · rintro i x σ G G' hi ⟨x3, x4, ps, rfl, sG, DG, hK, hks, hsc⟩ ⟨T1, y, z, rfl, nT, rfl, hy, hz2⟩
        obtain rfl : V.int (i : Nat) = y := Option.some.inj hy
        obtain ⟨d, hdi, hd⟩ := deAll_at hda hz2
        have s1 := upd_new (o := .tup [V.int (i : Nat), z]) nT
        have hT : upd G T1 (.tup [V.int (i : Nat), z]) T1 = some (.tup [V.int (i : Nat), z]) := upd_same
        generalize upd G T1 (.tup [V.int (i : Nat), z]) = G1 at s1 hT
        have DG1 := DG.same s1
        have sG1 := sG.trans s1
        refine ⟨T1, _, rfl, .inl (.inl hT), rfl, _, _, rfl, _, _, rfl, rfl, ?_⟩
        have hd1 := de_mono sG1 _ _ hd
        refine ⟨z, rfl, z, d, rfl, hd1, fun G2 s2 => ⟨okK d, rfl, ?_⟩⟩
        have sG2 := sG1.trans s2
        have DG2 := DG1.same s2
        have hK2 : KsAt G2 ps := hK.same fun c xs e => s2 _ _ (s1 _ _ e)
        have hil := (List.getElem?_eq_some_iff.mp hdi).1
        have hpl : ps.length = i := by
          have q := congrArg List.length hks
          unfold kds at q
          rw [List.length_map, List.length_map, List.length_take] at q
          omega
        cases eR : okK d with
        | false => exact iteT (iteT ⟨v, rfl, V.int (i : Nat), rfl, rd_mk rfl (by show 2 ≤ 1000; decide) fun dx H' s' n q => thrown i d G2 hdi hsc sG2 (fun w => by rw [eR] at w; exact absurd w.1 (by decide)) H' dx s' n q⟩)
        | true =>
          refine iteF ?_
          obtain ⟨e1, e2, e3⟩ := okK_elems eR
          have hde2 := de_mono s2 _ _ hd1
          have b100 : (1000 : Nat) < sizeLine := by decide
          have lks_len : (lks ps).length = ps.length := by
            unfold lks
            rw [List.length_map]
          have post : ∀ (t : Addr) (G3 : Hp) (o3 : HO), Same G2 G3 → KAt G3 t (kOf d) → DL P w G3 d0 (lks ps) → DL P w (upd G3 d0 o3) d0 (lks ps ++ [(lfk (kOf d), t)]) → kOf d ∉ kds ps →
              ∃ (x3 x4 : Option V) (ps' : PK), [some v, some (.ref a), some (.ref d0), some (V.int (i : Nat)), some z] = [some v, some (.ref a), some (.ref d0), x3, x4] ∧ Same H (upd G3 d0 o3) ∧ DL P w (upd G3 d0 o3) d0 (lks ps') ∧ KsAt (upd G3 d0 o3) ps' ∧ kds ps' = (ds.take (i + 1)).map kOf ∧ kscan [] 0 ds = kscan ((ds.take (i + 1)).map kOf) (i + 1) (ds.drop (i + 1)) := fun t G3 o3 s3 hk3 DG3 DG4 nm => by
            have keep : ∀ c us, G3 c = some (.tup us) → upd G3 d0 o3 c = some (.tup us) := fun c us e => by
              rw [upd_ne (fun q => by rw [q] at e; exact DL.no_tup DG3 e)]
              exact e
            refine ⟨_, _, ps ++ [(t, kOf d)], rfl, fun b' o e => ?_, ?_, fun p hp => ?_, ?_, next i d hdi hsc eR (by rw [← hks]; exact nm)⟩
            · rw [upd_ne (fun q => by rw [q, hd0] at e; cases e)]
              exact s3 _ _ (sG2 _ _ e)
            · have e : lks (ps ++ [(t, kOf d)]) = lks ps ++ [(lfk (kOf d), t)] := by
                unfold lks
                rw [List.map_append]
                rfl
              rw [e]
              exact DG4
            · rcases List.mem_append.mp hp with hp | hp
              · exact keep _ _ (s3 _ _ (hK2 p hp))
              · rw [List.mem_singleton.mp hp]
                exact keep _ _ hk3
            · rw [take_snoc hdi, List.map_append, ← hks]
              unfold kds
              rw [List.map_append]
              rfl
          cases d with
          | tuple es =>
            have e2 : es = _ := e2
            cases hde2 with
            | @tup t us _ ht hds =>
              rw [e2] at hds
              have hus := us_kd hds
              rw [hus] at ht
              have hk : KAt G2 t (kOf (.tuple es)) := ht
              refine ⟨V.ref t, rfl, t, kdV (kOf (.tuple es)), rfl, .inr ⟨.inl (.inl hk), V.ref d0, rfl, d0, _, lfk (kOf (.tuple es)), t, rfl, DG2, rfl, hk.key, _, rfl, ?_⟩⟩
              by_cases nm : kOf (.tuple es) ∈ kds ps
              · rw [decide_eq_true ((kd_mem ps _).mpr nm)]
                exact iteT ⟨v, rfl, V.int (i : Nat), rfl, rd_mk rfl (by show 2 ≤ 1000; decide) fun dx H' s' n q => thrown i _ G2 hdi hsc sG2 (fun w => w.2 (hks ▸ nm)) H' dx s' n q⟩
              · have nk : lfk (kOf (.tuple es)) ∉ (lks ps).map (·.1) := fun z => nm ((kd_mem ps _).mp z)
                rw [decide_eq_false nk]
                refine iteF ⟨V.ref d0, rfl, V.ref t, rfl, t, kdV (kOf (.tuple es)), rfl, .inr ⟨.inl (.inl hk), d0, _, lfk (kOf (.tuple es)), t, rfl, DG2, rfl, hk.key, rfl, nk, by omega, fun DG3 => ?_⟩⟩
                exact post t G2 _ (Same.refl _) hk DG2 DG3 nm
          | list es =>
            have e2 : es = _ := e2
            cases hde2 with
            | @lst t us _ ht hds =>
              rw [e2] at hds
              have hus := us_kd hds
              rw [hus] at ht
              refine ⟨V.ref t, rfl, t, kdV (kOf (.list es)), rfl, .inl ⟨.inl (.inl ht), fun q1 nq1 => ?_⟩⟩
              have s3 := upd_new (o := .tup (kdV (kOf (.list es)))) nq1
              have hk3 : KAt (upd G2 q1 (.tup (kdV (kOf (.list es))))) q1 (kOf (.list es)) := upd_same
              generalize upd G2 q1 (.tup (kdV (kOf (.list es)))) = G3 at s3 hk3
              have DG3 := DG2.same s3
              refine ⟨V.ref d0, rfl, d0, _, lfk (kOf (.list es)), q1, rfl, DG3, rfl, hk3.key, _, rfl, ?_⟩
              by_cases nm : kOf (.list es) ∈ kds ps
              · rw [decide_eq_true ((kd_mem ps _).mpr nm)]
                exact iteT ⟨v, rfl, V.int (i : Nat), rfl, rd_mk rfl (by show 2 ≤ 1000; decide) fun dx H' s' n q => thrown i _ G3 hdi hsc (sG2.trans s3) (fun w => w.2 (hks ▸ nm)) H' dx s' n q⟩
              · have nk : lfk (kOf (.list es)) ∉ (lks ps).map (·.1) := fun z => nm ((kd_mem ps _).mp z)
                rw [decide_eq_false nk]
                refine iteF ⟨V.ref d0, rfl, V.ref t, rfl, t, kdV (kOf (.list es)), rfl, .inl ⟨.inl (.inl (s3 _ _ ht)), fun q2 nq2 => ?_⟩⟩
                have s4 := upd_new (o := .tup (kdV (kOf (.list es)))) nq2
                have hk4 : KAt (upd G3 q2 (.tup (kdV (kOf (.list es))))) q2 (kOf (.list es)) := upd_same
                generalize upd G3 q2 (.tup (kdV (kOf (.list es)))) = G4 at s4 hk4
                have DG4 := DG3.same s4
                refine ⟨d0, _, lfk (kOf (.list es)), q2, rfl, DG4, rfl, hk4.key, rfl, nk, by omega, fun DG5 => ?_⟩
                exact post q2 G4 _ (s3.trans s4) hk4 DG4 DG5 nm
          | _ => cases e1
      · rintro σ G ⟨x3, x4, ps, rfl, sG, DG, hK, hks, hsc⟩
        rw [hlen, List.drop_length] at hsc
        rw [hlen, List.take_length] at hks
        have kk := k1 hsc
        refine ⟨V.ref d0, rfl, d0, lks ps, encH G, rfl, DG, ?_, ?_, ?_, ?_, fun p np => ?_⟩
        · intro q hq
          obtain ⟨p, hp, rfl⟩ := List.mem_map.mp hq
          show De K G (.ref p.1) (encH G p.1)
          rw [(hK p hp).enc]
          exact (hK p hp).de
        · intro x hx y hy
          rw [lks_snd, List.map_map] at hx hy
          obtain ⟨p, hp, rfl⟩ := List.mem_map.mp hx
          obtain ⟨q, hq, rfl⟩ := List.mem_map.mp hy
          show PySem.W.alike (encH G p.1) (encH G q.1) = true
          rw [(hK p hp).enc, (hK q hq).enc]
          exact kd_alike _ _
        · refine .inl fun x hx => ?_
          rw [lks_snd, List.map_map] at hx
          obtain ⟨p, hp, rfl⟩ := List.mem_map.mp hx
          refine ⟨.bool p.2.1, [.bool p.2.2.1, .int p.2.2.2], ?_⟩
          show encH G p.1 = _
          rw [(hK p hp).enc]
          rfl
        · intro q hq
          obtain ⟨p, hp, rfl⟩ := List.mem_map.mp hq
          show (encH G p.1).depth ≤ 8
          rw [(hK p hp).enc]
          exact (kd_lay _).2
        · rw [lks_snd, srt_refs hK]
          have sp := upd_new (o := .lst (rfs (srtK ps))) np
          refine ⟨p, _, rfl, .inl ⟨.inl (.inl upd_same), fun r nr => ?_⟩⟩
          have sall := (sG.trans sp).trans (upd_new (o := .tup (rfs (srtK ps))) nr)
          refine kk _ r sall ?_
          have hs : KsAt (upd (upd G p (.lst (rfs (srtK ps)))) r (.tup (rfs (srtK ps)))) (srtK ps) := fun q hq => upd_new nr _ _ (sp _ _ (hK q ((srtK_perm ps).mem_iff.mp hq)))
          have e : srtKd (ds.map kOf) = kds (srtK ps) := by
            rw [← hks, ← srt_kinds]
            rfl
          rw [e]
          exact .tup upd_same (kinds_de hs)
    · refine ⟨_, pss_cons (ps_set (i := 2) nd rfl (Or.inl rfl) pe_dnewL)
      (pss_cons (ps_for (passes_of rfl) rfl (pi_enumT (by rfl) gE (pa_cons (pv 1) pa_nil)) (pg_tup rfl (pgs_cons (pg_name (i := 3) nd rfl (Or.inl rfl)) (pgs_cons (pg_name (i := 4) nd rfl (Or.inl rfl)) pgs_nil)))
        (pss_cons (ps_if (PW.pt (pw_or (pt_not (pt_val (pe_call GK (hr.mono (by decide)) (by rfl) gK kK bK .nil pass0 (pa_cons (pv 4) pa_nil)))) (pw_or1 (pt_cmp (pc_dinL hu (pe_callTy call_tuple_of (by rfl) gT PyProof.Rows.boot_tuple (pa_cons (pv 4) pa_nil)) (pv 2)))))) (pss_one (ps_raise rfl (takes_of rfl rfl rfl rfl) (pmk_oex D.cl.T iC tI F1 hr b1 .nil pass0 (by rfl) D.gC (pa_cons (pv 0) (pa_cons (pv 3) pa_nil))))) pss_nil)
        (pss_one (ps_dputL hu (pv 2) (pe_callTy call_tuple_of (by rfl) gT PyProof.Rows.boot_tuple (pa_cons (pv 4) pa_nil)) pe_bl rfl))))
      (pss_one (ps_ret (pe_callTy call_tuple_of (by rfl) gT PyProof.Rows.boot_tuple (pa_cons (pe_callB (cr_sortDL rfl hu64 hsys) (by rfl) gS PyProof.Rows.boot_sorted (pa_cons (pv 2) pa_nil)) pa_nil))))), ?_⟩
      intro d0 hd0 D0
      have s0 : Same H (upd H d0 (DLo P w d0 [])) := upd_new hd0
      have ha0 := s0 _ _ ha
      refine ⟨V.ref a, rfl, a, _, rfl, ha0, for_it (walk_enumT (xs := xs)) (fun i σ G => ∃ (x3 x4 : Option V) (ps : PK), σ = [some v, some (.ref a), some (.ref d0), x3, x4] ∧ Same H G ∧ DL P w G d0 (lks ps) ∧ KsAt G ps ∧ kds ps = (ds.take i).map kOf ∧ kscan [] 0 ds = kscan ((ds.take i).map kOf) i (ds.drop i))
        ⟨none, none, [], rfl, s0, D0, fun p hp => absurd hp (by simp), rfl, rfl⟩ (fun i σ G _ q => ?_) ?_ ?_⟩
      · obtain ⟨_, _, _, _, s, _⟩ := q
        exact s _ _ ha
      · rintro i x σ G G' hi ⟨x3, x4, ps, rfl, sG, DG, hK, hks, hsc⟩ ⟨T1, y, z, rfl, nT, rfl, hy, hz2⟩
        obtain rfl : V.int (i : Nat) = y := Option.some.inj hy
        obtain ⟨d, hdi, hd⟩ := deAll_at hda hz2
        have s1 := upd_new (o := .tup [V.int (i : Nat), z]) nT
        have hT : upd G T1 (.tup [V.int (i : Nat), z]) T1 = some (.tup [V.int (i : Nat), z]) := upd_same
        generalize upd G T1 (.tup [V.int (i : Nat), z]) = G1 at s1 hT
        have DG1 := DG.same s1
        have sG1 := sG.trans s1
        refine ⟨T1, _, rfl, .inl (.inl hT), rfl, _, _, rfl, _, _, rfl, rfl, ?_⟩
        have hd1 := de_mono sG1 _ _ hd
        refine ⟨z, rfl, z, d, rfl, hd1, fun G2 s2 => ⟨okK d, rfl, ?_⟩⟩
        have sG2 := sG1.trans s2
        have DG2 := DG1.same s2
        have hK2 : KsAt G2 ps := hK.same fun c xs e => s2 _ _ (s1 _ _ e)
        have hil := (List.getElem?_eq_some_iff.mp hdi).1
        have hpl : ps.length = i := by
          have q := congrArg List.length hks
          unfold kds at q
          rw [List.length_map, List.length_map, List.length_take] at q
          omega
        cases eR : okK d with
        | false => exact iteT (iteT ⟨v, rfl, V.int (i : Nat), rfl, rd_mk rfl (by show 2 ≤ 1000; decide) fun dx H' s' n q => thrown i d G2 hdi hsc sG2 (fun w => by rw [eR] at w; exact absurd w.1 (by decide)) H' dx s' n q⟩)
        | true =>
          refine iteF ?_
          obtain ⟨e1, e2, e3⟩ := okK_elems eR
          have hde2 := de_mono s2 _ _ hd1
          have b100 : (1000 : Nat) < sizeLine := by decide
          have lks_len : (lks ps).length = ps.length := by
            unfold lks
            rw [List.length_map]
          have post : ∀ (t : Addr) (G3 : Hp) (o3 : HO), Same G2 G3 → KAt G3 t (kOf d) → DL P w G3 d0 (lks ps) → DL P w (upd G3 d0 o3) d0 (lks ps ++ [(lfk (kOf d), t)]) → kOf d ∉ kds ps →
              ∃ (x3 x4 : Option V) (ps' : PK), [some v, some (.ref a), some (.ref d0), some (V.int (i : Nat)), some z] = [some v, some (.ref a), some (.ref d0), x3, x4] ∧ Same H (upd G3 d0 o3) ∧ DL P w (upd G3 d0 o3) d0 (lks ps') ∧ KsAt (upd G3 d0 o3) ps' ∧ kds ps' = (ds.take (i + 1)).map kOf ∧ kscan [] 0 ds = kscan ((ds.take (i + 1)).map kOf) (i + 1) (ds.drop (i + 1)) := fun t G3 o3 s3 hk3 DG3 DG4 nm => by
            have keep : ∀ c us, G3 c = some (.tup us) → upd G3 d0 o3 c = some (.tup us) := fun c us e => by
              rw [upd_ne (fun q => by rw [q] at e; exact DL.no_tup DG3 e)]
              exact e
            refine ⟨_, _, ps ++ [(t, kOf d)], rfl, fun b' o e => ?_, ?_, fun p hp => ?_, ?_, next i d hdi hsc eR (by rw [← hks]; exact nm)⟩
            · rw [upd_ne (fun q => by rw [q, hd0] at e; cases e)]
              exact s3 _ _ (sG2 _ _ e)
            · have e : lks (ps ++ [(t, kOf d)]) = lks ps ++ [(lfk (kOf d), t)] := by
                unfold lks
                rw [List.map_append]
                rfl
              rw [e]
              exact DG4
            · rcases List.mem_append.mp hp with hp | hp
              · exact keep _ _ (s3 _ _ (hK2 p hp))
              · rw [List.mem_singleton.mp hp]
                exact keep _ _ hk3
            · rw [take_snoc hdi, List.map_append, ← hks]
              unfold kds
              rw [List.map_append]
              rfl
          cases d with
          | tuple es =>
            have e2 : es = _ := e2
            cases hde2 with
            | @tup t us _ ht hds =>
              rw [e2] at hds
              have hus := us_kd hds
              rw [hus] at ht
              have hk : KAt G2 t (kOf (.tuple es)) := ht
              refine ⟨V.ref t, rfl, t, kdV (kOf (.tuple es)), rfl, .inr ⟨.inl (.inl hk), V.ref d0, rfl, d0, _, lfk (kOf (.tuple es)), t, rfl, DG2, rfl, hk.key, _, rfl, ?_⟩⟩
              by_cases nm : kOf (.tuple es) ∈ kds ps
              · rw [decide_eq_true ((kd_mem ps _).mpr nm)]
                exact iteT ⟨v, rfl, V.int (i : Nat), rfl, rd_mk rfl (by show 2 ≤ 1000; decide) fun dx H' s' n q => thrown i _ G2 hdi hsc sG2 (fun w => w.2 (hks ▸ nm)) H' dx s' n q⟩
              · have nk : lfk (kOf (.tuple es)) ∉ (lks ps).map (·.1) := fun z => nm ((kd_mem ps _).mp z)
                rw [decide_eq_false nk]
                refine iteF ⟨V.ref d0, rfl, V.ref t, rfl, t, kdV (kOf (.tuple es)), rfl, .inr ⟨.inl (.inl hk), d0, _, lfk (kOf (.tuple es)), t, rfl, DG2, rfl, hk.key, rfl, nk, by omega, fun DG3 => ?_⟩⟩
                exact post t G2 _ (Same.refl _) hk DG2 DG3 nm
          | list es =>
            have e2 : es = _ := e2
            cases hde2 with
            | @lst t us _ ht hds =>
              rw [e2] at hds
              have hus := us_kd hds
              rw [hus] at ht
              refine ⟨V.ref t, rfl, t, kdV (kOf (.list es)), rfl, .inl ⟨.inl (.inl ht), fun q1 nq1 => ?_⟩⟩
              have s3 := upd_new (o := .tup (kdV (kOf (.list es)))) nq1
              have hk3 : KAt (upd G2 q1 (.tup (kdV (kOf (.list es))))) q1 (kOf (.list es)) := upd_same
              generalize upd G2 q1 (.tup (kdV (kOf (.list es)))) = G3 at s3 hk3
              have DG3 := DG2.same s3
              refine ⟨V.ref d0, rfl, d0, _, lfk (kOf (.list es)), q1, rfl, DG3, rfl, hk3.key, _, rfl, ?_⟩
              by_cases nm : kOf (.list es) ∈ kds ps
              · rw [decide_eq_true ((kd_mem ps _).mpr nm)]
                exact iteT ⟨v, rfl, V.int (i : Nat), rfl, rd_mk rfl (by show 2 ≤ 1000; decide) fun dx H' s' n q => thrown i _ G3 hdi hsc (sG2.trans s3) (fun w => w.2 (hks ▸ nm)) H' dx s' n q⟩
              · have nk : lfk (kOf (.list es)) ∉ (lks ps).map (·.1) := fun z => nm ((kd_mem ps _).mp z)
                rw [decide_eq_false nk]
                refine iteF ⟨V.ref d0, rfl, V.ref t, rfl, t, kdV (kOf (.list es)), rfl, .inl ⟨.inl (.inl (s3 _ _ ht)), fun q2 nq2 => ?_⟩⟩
                have s4 := upd_new (o := .tup (kdV (kOf (.list es)))) nq2
                have hk4 : KAt (upd G3 q2 (.tup (kdV (kOf (.list es))))) q2 (kOf (.list es)) := upd_same
                generalize upd G3 q2 (.tup (kdV (kOf (.list es)))) = G4 at s4 hk4
                have DG4 := DG3.same s4
                refine ⟨d0, _, lfk (kOf (.list es)), q2, rfl, DG4, rfl, hk4.key, rfl, nk, by omega, fun DG5 => ?_⟩
                exact post q2 G4 _ (s3.trans s4) hk4 DG4 DG5 nm
          | _ => cases e1
      · rintro σ G ⟨x3, x4, ps, rfl, sG, DG, hK, hks, hsc⟩
        rw [hlen, List.drop_length] at hsc
        rw [hlen, List.take_length] at hks
        have kk := k1 hsc
        refine ⟨V.ref d0, rfl, d0, lks ps, encH G, rfl, DG, ?_, ?_, ?_, ?_, fun p np => ?_⟩
        · intro q hq
          obtain ⟨p, hp, rfl⟩ := List.mem_map.mp hq
          show De K G (.ref p.1) (encH G p.1)
          rw [(hK p hp).enc]
          exact (hK p hp).de
        · intro x hx y hy
          rw [lks_snd, List.map_map] at hx hy
          obtain ⟨p, hp, rfl⟩ := List.mem_map.mp hx
          obtain ⟨q, hq, rfl⟩ := List.mem_map.mp hy
          show PySem.W.alike (encH G p.1) (encH G q.1) = true
          rw [(hK p hp).enc, (hK q hq).enc]
          exact kd_alike _ _
        · refine .inl fun x hx => ?_
          rw [lks_snd, List.map_map] at hx
          obtain ⟨p, hp, rfl⟩ := List.mem_map.mp hx
          refine ⟨.bool p.2.1, [.bool p.2.2.1, .int p.2.2.2], ?_⟩
          show encH G p.1 = _
          rw [(hK p hp).enc]
          rfl
        · intro q hq
          obtain ⟨p, hp, rfl⟩ := List.mem_map.mp hq
          show (encH G p.1).depth ≤ 8
          rw [(hK p hp).enc]
          exact (kd_lay _).2
        · rw [lks_snd, srt_refs hK]
          have sp := upd_new (o := .lst (rfs (srtK ps))) np
          refine ⟨p, _, rfl, .inl ⟨.inl (.inl upd_same), fun r nr => ?_⟩⟩
          have sall := (sG.trans sp).trans (upd_new (o := .tup (rfs (srtK ps))) nr)
          refine kk _ r sall ?_
          have hs : KsAt (upd (upd G p (.lst (rfs (srtK ps)))) r (.tup (rfs (srtK ps)))) (srtK ps) := fun q hq => upd_new nr _ _ (sp _ _ (hK q ((srtK_perm ps).mem_iff.mp hq)))
          have e : srtKd (ds.map kOf) = kds (srtK ps) := by
            rw [← hks, ← srt_kinds]
            rfl
          rw [e]
          exact .tup upd_same (kinds_de hs)
end
end SK
namespace SK
open PySem PySem.Spec PyProof.Rows L2 LamX NdefX
open K0 (De DeAll XCl spX withX)
/-! ### a rule is made, or refused -/
structure RuleP (K : PySem.W.Frag) (H : Hp) (fs : List (Str × V)) (kr ko : List Kd) (r1 r2 : Addr) : Prop where
  f1 : fs.lookup ("root" : Str) = some (.ref r1)
  f2 : fs.lookup ("others" : Str) = some (.ref r2)
  no : ∀ g : Str, g ≠ "root" → g ≠ "others" → fs.lookup g = none
  d1 : De K H (.ref r1) (.tuple (kr.map kdD))
  d2 : De K H (.ref r2) (.tuple (ko.map kdD))
def RuleF (K : PySem.W.Frag) (CR : Addr) (H : Hp) (x : V) (kr ko : List Kd) : Prop := ∃ (a dx : Addr) (fs : List (Str × V)) (r1 r2 : Addr), x = .ref a ∧ H a = some (.ins CR dx fs) ∧ RuleP K H fs kr ko r1 r2
theorem RuleF.kx {K : PySem.W.Frag} {CR : Addr} {H H' : Hp} {x : V} {kr ko : List Kd} (h : RuleF K CR H x kr ko) (m : Kx H H') : RuleF K CR H' x kr ko := by
  obtain ⟨a, dx, fs, r1, r2, e, ha, R⟩ := h
  exact ⟨a, dx, fs, r1, r2, e, m _ _ ha (fun _ z => nomatch z) (fun _ _ _ z => nomatch z), { R with d1 := de_kx m R.d1, d2 := de_kx m R.d2 }⟩
def spInitRG (K : PySem.W.Frag) (CR CK : Addr) : Sp := fun vs H Q E => ∃ (x dx a1 a2 : Addr) (xs1 xs2 : List V) (ds1 ds2 : List PyData), vs = [.ref x, .ref a1, .ref a2] ∧ H x = some (.ins CR dx []) ∧ Rows H a1 xs1 ∧ DeAll K H xs1 ds1 ∧ xs1.length ≤ 100 ∧ Rows H a2 xs2 ∧ DeAll K H xs2 ds2 ∧ xs2.length ≤ 100 ∧
  (∀ i : Nat, kscan [] 0 ds1 = some i → ∀ (H' : Hp) (d : Addr), SameBut x H H' → H' d = some (.xd [("number", .int i), ("side", .str "root")]) → E (.ref CK) (some d) H') ∧
  (kscan [] 0 ds1 = none → ∀ i : Nat, kscan [] 0 ds2 = some i → ∀ (H' : Hp) (d : Addr), SameBut x H H' → H' d = some (.xd [("number", .int i), ("side", .str "others")]) → E (.ref CK) (some d) H') ∧
  (kscan [] 0 ds1 = none → kscan [] 0 ds2 = none → ∀ (H' : Hp) (fs : List (Str × V)) (r1 r2 : Addr), SameBut x H H' → H' x = some (.ins CR dx fs) → RuleP K H' fs (srtKd (ds1.map kOf)) (srtKd (ds2.map kOf)) r1 r2 → Q .non H')
section
variable {P : Program} {w : World} {K : PySem.W.Frag} {mg : Str → Option Value} {base : Heap} {f fC CR CK : Addr} {fd fdC : FuncData}
theorem ok_initRG (F : Fun K "__init__" "Rule.__init__" (inClass (top 35) 0) f fd) (cT : Cls K CR) (n1 : NoAttr K CR "root") (n2 : NoAttr K CR "others")
    (gC : mg "checked_kinds" = some (.ref fC)) (kC : PySem.W.keepIn K (.ref fC) = true) (GC : FnOk P w K mg base (L2.CX P w) 3 fC fdC ["side", "kinds"] (spCkG K CK)) (bC : Binds K fdC ["side", "kinds"] []) : FnOk P w K mg base (L2.CX P w) 4 f fd ["self", "root", "others"] (spInitRG K CR CK) := by
  have S0 : FnScope ["self", "root", "others"] ["self", "root", "others"] (defScope (inClass (top 35) 0)) := ⟨rfl, rfl, rfl, by decide +kernel, rfl, by decide +kernel, by decide +kernel⟩
  have nd := S0.nd
  refine F.okX S0 (fun vs H Q E h => ?_) (fun cdv A outer s H vs Q E hr h => ?_)
  · obtain ⟨x, dx, a1, a2, xs1, xs2, ds1, ds2, rfl, _⟩ := h
    rfl
  · obtain ⟨x, dx, a1, a2, xs1, xs2, ds1, ds2, rfl, hx, hr1, hd1, hz1, hr2, hd2, hz2, t1, t2, kk⟩ := h
    refine ⟨_, pss_cons (ps_fld (pv 0) (pe_call GC hr (by rfl) gC kC bC .nil (passes_call (takes_of rfl rfl rfl rfl) (fun _ _ _ _ h => h)) (pa_cons pe_str (pa_cons (pv 1) pa_nil))) rfl)
      (pss_one (ps_fld (pv 0) (pe_call GC hr (by rfl) gC kC bC .nil (passes_call (takes_of rfl rfl rfl rfl) (fun _ _ _ _ h => h)) (pa_cons pe_str (pa_cons (pv 2) pa_nil))) rfl)), ?_⟩
    refine ⟨V.ref a1, rfl, .str "root", a1, xs1, ds1, rfl, hr1, hd1, hz1, fun e1 H1 q1 s1 h1 => ⟨V.ref x, rfl, x, CR, dx, _, rfl, s1 _ _ hx, cT, n1, (by decide), ?_⟩, fun i e H' d s' _ h => t1 i e H' d (.of s') h⟩
    have hx1 := s1 _ _ hx
    have g2 : SameBut x H (upd H1 x (.ins CR dx (putF "root" (.ref q1) []))) := fun b o hb e => by
      rw [upd_ne hb]
      exact s1 _ _ e
    have m12 : ∀ b o, b ≠ x → H1 b = some o → (∀ ps, o ≠ .tbl ps) → upd H1 x (.ins CR dx (putF "root" (.ref q1) [])) b = some o := fun b o hb e _ => by
      rw [upd_ne hb]
      exact e
    have h2 := de_insN hx1 m12 h1
    have hx2 : upd H1 x (.ins CR dx (putF "root" (.ref q1) [])) x = some (.ins CR dx (putF "root" (.ref q1) [])) := upd_same
    generalize upd H1 x (.ins CR dx (putF "root" (.ref q1) [])) = H2 at g2 hx2 h2
    have m2 : ∀ b o, b ≠ x → H b = some o → (∀ ps, o ≠ .tbl ps) → H2 b = some o := fun b o hb e _ => g2 b o hb e
    have hr2' : Rows H2 a2 xs2 := hr2.elim (fun e => .inl (g2 _ _ (ne_of e hx (by intro z; cases z)) e)) fun e => .inr (g2 _ _ (ne_of e hx (by intro z; cases z)) e)
    refine ⟨V.ref a2, rfl, .str "others", a2, xs2, ds2, rfl, hr2', de_insNAll hx m2 hd2, hz2, fun e2 H3 q2 s3 h3 => ⟨V.ref x, rfl, x, CR, dx, _, rfl, s3 _ _ hx2, cT, n2, (by show 1 < 1000; decide), ?_⟩, fun i e H' d s' _ h => t2 e1 i e H' d (fun b o hb e => s' _ _ (g2 b o hb e)) h⟩
    have hx3 := s3 _ _ hx2
    have m34 : ∀ b o, b ≠ x → H3 b = some o → (∀ ps, o ≠ .tbl ps) → upd H3 x (.ins CR dx (putF "others" (.ref q2) (putF "root" (.ref q1) []))) b = some o := fun b o hb e _ => by
      rw [upd_ne hb]
      exact e
    refine kk e1 e2 _ _ q1 q2 (fun b o hb e => ?_) upd_same ⟨?_, ?_, fun g n1 n2 => ?_, de_insN hx3 m34 (de_mono s3 _ _ h2), de_insN hx3 m34 h3⟩
    · rw [upd_ne hb]
      exact s3 _ _ (g2 _ _ hb e)
    · rw [lookup_putF, if_neg (by decide), lookup_putF, if_pos rfl]
    · rw [lookup_putF, if_pos rfl]
    · rw [lookup_putF, if_neg n2, lookup_putF, if_neg n1]
      rfl
end
end SK
namespace SK
open PySem PySem.Spec PyProof.Rows L2 LamX NdefX
open K0 (De DeAll XCl spX withX)
/-! ### rules are equal; the kind of a place; where a rule is broken -/
structure RuleK (K : PySem.W.Frag) (C : Addr) : Prop where
  own : Own K C
  cl : Cls K C
  n1 : NoAttr K C "root"
  n2 : NoAttr K C "others"
  ha : PySem.W.findIn K (.ref C) "__class__" = some (some (.builtin "object.__class__"))
  hn : PySem.W.specialIn K (.builtin "object.__class__") "__get__" = some (some (.builtin "getset_descriptor.__get__"))
  htk : PySem.W.takesIn K (.builtin "object.__class__") = some true
  hm : PySem.W.mroIn K C (.type "object") = some true
  k1 : PySem.W.kitOne K (.ref C) (.ref C) = some true
  kT : PySem.W.kitOne K (.type "tuple") (.ref C) = some false
  ne : PySem.W.findIn K (.ref C) "__ne__" = some (some (.builtin "object.__ne__"))
  oo : PySem.W.subIn K (.ref C) (.type "object") = some true
theorem RuleK.ty {K : PySem.W.Frag} {C a dx : Addr} {H : Hp} {fs : List (Str × V)} (R : RuleK K C) (h : H a = some (.ins C dx fs)) : TyX K H (.ref a) (.ref C) := .base (.ins h R.cl R.ha R.hn R.htk R.hm)
theorem kinds_dp {K : PySem.W.Frag} {H : Hp} : ∀ {ks : List Kd} {xs : List V}, DeAll K H xs (ks.map kdD) → DpAll K H xs (ks.map kdD)
  | [], _, .nil => .nil
  | k :: ks, _, .cons h1 h2 => by
    refine .cons ?_ (kinds_dp h2)
    have h1 : De K H _ (.tuple [.bool k.1, .bool k.2.1, .int k.2.2]) := h1
    cases h1 with
    | tup ha hd =>
      rw [us_kd hd] at ha
      exact KAt.dp ha
theorem kinds_tup {K : PySem.W.Frag} {H : Hp} {r : Addr} {ks : List Kd} (h : De K H (.ref r) (.tuple (ks.map kdD))) : ∃ xs, H r = some (.tup xs) ∧ DeAll K H xs (ks.map kdD) := by
  cases h with
  | tup ha hd => exact ⟨_, ha, hd⟩
theorem kinds_dpT {K : PySem.W.Frag} {H : Hp} {r : Addr} {ks : List Kd} (h : De K H (.ref r) (.tuple (ks.map kdD))) : Dp K H (.ref r) (.tuple (ks.map kdD)) := by
  obtain ⟨xs, h1, h2⟩ := kinds_tup h
  exact .tup (.inl (.inl h1)) (kinds_dp h2)
theorem kds_deep : ∀ ks : List Kd, PyData.depthAll (ks.map kdD) ≤ 8
  | [] => by simp [PyData.depthAll]
  | k :: ks => by
    have h := kds_deep ks
    have h2 := (kd_lay k).2
    rw [List.map_cons]
    simp only [PyData.depthAll]
    omega
theorem kds_shaped (ks : List Kd) : SeqAt.shaped (.tuple (ks.map kdD)) = true := by
  have h := kds_deep ks
  unfold SeqAt.shaped
  rw [Bool.and_eq_true, decide_eq_true_eq]
  refine ⟨by simp only [PyData.canLay0, kds_lay], ?_⟩
  simp only [PyData.depth]
  omega
theorem eqv_kds : ∀ a b : List Kd, PyData.eqvAll (a.map kdD) (b.map kdD) = decide (a = b)
  | [], [] => by simp [PyData.eqvAll]
  | [], _ :: _ => by simp [PyData.eqvAll]
  | _ :: _, [] => by simp [PyData.eqvAll]
  | x :: xs, y :: ys => by
    simp only [List.map_cons, PyData.eqvAll, eqv_kds xs ys, kd_eqv]
    by_cases h : x = y <;> by_cases h2 : xs = ys <;> simp [h, h2]
theorem eqv_kdT (a b : List Kd) : PyData.eqv (.tuple (a.map kdD)) (.tuple (b.map kdD)) = decide (a = b) := by
  simp only [PyData.eqv, eqv_kds]
/-- the kind of a place -/
def kdS (S : List Spot) (s : Spot) : Kd := (s.2.1, s.2.2, ((min 2 (belL (plc S) s.1).length : Nat) : Int))
def brkB (kr ko : List Kd) (S : List Spot) (s : Spot) : Bool := !decide (kdS S s ∈ (if s.1 = Str.ofString "" then kr else ko))
def brk (kr ko : List Kd) (S : List Spot) : Option Str := (S.find? (brkB kr ko S)).map (·.1)
def optV : Option Str → V
  | some p => .str p
  | none => .non
def spEqR (K : PySem.W.Frag) (CR : Addr) : Sp := fun vs H Q _ => ∃ (x y : V) (kr ko : List Kd), vs = [x, y] ∧ RuleF K CR H x kr ko ∧
  ((∃ kr2 ko2 : List Kd, RuleF K CR H y kr2 ko2 ∧ Q (.bl (decide (kr = kr2 ∧ ko = ko2))) H) ∨ (∃ t xs, y = .ref t ∧ H t = some (.tup xs) ∧ Q (.bl false) H))
def spKind (K : PySem.W.Frag) (CT CN : Addr) : Sp := fun vs H Q E => ∃ (x v : V) (d : PyData) (ls : Str) (S : List Spot), vs = [x, v] ∧ De K H v d ∧ TreeF K CT H x ls S ∧ GoodS ls S ∧
  (∀ s ∈ S, d = .str s.1 → ∀ (H' : Hp) (r : Addr), Same H H' → KAt H' r (kdS S s) → Q (.ref r) H') ∧ (hasD S d = false → Thrown E CN H [("place", v)])
def spBrk (K : PySem.W.Frag) (CT CR : Addr) : Sp := fun vs H Q _ => ∃ (x t : V) (kr ko : List Kd) (ls : Str) (S : List Spot), vs = [x, t] ∧ RuleF K CR H x kr ko ∧ TreeF K CT H t ls S ∧ GoodS ls S ∧ ∀ H', Same H H' → Q (optV (brk kr ko S)) H'
def spKeeps (K : PySem.W.Frag) (CT CR : Addr) : Sp := fun vs H Q _ => ∃ (x t : V) (kr ko : List Kd) (ls : Str) (S : List Spot), vs = [x, t] ∧ RuleF K CR H x kr ko ∧ TreeF K CT H t ls S ∧ GoodS ls S ∧ ∀ H', Same H H' → Q (.bl (brk kr ko S).isNone) H'
theorem find_at {α : Type} {l : List α} {i : Nat} {x : α} {p : α → Bool} (h : l[i]? = some x) (hx : p x = true) (hj : ∀ y ∈ l.take i, p y = false) : l.find? p = some x := by
  have hl := (List.getElem?_eq_some_iff.mp h).1
  have z := List.drop_eq_getElem_cons hl
  rw [(List.getElem?_eq_some_iff.mp h).2] at z
  have e : l = l.take i ++ x :: l.drop (i + 1) := by
    conv => lhs; rw [← List.take_append_drop i l, z]
  rw [e, List.find?_append, List.find?_eq_none.mpr (fun y hy => by rw [hj y hy]; exact Bool.false_ne_true)]
  simp [hx]
abbrev rm (i : Nat) : Stmt := inClass (top 35) i
section
variable {P : Program} {w : World} {K : PySem.W.Frag} {mg : Str → Option Value} {base : Heap} {f fR fB fK fBr CT CN CR : Addr} {fd fdR fdB fdK fdBr : FuncData}
theorem ok_eqR (F : Fun K "__eq__" "Rule.__eq__" (rm 1) f fd) (R : RuleK K CR) (gI : mg "isinstance" = none) (gC : mg "Rule" = some (.ref CR)) : FnOk P w K mg base (L2.CX P w) 1 f fd ["self", "other"] (spEqR K CR) := by
  have S0 : FnScope ["self", "other"] ["self", "other"] (defScope (rm 1)) := ⟨rfl, rfl, rfl, by decide +kernel, rfl, by decide +kernel, by decide +kernel⟩
  refine F.okX S0 (fun vs H Q E h => ?_) (fun cdv A outer s H vs Q E hr h => ?_)
  · obtain ⟨x, y, kr, ko, rfl, _⟩ := h
    rfl
  · obtain ⟨x, y, kr, ko, rfl, ⟨a, dx, fs, r1, r2, rfl, ha, T⟩, hy⟩ := h
    have hu64 := hr.units
    refine ⟨_, pss_one (ps_ret (pe_and (pe_callB call_isi (by rfl) gI PyProof.Rows.boot_isinstance (pa_cons (pv 1) (pa_cons (pe_glob (v := V.ref CR) (by rfl) gC rfl) pa_nil)))
      (pe_and (pe_cmpR (op_eqD hu64) (pe_fld (pv 0) rfl) (pe_fld (pv 1) rfl) (nomark _)) (pe_one (pe_cmpR (op_eqD hu64) (pe_fld (pv 0) rfl) (pe_fld (pv 1) rfl) (nomark _)))))), ?_⟩
    rcases hy with ⟨kr2, ko2, ⟨b, dy, gs, q1, q2, rfl, hb, T2⟩, q⟩ | ⟨t, ts, rfl, ht, q⟩
    · refine ⟨V.ref b, rfl, V.ref b, .ref CR, .ref CR, .ref CR, true, rfl, .own CR, R.ty hb, R.k1, true, rfl, iteT ?_⟩
      refine ⟨V.ref a, rfl, a, CR, dx, _, _, rfl, ha, R.cl, R.n1, T.f1, V.ref b, rfl, b, CR, dy, _, _, rfl, hb, R.cl, R.n1, T2.f1, .tuple (kr.map kdD), .tuple (kr2.map kdD), kinds_dpT T.d1, kinds_dpT T2.d1, kds_shaped _, kds_shaped _, _, rfl, ?_⟩
      rw [eqv_kdT]
      refine ite2 (fun c => ?_) (fun c => ?_)
      · have cl : kr = kr2 := of_decide_eq_true c
        refine ⟨V.ref a, rfl, a, CR, dx, _, _, rfl, ha, R.cl, R.n2, T.f2, V.ref b, rfl, b, CR, dy, _, _, rfl, hb, R.cl, R.n2, T2.f2, .tuple (ko.map kdD), .tuple (ko2.map kdD), kinds_dpT T.d2, kinds_dpT T2.d2, kds_shaped _, kds_shaped _, ?_⟩
        rw [eqv_kdT]
        have z : decide (ko = ko2) = decide (kr = kr2 ∧ ko = ko2) := by
          rw [decide_eq_decide]
          exact ⟨fun h => ⟨cl, h⟩, fun h => h.2⟩
        rw [z]
        exact q
      · have z : decide (kr = kr2 ∧ ko = ko2) = false := decide_eq_false fun h => c (decide_eq_true h.1)
        rw [z] at q
        exact q
    · exact ⟨V.ref t, rfl, V.ref t, .ref CR, .type "tuple", .ref CR, false, rfl, .own CR, .base (.tup ht), R.kT, false, rfl, iteF q⟩
theorem ok_kind (F : Fun K "kind_of" "kind_of" (top 31) f fd) (R : TreeK K CT) (gM : mg "min" = none) (gN : mg "len" = none)
    (MR : Meth K CT "row" fR) (GR : FnOk P w K mg base (L2.CX P w) 3 fR fdR ["self", "place"] (spRowM K CT CN)) (bR : Binds K fdR ["self", "place"] [])
    (MB : Meth K CT "below" fB) (GB : FnOk P w K mg base (L2.CX P w) 3 fB fdB ["self", "place"] (spBel K CT CN)) (bB : Binds K fdB ["self", "place"] []) :
    FnOk P w K mg base (L2.CX P w) 4 f fd ["tree", "place"] (spKind K CT CN) := by
  have S0 : FnScope ["tree", "place", "_", "mark", "flag"] ["tree", "place"] (defScope (top 31)) := ⟨rfl, rfl, rfl, by decide +kernel, rfl, by decide +kernel, by decide +kernel⟩
  have nd := S0.nd
  refine F.okX S0 (fun vs H Q E h => ?_) (fun cdv A outer s H vs Q E hr h => ?_)
  · obtain ⟨x, v, d, ls, S, rfl, _⟩ := h
    rfl
  · obtain ⟨x, v, d, ls, S, rfl, hd, hT, g, k1, k2⟩ := h
    have hT0 := hT
    obtain ⟨a, dx, B, Tb, l, fs, kvs, kv2, xs, m, rfl, T⟩ := hT
    refine ⟨_, pss_cons (ps_asg (pe_meth (pv 0) R.cl MR GR hr bR .nil (passes_call (takes_of rfl rfl rfl rfl) (fun _ _ _ _ h => h)) (pa_cons (pv 1) pa_nil)) (pg_tup rfl (pgs_cons (pg_name (i := 2) nd rfl (Or.inl rfl)) (pgs_cons (pg_name (i := 3) nd rfl (Or.inl rfl)) (pgs_cons (pg_name (i := 4) nd rfl (Or.inl rfl)) pgs_nil)))))
      (pss_one (ps_ret (pe_tup (pa_cons (pv 3) (pa_cons (pv 4) (pa_cons (pe_callB (call_min2 rfl) (by rfl) gM PyProof.Rows.boot_min (pa_cons pe_int (pa_cons (pe_callB call_len_str (by rfl) gN PySem.boot_len (pa_cons (pe_meth (pv 0) R.cl MB GB hr bB .nil (passes_call (takes_of rfl rfl rfl rfl) (fun _ _ _ _ h => h)) (pa_cons (pv 1) pa_nil)) pa_nil)) pa_nil))) pa_nil)))))), ?_⟩
    refine ⟨V.ref a, rfl, a, dx, fs, rfl, T.ins, T.no _ (by simp only [six6]; decide), v, rfl, V.ref a, v, d, ls, S, rfl, hd, hT0, fun s0 hs0 e t ht => ?_, k2⟩
    refine ⟨t, _, rfl, .inl (.inl ht), rfl, _, _, rfl, _, _, rfl, _, _, rfl, rfl, ?_⟩
    have hp : s0.1 ∈ plc S := List.mem_map.mpr ⟨s0, hs0, rfl⟩
    have hb : hasD S (.str s0.1) = true := decide_eq_true hp
    refine ⟨.bl s0.2.1, rfl, .bl s0.2.2, rfl, V.ref a, rfl, a, dx, fs, rfl, T.ins, T.no _ (by simp only [six6]; decide), v, rfl, V.ref a, v, d, ls, S, rfl, hd, hT0, fun p hp2 e2 => ?_, fun z => ?_⟩
    · have ep : p = s0.1 := by
        rw [e] at e2
        injection e2 with e2
        exact e2.symm
      subst ep
      have hz := g.n
      have hbl := belL_len (plc S) s0.1
      have pl : (plc S).length = S.length := by
        unfold plc
        rw [List.length_map]
      have b2 : (2000 : Nat) ≤ sizeLine := by decide
      have el : (belS (plc S) s0.1).length = (belL (plc S) s0.1).length := by
        show (belL (plc S) s0.1).toArray.size = _
        simp
      refine ⟨belS (plc S) s0.1, rfl, by omega, 2, ((belS (plc S) s0.1).length : Nat), rfl, (by show 3 ≤ sizeLine; decide), fun r nr => ?_⟩
      refine k1 s0 hs0 e _ r (upd_new nr) ?_
      have ek : (if (((belS (plc S) s0.1).length : Nat) : Int) < 2 then (((belS (plc S) s0.1).length : Nat) : Int) else 2) = (kdS S s0).2.2 := by
        rw [el]
        show _ = ((min 2 (belL (plc S) s0.1).length : Nat) : Int)
        split <;> omega
      show upd H r (.tup [.bl s0.2.1, .bl s0.2.2, .int _]) r = some (.tup (kdV (kdS S s0)))
      rw [upd_same, ek]
      rfl
    · rw [e, hb] at z
      cases z
theorem ok_brk (F : Fun K "broken_at" "Rule.broken_at" (rm 3) f fd) (R : RuleK K CR) (RT : TreeK K CT)
    (gK : mg "kind_of" = some (.ref fK)) (kK : PySem.W.keepIn K (.ref fK) = true) (GK : FnOk P w K mg base (L2.CX P w) 4 fK fdK ["tree", "place"] (spKind K CT CN)) (bK : Binds K fdK ["tree", "place"] []) :
    FnOk P w K mg base (L2.CX P w) 5 f fd ["self", "tree"] (spBrk K CT CR) := by
  have S0 : FnScope ["self", "tree", "row", "place", "kinds"] ["self", "tree"] (defScope (rm 3)) := ⟨rfl, rfl, rfl, by decide +kernel, rfl, by decide +kernel, by decide +kernel⟩
  have nd := S0.nd
  refine F.okX S0 (fun vs H Q E h => ?_) (fun cdv A outer s H vs Q E hr h => ?_)
  · obtain ⟨x, t, kr, ko, ls, S, rfl, _⟩ := h
    rfl
  · obtain ⟨x, t, kr, ko, ls, S, rfl, hR, hT, g, kk⟩ := h
    have hu64 := hr.units
    have hT0 := hT
    have hR0 := hR
    obtain ⟨a, dx, fs, r1, r2, rfl, ha, TR⟩ := hR
    obtain ⟨ta, dt, B, Tb, l, fs2, kvs, kv2, xs, m, rfl, T⟩ := hT
    refine ⟨_, pss_cons (ps_for (passes_of rfl) rfl (pi_tup (pe_fld (pv 1) rfl)) (pg_name (i := 2) nd rfl (Or.inl rfl))
        (pss_cons (ps_set (i := 3) nd rfl (Or.inl rfl) (pe_ix (r := rIxT K) ix_tup (pv 2) pe_int (fun _ _ => rfl)))
        (pss_cons (ps_set (i := 4) nd rfl (Or.inl rfl) (pe_ifExp (pt_cmpR op_eq (pv 3) pe_str (nomark _)) (pe_fld (pv 0) rfl) (pe_fld (pv 0) rfl)))
        (pss_one (ps_if (pt_cmpR (r := rInD K true) (op_notInD hu64) (pe_call GK (hr.mono (by decide)) (by rfl) gK kK bK .nil (passes_call (takes_of rfl rfl rfl rfl) (fun _ _ _ _ h => h)) (pa_cons (pv 1) (pa_cons (pv 3) pa_nil))) (pv 4) (by rfl)) (pss_one (ps_ret (pv 3))) pss_nil)))))
      (pss_one (ps_ret pe_non)), ?_⟩
    have hxl : xs.length = S.length := by
      have z := deAll_len T.r2
      rwa [List.length_map] at z
    refine ⟨V.ref ta, rfl, ta, CT, dt, _, _, rfl, T.ins, RT.cl, RT.na _ (by simp [six6]), T.f3, l, rfl, ⟨_, .inl (.inl T.r1)⟩, for_it (walk_tup (K := K) (xs := xs)) (fun i σ G => ∃ (x2 x3 x4 : Option V), σ = [some (.ref a), some (.ref ta), x2, x3, x4] ∧ Same H G ∧ ∀ s0 ∈ S.take i, brkB kr ko S s0 = false)
      ⟨none, none, none, rfl, Same.refl _, fun s0 h => absurd h (by simp)⟩ (fun i σ G _ q => ?_) ?_ ?_⟩
    · obtain ⟨_, _, _, _, sG, _⟩ := q
      exact .inl (.inl (sG _ _ T.r1))
    · rintro i v σ G G' hi ⟨x2, x3, x4, rfl, sG, hj⟩ ⟨rfl, hv⟩
      obtain ⟨s0, hs0⟩ : ∃ s0, S[i]? = some s0 := ⟨_, List.getElem?_eq_getElem (by omega)⟩
      have hm0 : s0 ∈ S := List.mem_of_getElem? hs0
      obtain ⟨d, hd, hde⟩ := deAll_at T.r2 hv
      rw [List.getElem?_map, hs0] at hd
      obtain rfl := Option.some.inj hd
      obtain ⟨t, rfl, ht⟩ := de_row (s := s0) hde
      have tk : S.take (i + 1) = S.take i ++ [s0] := take_snoc hs0
      have hT' : TreeF K CT G' (.ref ta) ls S := hT0.kx g.root (Kx.of sG)
      refine ⟨V.ref t, rfl, t, _, 0, .str s0.1, rfl, rfl, .inl (.inl (sG _ _ ht)), rfl, V.str s0.1, rfl, rfl, _, rfl, ?_⟩
      by_cases c : s0.1 = Str.ofString ""
      · rw [decide_eq_true (show V.str s0.1 = V.str (Str.ofString "") by rw [c])]
        refine iteT ⟨V.ref a, rfl, a, CR, dx, _, _, rfl, sG _ _ ha, R.cl, R.n1, TR.f1, ?_⟩
        refine ⟨V.ref ta, rfl, V.str s0.1, rfl, .ref ta, .str s0.1, .str s0.1, ls, S, rfl, .str _, hT', g, fun s1 hs1 e1 G2 q s2 hq => ?_, fun z => ?_⟩
        · have es : s1 = s0 := uniq g.nd hs1 hm0 (by injection e1 with e1; exact e1.symm)
          subst es
          obtain ⟨zs, z1, z2⟩ := kinds_tup (de_mono (sG.trans s2) _ _ TR.d1)
          refine ⟨V.ref r1, rfl, r1, zs, kr.map kdD, kdD (kdS S s1), rfl, .inr (.inl (.inl z1)), kinds_dp z2, hq.dp, (kd_lay _).1, kds_lay _, Nat.le_trans (kd_lay _).2 (by decide), _, rfl, ?_⟩
          rw [if_pos rfl, kds_any]
          have eb : brkB kr ko S s1 = !decide (kdS S s1 ∈ kr) := by
            unfold brkB
            rw [if_pos c]
          rw [← eb]
          cases ebb : brkB kr ko S s1 with
          | true =>
            refine iteT ⟨V.str s1.1, rfl, ?_⟩
            have z := find_at hs0 ebb hj
            have q := kk G2 (sG.trans s2)
            unfold brk at q
            rw [z] at q
            exact q
          | false =>
            refine iteF ⟨_, _, _, rfl, sG.trans s2, fun u h => ?_⟩
            rw [tk] at h
            rcases List.mem_append.mp h with h | h
            · exact hj _ h
            · rw [List.mem_singleton.mp h]
              exact ebb
        · rw [show hasD S (.str s0.1) = true from decide_eq_true (List.mem_map.mpr ⟨s0, hm0, rfl⟩)] at z
          cases z
      · rw [decide_eq_false (fun z : V.str s0.1 = V.str (Str.ofString "") => c (V.str.inj z))]
        refine iteF ⟨V.ref a, rfl, a, CR, dx, _, _, rfl, sG _ _ ha, R.cl, R.n2, TR.f2, ?_⟩
        refine ⟨V.ref ta, rfl, V.str s0.1, rfl, .ref ta, .str s0.1, .str s0.1, ls, S, rfl, .str _, hT', g, fun s1 hs1 e1 G2 q s2 hq => ?_, fun z => ?_⟩
        · have es : s1 = s0 := uniq g.nd hs1 hm0 (by injection e1 with e1; exact e1.symm)
          subst es
          obtain ⟨zs, z1, z2⟩ := kinds_tup (de_mono (sG.trans s2) _ _ TR.d2)
          refine ⟨V.ref r2, rfl, r2, zs, ko.map kdD, kdD (kdS S s1), rfl, .inr (.inl (.inl z1)), kinds_dp z2, hq.dp, (kd_lay _).1, kds_lay _, Nat.le_trans (kd_lay _).2 (by decide), _, rfl, ?_⟩
          rw [if_pos rfl, kds_any]
          have eb : brkB kr ko S s1 = !decide (kdS S s1 ∈ ko) := by
            unfold brkB
            rw [if_neg c]
          rw [← eb]
          cases ebb : brkB kr ko S s1 with
          | true =>
            refine iteT ⟨V.str s1.1, rfl, ?_⟩
            have z := find_at hs0 ebb hj
            have q := kk G2 (sG.trans s2)
            unfold brk at q
            rw [z] at q
            exact q
          | false =>
            refine iteF ⟨_, _, _, rfl, sG.trans s2, fun u h => ?_⟩
            rw [tk] at h
            rcases List.mem_append.mp h with h | h
            · exact hj _ h
            · rw [List.mem_singleton.mp h]
              exact ebb
        · rw [show hasD S (.str s0.1) = true from decide_eq_true (List.mem_map.mpr ⟨s0, hm0, rfl⟩)] at z
          cases z
    · rintro σ G ⟨x2, x3, x4, rfl, sG, hj⟩
      rw [hxl, List.take_length] at hj
      have z : S.find? (brkB kr ko S) = none := List.find?_eq_none.mpr fun s0 hs0 => by rw [hj s0 hs0]; exact Bool.false_ne_true
      have q := kk G sG
      unfold brk at q
      rw [z] at q
      exact q
theorem ok_keeps (F : Fun K "keeps" "Rule.keeps" (rm 2) f fd) (R : RuleK K CR) (M : Meth K CR "broken_at" fBr) (GB : FnOk P w K mg base (L2.CX P w) 5 fBr fdBr ["self", "tree"] (spBrk K CT CR)) (bB : Binds K fdBr ["self", "tree"] []) :
    FnOk P w K mg base (L2.CX P w) 6 f fd ["self", "tree"] (spKeeps K CT CR) := by
  have S0 : FnScope ["self", "tree"] ["self", "tree"] (defScope (rm 2)) := ⟨rfl, rfl, rfl, by decide +kernel, rfl, by decide +kernel, by decide +kernel⟩
  refine F.okX S0 (fun vs H Q E h => ?_) (fun cdv A outer s H vs Q E hr h => ?_)
  · obtain ⟨x, t, kr, ko, ls, S, rfl, _⟩ := h
    rfl
  · obtain ⟨x, t, kr, ko, ls, S, rfl, hR, hT, g, kk⟩ := h
    have hR0 := hR
    obtain ⟨a, dx, fs, r1, r2, rfl, ha, TR⟩ := hR
    refine ⟨_, pss_one (ps_ret (pe_cmpR op_isN (pe_meth (pv 0) R.cl M GB hr bB .nil (passes_call (takes_of rfl rfl rfl rfl) (fun _ _ _ _ h => h)) (pa_cons (pv 1) pa_nil)) pe_non (nomark _))), ?_⟩
    refine ⟨V.ref a, rfl, a, dx, fs, rfl, ha, TR.no _ (by decide) (by decide), t, rfl, .ref a, t, kr, ko, ls, S, rfl, hR0, hT, g, fun H' s' => ⟨rfl, ?_⟩⟩
    have q := kk H' s'
    cases e : brk kr ko S with
    | none =>
      rw [e] at q
      exact q
    | some p =>
      rw [e] at q
      exact q
end
end SK
namespace SK
open PySem PySem.Spec PyProof.Rows L2 LamX NdefX
open K0 (De DeAll XCl spX withX)
/-! ### a list comprehension of three clauses -/
abbrev FFx : Value → Shared → Prop := fun _ _ => False
/-- a turn of a clause that has one behind it -/
def outT (e : Expr) (j : Nat) (tg src nxt : Expr) (fs : List Expr) (it acc : Value) (env : Env) : Sem Fin := do
  standAt src.pos
  match ← pyNext it with
  | none => pure (.done .next)
  | some u =>
    letOwnedTupleGo tg it u
    assign tg env u
    let mut good := true
    for c in fs do
      if good then good ← isTrue c env (eval c env)
    if good then
      let y ← eval nxt env
      standAt nxt.pos
      let y ← foldedSetIterable nxt env y
      let _ ← runOwn (.compStart e (j + 1) (← holding [y] (pyIter y)) acc env) env
    again (.compLoop e j it acc env)
/-- a turn of the last clause -/
def inT (e elt : Expr) (j : Nat) (tg src : Expr) (fs : List Expr) (it acc : Value) (env : Env) : Sem Fin := do
  standAt src.pos
  match ← pyNext it with
  | none => pure (.done .next)
  | some u =>
    letOwnedTupleGo tg it u
    assign tg env u
    let mut good := true
    for c in fs do
      if good then good ← isTrue c env (eval c env)
    if good then
      (do let _ ← call (.builtin "list.append") [acc, ← eval elt env])
    again (.compLoop e j it acc env)
abbrev Cm3 (elt ta ia tb ib tc ic : Expr) (fa fb fc : List Expr) (scope : Scope) (pos : Pos) : Expr := .ListComp elt [⟨ta, ia, fa, 0⟩, ⟨tb, ib, fb, 0⟩, ⟨tc, ic, fc, 0⟩] scope pos
def testsOf (fs : List Expr) (env : Env) : Sem Bool := forIn fs true fun c r => if r = true then do let ok ← isTrue c env (eval c env); pure (ForInStep.yield ok) else pure (ForInStep.yield r)
def TurnW (P : Program) (w : World) (A : Around) (env : Env) (tg : Expr) (fs : List Expr) (it : Value) (St In Sk : Shared → Prop) (s : Shared) : Prop :=
  wpAny (model P w) A (pyNext it) (fun r s1 => match r with
    | none => St s1
    | some v => wpAny (model P w) A (letOwnedTupleGo tg it v) (fun _ s2 => wpAny (model P w) A (assign tg env v) (fun _ s3 => wpAny (model P w) A (testsOf fs env) (fun b s4 => if b = true then In s4 else Sk s4) FFx s3) FFx s2) FFx s1) FFx s
def OkThen (Kp : Shared → Prop) (r : Result) (s' : Shared) : Prop := match r with
  | .ok _ => Kp s'
  | .error _ => False
def InOut (P : Program) (w : World) (A : Around) (env : Env) (nxt e : Expr) (j : Nat) (acc : Value) (Kp : Shared → Prop) (s4 : Shared) : Prop :=
  wpAny (model P w) A (eval nxt env) (fun x s5 => wpAny (model P w) A (pyIter x) (fun it1 s6 => codeAny (model P w) A (.compStart e j it1 acc env) (OkThen Kp) s6) FFx s5) FFx s4
def InEl (P : Program) (w : World) (A : Around) (env : Env) (elt : Expr) (acc : Value) (Kp : Shared → Prop) (s4 : Shared) : Prop :=
  wpAny (model P w) A (eval elt env) (fun x s5 => wpAny (model P w) A (call (.builtin "list.append") [acc, x]) (fun _ s6 => Kp s6) FFx s5) FFx s4
section
variable {P : Program} {w : World} {A : Around} {R : Result → Shared → Prop} {s : Shared} {elt ta ia tb ib tc ic tg src nxt : Expr} {fa fb fc fs : List Expr} {scope : Scope} {pos : Pos} {it acc : Value} {env : Env} {j : Nat}
theorem turn3_0 : compTurn (Cm3 elt ta ia tb ib tc ic fa fb fc scope pos) 0 it acc env = outT (Cm3 elt ta ia tb ib tc ic fa fb fc scope pos) 0 ta ia ib fa it acc env := by rfl
theorem turn3_1 : compTurn (Cm3 elt ta ia tb ib tc ic fa fb fc scope pos) 1 it acc env = outT (Cm3 elt ta ia tb ib tc ic fa fb fc scope pos) 1 tb ib ic fb it acc env := by rfl
theorem turn3_2 : compTurn (Cm3 elt ta ia tb ib tc ic fa fb fc scope pos) 2 it acc env = inT (Cm3 elt ta ia tb ib tc ic fa fb fc scope pos) elt 2 tc ic fc it acc env := by rfl
theorem loop_out (hT : compTurn (Cm3 elt ta ia tb ib tc ic fa fb fc scope pos) j it acc env = outT (Cm3 elt ta ia tb ib tc ic fa fb fc scope pos) j tg src nxt fs it acc env) (hs : ∀ x, foldedSetIterable nxt env x = pure x) (I : Nat → Shared → Prop)
    (turn : ∀ n s, I n s → TurnW P w A env tg fs it (fun s1 => R (.ok .next) s1)
      (InOut P w A env nxt (Cm3 elt ta ia tb ib tc ic fa fb fc scope pos) (j + 1) acc fun s' => ∃ m, m < n ∧ I m s') (fun s4 => ∃ m, m < n ∧ I m s4) s) (n : Nat) (h : I n s) : codeAny (model P w) A (.compLoop (Cm3 elt ta ia tb ib tc ic fa fb fc scope pos) j it acc env) R s := by
  refine codeAny_loop rfl I (fun n s hI => ?_) n h
  show wpAny _ A ((compTurn (Cm3 elt ta ia tb ib tc ic fa fb fc scope pos) j it acc env).onRaise (fun x => do noteFrame x env; theTreesLotGoes x)) _ _ s
  refine wpAny_noted ?_
  rw [hT]
  unfold outT
  refine wpAny_bind (wpAny_standAt (wpAny_bind (wpAny_mono (turn n s hI) (fun r s1 g1 => ?_) fun _ _ z => z.elim)))
  cases r with
  | none => exact wpAny_pure g1
  | some v =>
    refine wpAny_bind (wpAny_mono g1 (fun _ s2 g2 => ?_) fun _ _ z => z.elim)
    refine wpAny_bind (wpAny_mono g2 (fun _ s3 g3 => wpAny_bind (wpAny_mono g3 (fun ok s4 g4 => ?_) fun _ _ z => z.elim)) fun _ _ z => z.elim)
    cases ok with
    | false => exact wpAny_pure ⟨rfl, g4⟩
    | true =>
      refine wpAny_bind (wpAny_mono g4 (fun x s5 g5 => ?_) fun _ _ z => z.elim)
      refine wpAny_bind (wpAny_standAt (wpAny_bind (wpAny_of_eq (hs x) (wpAny_bind (wpAny_holding (wpAny_mono g5 (fun it1 s6 g6 => ?_) fun _ _ z => z.elim))))))
      refine wpAny_bind (wpAny_runOwn ?_)
      rw [Around.mark_none]
      refine codeAny_mono g6 fun r s' hr => ?_
      cases r with
      | ok f =>
        first
          | exact wpAny_pure ⟨rfl, hr⟩
          | exact wpAny_bind (wpAny_pure (wpAny_pure ⟨rfl, hr⟩))
      | error x => exact hr.elim
theorem loop_in (hT : compTurn (Cm3 elt ta ia tb ib tc ic fa fb fc scope pos) j it acc env = inT (Cm3 elt ta ia tb ib tc ic fa fb fc scope pos) elt j tg src fs it acc env) (I : Nat → Shared → Prop)
    (turn : ∀ n s, I n s → TurnW P w A env tg fs it (fun s1 => R (.ok .next) s1)
      (InEl P w A env elt acc fun s' => ∃ m, m < n ∧ I m s') (fun s4 => ∃ m, m < n ∧ I m s4) s) (n : Nat) (h : I n s) : codeAny (model P w) A (.compLoop (Cm3 elt ta ia tb ib tc ic fa fb fc scope pos) j it acc env) R s := by
  refine codeAny_loop rfl I (fun n s hI => ?_) n h
  show wpAny _ A ((compTurn (Cm3 elt ta ia tb ib tc ic fa fb fc scope pos) j it acc env).onRaise (fun x => do noteFrame x env; theTreesLotGoes x)) _ _ s
  refine wpAny_noted ?_
  rw [hT]
  unfold inT
  refine wpAny_bind (wpAny_standAt (wpAny_bind (wpAny_mono (turn n s hI) (fun r s1 g1 => ?_) fun _ _ z => z.elim)))
  cases r with
  | none => exact wpAny_pure g1
  | some v =>
    refine wpAny_bind (wpAny_mono g1 (fun _ s2 g2 => ?_) fun _ _ z => z.elim)
    refine wpAny_bind (wpAny_mono g2 (fun _ s3 g3 => wpAny_bind (wpAny_mono g3 (fun ok s4 g4 => ?_) fun _ _ z => z.elim)) fun _ _ z => z.elim)
    cases ok with
    | false => exact wpAny_pure ⟨rfl, g4⟩
    | true => exact wpAny_bind (wpAny_bind (wpAny_mono g4 (fun x s5 g5 => wpAny_bind (wpAny_mono g5 (fun _ s6 g6 => wpAny_pure (wpAny_pure ⟨rfl, g6⟩)) fun _ _ z => z.elim)) fun _ _ z => z.elim))
/-- a later clause's start -/
theorem start_of {i : Expr} {g : List Expr} {tq : Expr} (hg : (clausesOf (Cm3 elt ta ia tb ib tc ic fa fb fc scope pos))[j]? = some ⟨tq, i, g, 0⟩) (h0 : codeAny (model P w) A (.compLoop (Cm3 elt ta ia tb ib tc ic fa fb fc scope pos) j it acc env) R s)
    (h : wpAny (model P w) A (pyIter it) (fun it' s' => codeAny (model P w) A (.compLoop (Cm3 elt ta ia tb ib tc ic fa fb fc scope pos) j it' acc env) R s') FFx s) : codeAny (model P w) A (.compStart (Cm3 elt ta ia tb ib tc ic fa fb fc scope pos) j it acc env) R s := by
  refine codeAny_of_tree ?_
  show wpAny _ _ ((compStart (Cm3 elt ta ia tb ib tc ic fa fb fc scope pos) j it acc env).onRaise (fun x => do noteFrame x env; standAt theWindowsPlace)) _ _ s
  refine wpAny_notedAt ?_
  unfold compStart
  rw [hg]
  show wpAny _ _ (ask >>= _) _ _ s
  refine wpAny_bind (wpAny_askSetting (wpAny_ite ?_))
  split
  · first
      | exact wpAny_bind (wpAny_pure (wpAny_pure (And.intro rfl h0)))
      | exact wpAny_pure (And.intro rfl h0)
  · first
      | exact wpAny_bind (wpAny_rule (wpAny_bind (wpAny_standAt (wpAny_bind (wpAny_mono h (fun it' s' h' => wpAny_pure (And.intro rfl h')) fun _ _ z => z.elim)))))
      | (refine wpAny_bind (wpAny_rule ?_); show wpAny _ _ (standAt i.pos >>= _) _ _ s; exact wpAny_bind (wpAny_standAt (wpAny_bind (wpAny_mono h (fun it' s' h' => wpAny_pure (And.intro rfl h')) fun _ _ z => z.elim))))
end
/-- the turns of one clause: B what is within, Fin what is behind them -/
def tCl (J : It) (g : TG) (tt : TT) (σ0 : St) (vs : List Nat) (B : St → Hp → (Hp → Prop) → Prop) (Fin : Hp → Prop) (H0 : Hp) : Prop := ∃ W : Nat → Nat → Hp → Prop, (∃ m, W 0 m H0) ∧ ∀ i n H, W i n H →
  (J.stop i H ∧ Fin H) ∨ (J.go i H ∧ ∃ Nx : Hp → Prop, (∀ H', Nx H' → ∃ m', m' < n ∧ W (i + 1) m' H') ∧ ∀ x H', J.yld i H x H' → g x σ0 H' fun σ2 H2 => wipe σ2 vs = σ0 ∧ tt σ2 H2 fun b H3 => if b = true then B σ2 H3 Nx else Nx H3)
/-- τ knows what σ knows outside vs -/
def Knows (vs : List Nat) (σ τ : St) : Prop := τ.length = σ.length ∧ ∀ (j : Nat) v, j ∉ vs → σ[j]? = some (some v) → τ[j]? = some (some v)
theorem clause_go {Y : Cx} {pins : List (Addr × Obj)} {tg : Expr} {fs : List Expr} {J : It} {fp : List Addr} {it : Addr} {tn : Nat → Heap → Prop} {g : TG} {tt : TT} {σ0 : St} {vs : List Nat} {B : St → Hp → (Hp → Prop) → Prop} {Fin : Hp → Prop} {H0 : Hp} {s : Shared} {code : Code} {R : Result → Shared → Prop} {In : (Shared → Prop) → Shared → Prop}
    (hc : Y.calm = true) (hxe : Y.xe = fun _ _ => False) (T : Turn Y.prog Y.w Y.K tg J fp it tn) (pg : PG Y tg g) (pt : PTs Y fs tt)
    (hL : ∀ I : Nat → Shared → Prop, (∀ n s, I n s → TurnW Y.prog Y.w Y.A Y.env tg fs (.ref it) (fun s1 => R (.ok .next) s1) (In fun s' => ∃ m, m < n ∧ I m s') (fun s4 => ∃ m, m < n ∧ I m s4) s) → ∀ n s, I n s → codeAny (model Y.prog Y.w) Y.A code R s)
    (hf : ∀ {H : Hp}, (∀ b ∈ fp, H b = none) → ∀ b ∈ fp, FpOk Y pins H b) (h : tCl J g tt σ0 vs B Fin H0)
    (hIn : ∀ (pins' : List (Addr × Obj)) (σ2 : St) (H3 : Hp) (s4 : Shared) (Nx : Hp → Prop) (Kp : Shared → Prop), Inv Y pins' σ2 H3 s4 → B σ2 H3 Nx → (∀ τ H' s', Inv Y pins' τ H' s' → Knows vs σ2 τ → Nx H' → Kp s') → In Kp s4)
    (hfin : ∀ s' H', Inv Y pins σ0 H' s' → Fin H' → R (.ok .next) s') (I0 : Inv Y pins σ0 H0 s) (st : tn 0 s.heap) (n0 : ∀ b ∈ fp, H0 b = none) : codeAny (model Y.prog Y.w) Y.A code R s := by
  obtain ⟨W, ⟨m0, w0⟩, turn⟩ := h
  refine hL (fun n s' => ∃ i H', Inv Y pins σ0 H' s' ∧ tn i s'.heap ∧ (∀ b ∈ fp, H' b = none) ∧ W i n H') ?_ m0 s ⟨0, H0, I0, st, n0, w0⟩
  rintro n s5 ⟨i, H5, I5, st5, n5, w5⟩
  rcases turn i n H5 w5 with ⟨stop, qq⟩ | ⟨go, Nx, hNx, step⟩
  · refine thnF (T.done Y rfl rfl rfl hc i pins s5 σ0 H5 (fun _ _ => False) I5 (hf n5) st5 stop) fun r s6 q => ?_
    obtain ⟨hr, I6⟩ := q
    subst hr
    exact hfin s6 H5 I6 qq
  · refine thnF (T.item Y rfl rfl rfl hc i pins s5 σ0 H5 (fun _ _ => False) I5 (hf n5) st5 go) fun r s6 q => ?_
    obtain ⟨u, hr, h6⟩ := q
    subst hr
    refine thnF h6 fun _ s7 q => ?_
    obtain ⟨x, H7, I7, r7, y7, st7, n7⟩ := q
    have I7p := I7.pinned (hf n7) (T.obj _ _ st7)
    have g7 := pg.run _ s7 σ0 H7 x u _ I7p r7 (step x H7 y7)
    rw [hxe] at g7
    refine thnF g7 fun _ s8 q => ?_
    obtain ⟨σ8, H8, I8, hw8, q8⟩ := q
    have g8 := pt.run _ s8 σ8 H8 _ I8 q8
    rw [hxe] at g8
    refine thnF g8 fun b s9 q => ?_
    obtain ⟨H9, I9, q9⟩ := q
    -- back at the clause's head
    have back : ∀ (τ : St) (H' : Hp) (s' : Shared), Inv Y (pins ++ pinsAt fp s7.heap) τ H' s' → Knows vs σ8 τ → Nx H' → ∃ m, m < n ∧ ∃ i H', Inv Y pins σ0 H' s' ∧ tn i s'.heap ∧ (∀ b ∈ fp, H' b = none) ∧ W i m H' := fun τ H' s' I' kn nx => by
      obtain ⟨m', hm, w'⟩ := hNx H' nx
      have pin' : ∀ b ∈ fp, ∀ o, s7.heap.get? b = some o → s'.heap.get? b = some o ∧ H' b = none := fun b hb o eo => by
        have z := I'.pin (b, o) (List.mem_append_right _ (List.mem_append_right _ (mem_pinsAt hb eo)))
        exact ⟨z.1, z.2.1⟩
      refine ⟨m', hm, i + 1, H', I'.unpinned.weak ?_ (fun j v ej => ?_), T.keep _ _ _ st7 fun b hb o eo => (pin' b hb o eo).1, fun b hb => ?_, w'⟩
      · rw [kn.1, ← hw8, wipe_length]
      · rw [← hw8] at ej
        obtain ⟨e1, e2⟩ := wipe_some ej
        exact kn.2 j v e2 e1
      · obtain ⟨o, eo, _⟩ := T.obj _ _ st7 b hb
        exact (pin' b hb o eo).2
    cases b with
    | false =>
      simp only [Bool.false_eq_true, if_false] at q9 ⊢
      exact back σ8 H9 s9 I9 ⟨rfl, fun _ _ _ z => z⟩ q9
    | true =>
      simp only [if_true] at q9 ⊢
      exact hIn _ σ8 H9 s9 Nx _ I9 q9 back
theorem Knows.sub {vs vs1 : List Nat} {σ τ : St} (hv : ∀ i ∈ vs1, i ∈ vs) (e : τ = wipe σ vs1) : Knows vs σ τ := by
  subst e
  refine ⟨wipe_length σ vs1, fun j v hj h => ?_⟩
  rw [wipe_out fun z => hj (hv j z)]
  exact h
/-- [elt for a in A for b in B for c in C] -/
def tLc3 (wi : TI) (ga : TG) (tta : TT) (wi1 : TI) (gb : TG) (ttb : TT) (wi2 : TI) (gc : TG) (ttc : TT) (te : TE) (vs vs1 vs2 : List Nat) : TE := fun σ H Q => wi σ H fun J H1 => ∀ D, H1 D = none →
  tCl J ga tta (wipe σ vs) vs (fun σ2 H3 Nx => wi1 σ2 H3 fun J1 H4 => tCl J1 gb ttb (wipe σ2 vs1) vs1 (fun σ3 H5 Nx1 => wi2 σ3 H5 fun J2 H6 => tCl J2 gc ttc (wipe σ3 vs2) vs2
    (fun σ4 H7 Nx2 => te σ4 H7 fun y H8 => ∃ acc, H8 D = some (.lst acc) ∧ acc.length < sizeLine ∧ Nx2 (upd H8 D (.lst (acc ++ [y])))) Nx1 H6) Nx H4) (Q (.ref D)) (upd H1 D (.lst []))
section
variable {X : Cx}
theorem pe_lc3 {elt ta ia tb ib tc ic : Expr} {fa fb fc : List Expr} {scope : Scope} {own : List (Str × Nat)} {vs1 vs2 : List Nat} {pos : Pos} {wi wi1 wi2 : TI} {ga gb gc : TG} {tta ttb ttc : TT} {te : TE} (hc : X.calm = true) (hN : X.N.Nodup) (hi : PI X ta ia wi) (ok : BlkOk X.N X.env.scope scope own) (hv1 : ∀ i ∈ vs1, i ∈ own.map (·.2)) (hv2 : ∀ i ∈ vs2, i ∈ vs1)
    (hga : ∀ (s : Shared) (H : Hp) (C : Addr) (cl : List (Str × Addr)) (fp : List Addr), PG (X.blk s H scope (compEnvC scope cl C X.env) fp) ta ga) (hta : ∀ (s : Shared) (H : Hp) (C : Addr) (cl : List (Str × Addr)) (fp : List Addr), PTs (X.blk s H scope (compEnvC scope cl C X.env) fp) fa tta)
    (hib : ∀ (s : Shared) (H : Hp) (C : Addr) (cl : List (Str × Addr)) (fp : List Addr), PI (X.blk s H scope (compEnvC scope cl C X.env) fp) tb ib wi1) (hgb : ∀ (s : Shared) (H : Hp) (C : Addr) (cl : List (Str × Addr)) (fp : List Addr), PG (X.blk s H scope (compEnvC scope cl C X.env) fp) tb gb)
    (htb : ∀ (s : Shared) (H : Hp) (C : Addr) (cl : List (Str × Addr)) (fp : List Addr), PTs (X.blk s H scope (compEnvC scope cl C X.env) fp) fb ttb)
    (hic : ∀ (s : Shared) (H : Hp) (C : Addr) (cl : List (Str × Addr)) (fp : List Addr), PI (X.blk s H scope (compEnvC scope cl C X.env) fp) tc ic wi2) (hgc : ∀ (s : Shared) (H : Hp) (C : Addr) (cl : List (Str × Addr)) (fp : List Addr), PG (X.blk s H scope (compEnvC scope cl C X.env) fp) tc gc)
    (htc : ∀ (s : Shared) (H : Hp) (C : Addr) (cl : List (Str × Addr)) (fp : List Addr), PTs (X.blk s H scope (compEnvC scope cl C X.env) fp) fc ttc) (he : ∀ (s : Shared) (H : Hp) (C : Addr) (cl : List (Str × Addr)) (fp : List Addr), PE (X.blk s H scope (compEnvC scope cl C X.env) fp) elt te)
    (hsa : ∀ x, foldedSetIterable ia X.env x = pure x := by intro _; rfl) (hsb : ∀ env x, foldedSetIterable ib env x = pure x := by intro _ _; rfl) (hsc : ∀ env x, foldedSetIterable ic env x = pure x := by intro _ _; rfl) :
    PE X (.ListComp elt [⟨ta, ia, fa, 0⟩, ⟨tb, ib, fb, 0⟩, ⟨tc, ic, fc, 0⟩] scope pos) (tLc3 wi ga tta wi1 gb ttb wi2 gc ttc te (own.map (·.2)) vs1 vs2) := by
  refine ⟨fun pins s σ H Q I h => ?_⟩
  rw [eval_ListComp]
  have hfree : ∀ y ∈ scope.names, y.2 = .free → ∃ c, X.env.cells.lookup y.1 = some c := fun y hy ey => (ok.free y hy ey).elim (fun k => I.ok.has _ (.inl k)) fun k => I.ok.has _ (.inr k)
  refine wpAny_comprehension_free (use := none) rfl hsa (closure_ok hfree) ok.kind (fun y hy ey => by rw [ok.uniq y hy, ey])
    (thn (hi.run pins s σ H _ I h) fun xv s1 hx => thn hx fun itv s2 h2 => ?_)
  obtain ⟨it, fp, tn, J, H2, eit, I2, T, st2, f2, q⟩ := h2
  subst eit
  refine wpAny_newObj_type (newEnv_comp ?_) (by show 0 ≤ sizeLine; decide)
  generalize hD : s2.heap.objs.size = D
  have q := q D (I2.hok.fresh (Nat.le_of_eq hD))
  generalize hs3 : ({ s2 with heap := s2.heap.push { cls := .type "list", data := .seq ([] : List Value).toArray } } : Shared) = s3
  have I3 : Inv X pins σ (upd H2 D (.lst [])) s3 := by
    subst hs3
    refine I2.laid (t' := s2.toks) (fun b o eo => Heap.get?_push_of_some _ eo) (Nat.le_of_eq hD) ⟨Nat.zero_le _, [], 0, .nil, ?_⟩
    subst hD
    exact Heap.get?_push_size _ rfl
  have e3 : s3.heap = s2.heap.push { cls := .type "list", data := .seq ([] : List Value).toArray } := by subst hs3; rfl
  have f3 : ∀ b ∈ fp, FpOk X pins (upd H2 D (.lst [])) b ∧ b < s3.heap.objs.size := fun b hb => by
    obtain ⟨o, eo, _⟩ := T.obj _ _ st2 b hb
    have hlt := Heap.lt_size eo
    have hbD : b ≠ D := by
      rw [← hD]
      exact Nat.ne_of_lt hlt
    refine ⟨⟨?_, (f2 b hb).2⟩, ?_⟩
    · rw [upd_ne hbD]
      exact (f2 b hb).1
    · rw [e3, Heap.size_push]
      exact Nat.lt_succ_of_lt hlt
  have st3 : tn 0 s3.heap := T.keep _ _ _ st2 fun b _ o eo => by rw [e3]; exact Heap.get?_push_of_some _ eo
  have I4 := block_start I3 ok hN f3
  generalize hH3 : upd H2 D (.lst []) = H3 at I3 I4 f3 q
  show codeAny _ _ (.compStart (Cm3 elt ta ia tb ib tc ic fa fb fc scope pos) 0 (.ref it) (.ref D) (compEnvC scope (cellsFrom (s3.heap.objs.size + 1) scope.names (cloFrom X.env.cells scope.names [])) s3.heap.objs.size X.env)) (compPost (model X.prog X.w) X.A X.xe none (EP X pins σ Q) (.ref D) s3.heap.objs.size) { s3 with heap := pushCells (s3.heap.push { cls := .type "dict", data := .dict #[] }) scope.names }
  have pga := hga s3 H3 s3.heap.objs.size (cellsFrom (s3.heap.objs.size + 1) scope.names (cloFrom X.env.cells scope.names [])) fp
  have pta := hta s3 H3 s3.heap.objs.size (cellsFrom (s3.heap.objs.size + 1) scope.names (cloFrom X.env.cells scope.names [])) fp
  have pib := hib s3 H3 s3.heap.objs.size (cellsFrom (s3.heap.objs.size + 1) scope.names (cloFrom X.env.cells scope.names [])) fp
  have pgb := hgb s3 H3 s3.heap.objs.size (cellsFrom (s3.heap.objs.size + 1) scope.names (cloFrom X.env.cells scope.names [])) fp
  have ptb := htb s3 H3 s3.heap.objs.size (cellsFrom (s3.heap.objs.size + 1) scope.names (cloFrom X.env.cells scope.names [])) fp
  have pic := hic s3 H3 s3.heap.objs.size (cellsFrom (s3.heap.objs.size + 1) scope.names (cloFrom X.env.cells scope.names [])) fp
  have pgc := hgc s3 H3 s3.heap.objs.size (cellsFrom (s3.heap.objs.size + 1) scope.names (cloFrom X.env.cells scope.names [])) fp
  have ptc := htc s3 H3 s3.heap.objs.size (cellsFrom (s3.heap.objs.size + 1) scope.names (cloFrom X.env.cells scope.names [])) fp
  have pel := he s3 H3 s3.heap.objs.size (cellsFrom (s3.heap.objs.size + 1) scope.names (cloFrom X.env.cells scope.names [])) fp
  generalize hce : compEnvC scope (cellsFrom (s3.heap.objs.size + 1) scope.names (cloFrom X.env.cells scope.names [])) s3.heap.objs.size X.env = ce at I4 pga pta pib pgb ptb pic pgc ptc pel ⊢
  have cL : ce.locals = s3.heap.objs.size := by subst hce; rfl
  generalize hs4 : ({ s3 with heap := pushCells (s3.heap.push { cls := .type "dict", data := .dict #[] }) scope.names } : Shared) = s4 at I4 ⊢
  have st4 : tn 0 s4.heap := T.keep _ _ _ st3 fun b _ o eo => by subst hs4; exact pushCells_keeps _ _ _ _ (Heap.get?_push_of_some _ eo)
  have own0 : ∀ {H' : Hp}, (∀ b ∈ fp, H' b = none) → ∀ b ∈ fp, FpOk (X.blk s3 H3 scope ce fp) [] H' b := fun {H'} hn b hb =>
    ⟨hn b hb, (I4.ok.exf b hb).1, I4.ok.exfs b hb, .inl hb, fun x c eo => (I4.ok.exf b hb).2 x c eo, fun p hp => absurd (show p ∈ ([] : List (Addr × Obj)) ++ [] from hp) (by simp)⟩
  have go : codeAny (model X.prog X.w) X.A (.compLoop (Cm3 elt ta ia tb ib tc ic fa fb fc scope pos) 0 (.ref it) (.ref D) ce) (compPost (model X.prog X.w) X.A X.xe none (EP X pins σ Q) (.ref D) s3.heap.objs.size) s4 := by
    refine clause_go (Y := X.blk s3 H3 scope ce fp) (In := InOut X.prog X.w X.A ce ib (Cm3 elt ta ia tb ib tc ic fa fb fc scope pos) 1 (.ref D)) hc rfl T pga pta (fun I0 tr n s h0 => loop_out (P := X.prog) (w := X.w) (A := X.A) turn3_0 (hsb ce) I0 tr n h0) own0 q ?_ ?_ I4 st4 fun b hb => (f3 b hb).1.1
    · intro pn2 σ2 H5 s5 Nx Kp I5 hB hK
      refine thnF (pib.run _ s5 σ2 H5 _ I5 hB) fun xv s6 hx => thnF hx fun itv s7 h7 => ?_
      obtain ⟨it1, fp1, tn1, J1, H7, ei1, I7, T1, st7, f7, q1⟩ := h7
      subst ei1
      have I7w := I7.weak (σ' := wipe σ2 vs1) (wipe_length _ _) fun j v ej => (wipe_some ej).1
      have go1 : codeAny (model X.prog X.w) X.A (.compLoop (Cm3 elt ta ia tb ib tc ic fa fb fc scope pos) 1 (.ref it1) (.ref D) ce) (OkThen Kp) s7 := by
        refine clause_go (Y := X.blk s3 H3 scope ce fp) (In := InOut X.prog X.w X.A ce ic (Cm3 elt ta ia tb ib tc ic fa fb fc scope pos) 2 (.ref D)) hc rfl T1 pgb ptb (fun I0 tr n s h0 => loop_out (P := X.prog) (w := X.w) (A := X.A) turn3_1 (hsc ce) I0 tr n h0) (fun hn b hb => ⟨hn b hb, (f7 b hb).2⟩) q1 ?_ (fun s' H' I' nx => hK _ H' s' I' (Knows.sub hv1 rfl) nx) I7w st7 fun b hb => (f7 b hb).1
        intro pn3 σ3 H8 s8 Nx1 Kp1 I8 hB1 hK1
        refine thnF (pic.run _ s8 σ3 H8 _ I8 hB1) fun xv s9 hx => thnF hx fun itv s10 h10 => ?_
        obtain ⟨it2, fp2, tn2, J2, H10, ei2, I10, T2, st10, f10, q2⟩ := h10
        subst ei2
        have I10w := I10.weak (σ' := wipe σ3 vs2) (wipe_length _ _) fun j v ej => (wipe_some ej).1
        have go2 : codeAny (model X.prog X.w) X.A (.compLoop (Cm3 elt ta ia tb ib tc ic fa fb fc scope pos) 2 (.ref it2) (.ref D) ce) (OkThen Kp1) s10 := by
          refine clause_go (Y := X.blk s3 H3 scope ce fp) (In := InEl X.prog X.w X.A ce elt (.ref D)) hc rfl T2 pgc ptc (fun I0 tr n s h0 => loop_in (P := X.prog) (w := X.w) (A := X.A) turn3_2 I0 tr n h0) (fun hn b hb => ⟨hn b hb, (f10 b hb).2⟩) q2 ?_ (fun s' H' I' nx => hK1 _ H' s' I' (Knows.sub hv2 rfl) nx) I10w st10 fun b hb => (f10 b hb).1
          intro pn4 σ4 H11 s11 Nx2 Kp2 I11 hB2 hK2
          refine thnF (pel.run _ s11 σ4 H11 _ I11 hB2) fun z s12 q12 => ?_
          obtain ⟨yv, H12, I12, r12, acc, hD12, hz12, nx⟩ := q12
          exact app_ok (X := X.blk s3 H3 scope ce fp) I12 hD12 hz12 r12 fun s13 I13 => hK2 σ4 _ s13 I13 ⟨rfl, fun _ _ _ z => z⟩ nx
        exact start_of rfl go2 (T2.self X.A 0 _ _ _ st10 go2)
      exact start_of rfl go1 (T1.self X.A 0 _ _ _ st7 go1)
    · intro s6 H5 I6 qq
      have I7 : Inv X pins σ H5 s6 := I3.call' (ch := fp) I6.os I6.base I6.hok I6.bare fun b hb => ⟨(f3 b hb).1.2.2.2.1, (f3 b hb).1.2.1, (f3 b hb).1.2.2.2.2.1, (f3 b hb).1.2.2.2.2.2⟩
      have nC : H5 s3.heap.objs.size = none := by
        rw [← cL]
        exact I6.free
      obtain ⟨m, hn, _⟩ := I6.loc
      have hn : s6.heap.Ns ce.locals m := hn
      rw [cL] at hn
      obtain ⟨f0, f1, f2', f3', f4, f5⟩ := I3.fpOk (Nat.le_refl _) nC
      exact ⟨m, hn, fun h'' sb => ⟨.ref D, H5, I7.turned (t' := s6.toks) (fun b o hb eo => (sb.2 b hb).trans eo) f0 f1 f3' f4 f5, rfl, qq⟩⟩
  exact codeAny_compStart_list go (T.self X.A 0 _ _ _ st4 go)
end
/-- over a tuple -/
theorem cl_tup {K : PySem.W.Frag} {a : Addr} {xs : List V} {g : TG} {tt : TT} {σ0 : St} {vs : List Nat} {B : St → Hp → (Hp → Prop) → Prop} {Fin : Hp → Prop} {H0 : Hp} (Pv : Nat → Hp → Prop) (h0 : Pv 0 H0) (hl : ∀ i H, i ≤ xs.length → Pv i H → SqT K H a xs)
    (hs : ∀ i x H, xs[i]? = some x → Pv i H → g x σ0 H fun σ2 H2 => wipe σ2 vs = σ0 ∧ tt σ2 H2 fun b H3 => if b = true then B σ2 H3 (Pv (i + 1)) else Pv (i + 1) H3) (hd : ∀ H, Pv xs.length H → Fin H) : tCl (Itt K a) g tt σ0 vs B Fin H0 := by
  refine ⟨fun i n H => n = xs.length - i ∧ i ≤ xs.length ∧ Pv i H, ⟨xs.length, by omega, Nat.zero_le _, h0⟩, ?_⟩
  rintro i n H ⟨rfl, hi, p⟩
  have q := hl i H hi p
  rcases Nat.lt_or_ge i xs.length with hlt | hge
  · refine .inr ⟨⟨xs, xs[i], q, List.getElem?_eq_getElem hlt⟩, Pv (i + 1), fun H' p' => ⟨xs.length - (i + 1), by omega, rfl, hlt, p'⟩, fun x H' y => ?_⟩
    obtain ⟨ey, y⟩ := y
    subst ey
    exact hs i x _ (y xs q) p
  · have ei : i = xs.length := by omega
    subst ei
    exact .inl ⟨⟨xs, q, Nat.le_refl _⟩, hd H p⟩
end SK
/-! ### a text is no dict -/
namespace PySem.SeqAt
open PySem
section
variable {A : Around} {s : Shared}
theorem dict_eq_no_str (l : Addr) (es : Array DictEntry) (n : Nat) (dd : Option Addr) (sl : Array (Option Value)) (b : Str) (u : Tok) :
    Meets (Builtin.«dict.__eq__» ⟨[.ref l, .str b u], []⟩) (fun _ R s => s.heap.get? l = some { cls := .type "dict", dict := dd, data := .dict es n, slots := sl } ∧ R (.ok (.ret .notImplemented)) s) :=
  .of_wp fun prog w A R s h => by
    obtain ⟨hp, g, d, tk, os⟩ := s
    obtain ⟨hl, h⟩ := h
    have f1 := F.sub_str_dict
    wp_walk using wpAny_loadPart' hl, wpAny_load hl
    exact ⟨_, rfl, h⟩
theorem str_eq_no_dict (b : Str) (u : Tok) (l : Addr) (es : Array DictEntry) (n : Nat) (dd : Option Addr) (sl : Array (Option Value)) :
    Meets (Builtin.«str.__eq__» ⟨[.str b u, .ref l], []⟩) (fun _ R s => s.heap.get? l = some { cls := .type "dict", dict := dd, data := .dict es n, slots := sl } ∧ R (.ok (.ret .notImplemented)) s) :=
  .of_wp fun prog w A R s h => by
    obtain ⟨hp, g, d, tk, os⟩ := s
    obtain ⟨hl, h⟩ := h
    wp_walk using wpAny_loadPart' hl, wpAny_load hl
    exact ⟨_, rfl, h⟩
theorem rc_str_dict {l : Addr} {es : Array DictEntry} {n : Nat} {dd : Option Addr} {sl : Array (Option Value)} (b : Str) (u : Tok) (ho : s.heap.get? l = some { cls := .type "dict", dict := dd, data := .dict es n, slots := sl }) (hu : A.units < cLine) : RcAt A s (.str b u) (.ref l) false := fun prog w E Q h =>
  rc_eq_decline_or (k := false) (typeIs_str s b u) ⟨_, ho, rfl⟩ (by decide) F.sub_dict_str F.slot_str_eq F.slot_dict_eq_refl
    (fun _ hq => call_meets F.slot_str_eq (typeIs_str s b u) F.entry_str_eq (F.args_str_eq_2 _ _) (str_eq_no_dict b u l es n dd sl) ⟨ho, hq⟩)
    (fun _ hq => call_meets F.slot_dict_eq_refl ⟨_, ho, rfl⟩ F.entry_dict_eq (F.args_dict_eq_2 _ _) (dict_eq_no_str l es n dd sl b u) ⟨ho, hq⟩)
    (fun _ hq => wpAny_of_eq (rfl : isSame (.str b u) (.ref l) = pure false) hq) (.inr hu) h
theorem eq_str_dict {l : Addr} {es : Array DictEntry} {n : Nat} {dd : Option Addr} {sl : Array (Option Value)} (b : Str) (u : Tok) (ho : s.heap.get? l = some { cls := .type "dict", dict := dd, data := .dict es n, slots := sl }) (hu : A.units < cLine) : EqAt A s (.str b u) (.ref l) false := fun prog w E Q h => by
  unfold eqBool
  refine wpAny_holding (wpAny_ite_split (fun hab => absurd (eq_of_beq hab) nofun) fun _ => ?_)
  exact wpAny_bind (rc_str_dict b u ho hu prog w E _ (wpAny_truthy_bool h))
end
end PySem.SeqAt
namespace SK
open PySem PySem.Spec PyProof.Rows L2 LamX NdefX
open K0 (De DeAll XCl spX withX)
/-! ### any data not in a tuple of texts -/
def rNotT (K : PySem.W.Frag) : R2 := fun x y H Q => rIn K true x y H Q ∨ ∃ (p a : Addr) (d : PyData) (ts : List Str), x = .ref a ∧ y = .ref p ∧ SqT K H p (ts.map V.str) ∧ De K H (.ref a) d ∧ Q (.bl true) H
theorem op_notT {X : Cx} (hu : X.A.units + 64 < cLine) : OpR X (compareOp .NotIn) (rNotT X.K) := by
  intro pins s σ H x y v u Q I rx ry h
  rcases h with h | ⟨p, a, d, ts, rfl, rfl, hT, hd, q⟩
  · exact op_notIn_seq pins s σ H x y v u Q I rx ry h
  obtain rfl : v = Value.ref a := rx
  obtain rfl : u = Value.ref p := ry
  obtain ⟨its, r, pl, hz⟩ := I.tuple hT
  have hu1 : X.A.in1.units < cLine := by
    show X.A.units + 1 < cLine
    omega
  refine SeqAt.notIn_tupleAt (fun _ => false) pl (fun w hw => ?_) ⟨.bl true, H, I, ?_, q⟩
  · have hw' : w ∈ its := by simpa using hw
    have tx : ∀ {xs : List Str} {us : List Value}, Vals (xs.map V.str) us → ∀ w ∈ us, ∃ z t, w = Value.str z t := fun {xs us} => by
      intro rv
      induction xs generalizing us with
      | nil =>
        cases rv
        intro w hw
        cases hw
      | cons z zs ih =>
        cases rv with
        | cons h1 h2 =>
          intro w hw
          rcases List.mem_cons.mp hw with rfl | hw
          · obtain ⟨t, e⟩ := h1
            exact ⟨z, t, e⟩
          · exact ih h2 w hw
    obtain ⟨z, t, rfl⟩ := tx r w hw'
    cases hd with
    | lst ha hds =>
      obtain ⟨js, rj, pj, hj⟩ := I.list (.inl (.inl ha))
      exact SeqAt.EqAt.str_list z t pj.isList hu1
    | tup ha hds =>
      obtain ⟨js, rj, pj, hj⟩ := I.tuple (.inl (.inl ha))
      exact SeqAt.EqAt.str_tuple z t pj hu1
    | dic ha =>
      obtain ⟨_, _, vs, rv, o, es, ep, ho, hx, hdd, _, hp, _⟩ := (show ObjOk X.prog X.w H s.heap a (.dK []) from I.hok a _ ha)
      obtain ⟨oc, od, dt, sl⟩ := o
      have hc : oc = .type "dict" := hx.1
      have hdd : dt = .dict es ep := hdd
      subst hc hdd
      exact SeqAt.eq_str_dict z t ho hu1
  · have e : its.toArray.any (fun _ => false) = false := by simp
    show RelV (V.bl true) (Value.bool (!its.toArray.any fun _ => false))
    rw [e]
    rfl
/-! ### lists of kinds that grow -/
def LstK (H1 : Hp) (D : Addr) (ks : List Kd) (G : Hp) : Prop := ∃ ps : PK, G D = some (.lst (rfs ps)) ∧ KsAt G ps ∧ kds ps = ks ∧ Same H1 G
theorem LstK.new {H1 : Hp} {D : Addr} (nD : H1 D = none) : LstK H1 D [] (upd H1 D (.lst [])) := ⟨[], upd_same, fun p hp => absurd hp (by simp), rfl, upd_new nD⟩
theorem LstK.mono {H1 G G' : Hp} {D : Addr} {ks : List Kd} (h : LstK H1 D ks G) (s : Same G G') : LstK H1 D ks G' := by
  obtain ⟨ps, h1, h2, h3, h4⟩ := h
  exact ⟨ps, s _ _ h1, h2.same fun _ _ e => s _ _ e, h3, h4.trans s⟩
theorem LstK.sm {H1 G : Hp} {D : Addr} {ks : List Kd} (h : LstK H1 D ks G) : Same H1 G := by
  obtain ⟨ps, h1, h2, h3, h4⟩ := h
  exact h4
theorem LstK.put {H1 G : Hp} {D q : Addr} {ks : List Kd} {k : Kd} (nD : H1 D = none) (h : LstK H1 D ks G) (hq : KAt G q k) (hz : ks.length < 500) : ∃ acc, G D = some (.lst acc) ∧ acc.length < sizeLine ∧ LstK H1 D (ks ++ [k]) (upd G D (.lst (acc ++ [.ref q]))) := by
  obtain ⟨ps, h1, h2, h3, h4⟩ := h
  have b5 : (500 : Nat) ≤ sizeLine := by decide
  have hl : (rfs ps).length = ks.length := by
    rw [← h3]
    unfold rfs kds
    rw [List.length_map, List.length_map]
  have keep : ∀ c us, G c = some (.tup us) → upd G D (.lst (rfs ps ++ [.ref q])) c = some (.tup us) := fun c us e => by
    rw [upd_ne (fun z => by rw [z, h1] at e; cases e)]
    exact e
  refine ⟨rfs ps, h1, by omega, ps ++ [(q, k)], ?_, fun p hp => ?_, ?_, fun b o e => ?_⟩
  · rw [upd_same]
    unfold rfs
    rw [List.map_append]
    rfl
  · rcases List.mem_append.mp hp with hp | hp
    · exact keep _ _ (h2 p hp)
    · rw [List.mem_singleton.mp hp]
      exact keep _ _ hq
  · rw [← h3]
    unfold kds
    rw [List.map_append]
    rfl
  · rw [upd_ne (ne_of_none e nD)]
    exact h4 _ _ e
theorem cl_tupY {K : PySem.W.Frag} {a : Addr} {xs : List V} {g : TG} {σ0 : St} {vs : List Nat} {B : St → Hp → (Hp → Prop) → Prop} {Fin : Hp → Prop} {H0 : Hp} (Pv : Nat → Hp → Prop) (h0 : Pv 0 H0) (hl : ∀ i H, i ≤ xs.length → Pv i H → SqT K H a xs)
    (hs : ∀ i x H, xs[i]? = some x → Pv i H → g x σ0 H fun σ2 H2 => wipe σ2 vs = σ0 ∧ B σ2 H2 (Pv (i + 1))) (hd : ∀ H, Pv xs.length H → Fin H) : tCl (Itt K a) g tYes σ0 vs B Fin H0 := cl_tup Pv h0 hl (fun i x H a b => hs i x H a b) hd
/-! ### kinds_with, joined_kind -/
def cellK (m f : Bool) : List Kd := ([0, 1, 2] : List Int).map fun c => (m, f, c)
def rowK (fl : List Bool) (m : Bool) : List Kd := fl.flatMap (cellK m)
def kwS (fl : List Bool) : List Kd := [false, true].flatMap (rowK fl)
def spKw (K : PySem.W.Frag) : Sp := fun vs H Q _ => ∃ (a : Addr) (fl : List Bool), vs = [.ref a] ∧ SqT K H a (fl.map V.bl) ∧ fl.length ≤ 2 ∧ ∀ (H' : Hp) (r : Addr), LstK H r (kwS fl) H' → Q (.ref r) H'
def jk (k : Kd) : Kd := if k = (false, false, 1) then (false, true, 1) else k
def spJk (K : PySem.W.Frag) : Sp := fun vs H Q _ => ∃ (t : Addr) (k : Kd), vs = [.ref t] ∧ KAt H t k ∧ ∀ (H' : Hp) (r : Addr), Same H H' → KAt H' r (jk k) → Q (.ref r) H'
theorem kd_shaped (k : Kd) : SeqAt.shaped (kdD k) = true := by
  obtain ⟨h1, h2⟩ := kd_lay k
  unfold SeqAt.shaped
  rw [Bool.and_eq_true, decide_eq_true_eq]
  exact ⟨h1, by omega⟩
theorem cell_len (m f : Bool) : (cellK m f).length = 3 := rfl
theorem row_len (fl : List Bool) (m : Bool) : (rowK fl m).length = 3 * fl.length := by
  unfold rowK
  induction fl with
  | nil => rfl
  | cons f fl ih =>
    rw [List.flatMap_cons, List.length_append, ih, cell_len, List.length_cons]
    omega
section
variable {P : Program} {w : World} {K : PySem.W.Frag} {mg : Str → Option Value} {base : Heap} {f : Addr} {fd : FuncData}
theorem ok_kw (F : Fun K "kinds_with" "kinds_with" (top 36) f fd) : FnOk P w K mg base CX0 1 f fd ["flags"] (spKw K) := by
  have S0 : FnScope ["flags", "mark", "flag", "children"] ["flags"] (defScope (top 36)) := ⟨rfl, rfl, rfl, by decide +kernel, rfl, by decide +kernel, by decide +kernel⟩
  have nd := S0.nd
  refine F.ok S0 (fun vs H Q E h => ?_) (fun cdv A outer s H vs Q E hr h => ?_)
  · obtain ⟨a, fl, rfl, _⟩ := h
    rfl
  · obtain ⟨a, fl, rfl, hS, hz, kk⟩ := h
    refine ⟨_, pss_one (ps_ret (pe_lc3 (wi1 := iTup K (tVar 0)) (wi2 := iTup K (tTup (tCons (tC (.int 0)) (tCons (tC (.int 1)) (tCons (tC (.int 2)) tNil))))) (own := [("mark", 1), ("flag", 2), ("children", 3)]) (vs1 := [2, 3]) (vs2 := [3]) (ga := gName 1) (gb := gName 2) (gc := gName 3) (tta := tYes) (ttb := tYes) (ttc := tYes) rfl nd (pi_tup (pe_tup (pa_cons pe_bl (pa_cons pe_bl pa_nil)))) (blkOk_by (N := ["flags", "mark", "flag", "children"]) (sc := defScope (top 36)) (by decide +kernel)) (by decide) (by decide)
      (fun _ _ _ _ _ => pg_name (i := 1) nd rfl (Or.inl rfl)) (fun _ _ _ _ _ => pts_nil) (fun _ _ _ _ _ => pi_tup (pv 0)) (fun _ _ _ _ _ => pg_name (i := 2) nd rfl (Or.inl rfl)) (fun _ _ _ _ _ => pts_nil)
      (fun _ _ _ _ _ => pi_tup (pe_tup (pa_cons pe_int (pa_cons pe_int (pa_cons pe_int pa_nil))))) (fun _ _ _ _ _ => pg_name (i := 3) nd rfl (Or.inl rfl)) (fun _ _ _ _ _ => pts_nil) (fun _ _ _ _ _ => pe_tup (pa_cons (pv 1) (pa_cons (pv 2) (pa_cons (pv 3) pa_nil)))))), ?_⟩
    refine ⟨(by show 2 ≤ sizeLine; decide), fun p hp => ⟨p, rfl, ⟨_, .inl (.inl upd_same)⟩, fun D nD => ?_⟩⟩
    have s0 : Same H (upd H p (.tup [.bl false, .bl true])) := upd_new hp
    have hS1 := SK.Same.seqT s0 hS
    have hp1 : upd H p (.tup [.bl false, .bl true]) p = some (.tup [.bl false, .bl true]) := upd_same
    generalize upd H p (.tup [.bl false, .bl true]) = H1 at s0 hS1 hp1 nD
    refine cl_tupY (K := K) (a := p) (xs := [.bl false, .bl true]) (fun i G => LstK H1 D (([false, true].take i).flatMap (rowK fl)) G) (LstK.new nD) (fun i G _ q => .inl (.inl (q.sm _ _ hp1))) (fun i x G hx q => ?_) (fun G q => ?_)
    · obtain ⟨m, hm, rfl⟩ := map_at (enc := V.bl) (ws := [false, true]) hx
      have hi : i < 2 := (List.getElem?_eq_some_iff.mp hm).1
      have tk := take_snoc hm
      have l0 : (([false, true].take i).flatMap (rowK fl)).length ≤ 12 := by
        have e : ∀ ms : List Bool, (ms.flatMap (rowK fl)).length = ms.length * (3 * fl.length) := fun ms => by
          induction ms with
          | nil => simp
          | cons m ms ih => rw [List.flatMap_cons, List.length_append, ih, row_len, List.length_cons, Nat.add_mul, Nat.one_mul, Nat.add_comm]
        rw [e, List.length_take]
        have : min i [false, true].length ≤ 2 := by simp; omega
        have := Nat.mul_le_mul this (show 3 * fl.length ≤ 6 by omega)
        omega
      have done : (([false, true].take (i + 1)).flatMap (rowK fl)) = (([false, true].take i).flatMap (rowK fl)) ++ (fl.take fl.length).flatMap (cellK m) := by
        rw [tk, List.flatMap_append, List.take_length]
        simp [rowK]
      rw [done]
      generalize ([false, true].take i).flatMap (rowK fl) = d0 at q l0
      refine ⟨rfl, V.ref a, rfl, a, rfl, ⟨_, SK.Same.seqT q.sm hS1⟩, cl_tupY (K := K) (a := a) (xs := fl.map V.bl) (fun j G => LstK H1 D (d0 ++ (fl.take j).flatMap (cellK m)) G) (by simpa using q) (fun j G _ q => SK.Same.seqT q.sm hS1) (fun j x G hx q => ?_) (fun G q => by rw [List.length_map] at q; exact q)⟩
      obtain ⟨f0, hf, rfl⟩ := map_at (enc := V.bl) hx
      have hj : j < fl.length := (List.getElem?_eq_some_iff.mp hf).1
      have l1 : (d0 ++ (fl.take j).flatMap (cellK m)).length ≤ 20 := by
        have e := row_len (fl.take j) m
        unfold rowK at e
        rw [List.length_append, e, List.length_take]
        omega
      have done1 : d0 ++ (fl.take (j + 1)).flatMap (cellK m) = (d0 ++ (fl.take j).flatMap (cellK m)) ++ (([0, 1, 2] : List Int).take 3).map fun c => ((m, f0, c) : Kd) := by
        rw [take_snoc hf, List.flatMap_append, List.append_assoc]
        simp [cellK]
      rw [done1]
      generalize d0 ++ (fl.take j).flatMap (cellK m) = d1 at q l1
      refine ⟨rfl, (by show 3 ≤ sizeLine; decide), fun t ht => ⟨t, rfl, ⟨_, .inl (.inl upd_same)⟩, ?_⟩⟩
      have q2 := q.mono (upd_new (o := .tup [.int 0, .int 1, .int 2]) ht)
      have ht2 : upd G t (.tup [.int 0, .int 1, .int 2]) t = some (.tup [.int 0, .int 1, .int 2]) := upd_same
      generalize upd G t (.tup [.int 0, .int 1, .int 2]) = G2 at q2 ht2
      refine cl_tupY (K := K) (a := t) (xs := [.int 0, .int 1, .int 2]) (fun k G => LstK H1 D (d1 ++ (([0, 1, 2] : List Int).take k).map fun c => ((m, f0, c) : Kd)) G ∧ G t = some (.tup [.int 0, .int 1, .int 2])) ⟨by simpa using q2, ht2⟩ (fun k G _ q => .inl (.inl q.2)) (fun k x G hx q => ?_) (fun G q => q.1)
      obtain ⟨c, hcx, rfl⟩ := map_at (enc := V.int) (ws := [0, 1, 2]) hx
      obtain ⟨q, ht3⟩ := q
      have hk : k < 3 := (List.getElem?_eq_some_iff.mp hcx).1
      have ent : d1 ++ (([0, 1, 2] : List Int).take (k + 1)).map (fun c => ((m, f0, c) : Kd)) = (d1 ++ (([0, 1, 2] : List Int).take k).map fun c => ((m, f0, c) : Kd)) ++ [(m, f0, c)] := by
        rw [take_snoc hcx, List.map_append, List.append_assoc]
        rfl
      have l2 : (d1 ++ (([0, 1, 2] : List Int).take k).map fun c => ((m, f0, c) : Kd)).length < 500 := by
        rw [List.length_append, List.length_map, List.length_take]
        have : min k ([0, 1, 2] : List Int).length ≤ 3 := Nat.min_le_right _ _
        omega
      rw [ent]
      refine ⟨rfl, V.bl m, rfl, V.bl f0, rfl, V.int c, rfl, (by show 3 ≤ sizeLine; decide), fun u hu => ?_⟩
      have s3 := upd_new (o := .tup [.bl m, .bl f0, .int c]) hu
      have hku : KAt (upd G u (.tup [.bl m, .bl f0, .int c])) u (m, f0, c) := upd_same
      have ht4 := s3 _ _ ht3
      have q3 := q.mono s3
      generalize upd G u (.tup [.bl m, .bl f0, .int c]) = G3 at s3 hku ht4 q3
      obtain ⟨acc, e1, e2, e3⟩ := q3.put nD hku l2
      refine ⟨acc, e1, e2, e3, ?_⟩
      rw [upd_ne (fun z => by rw [z, e1] at ht4; cases ht4)]
      exact ht4
    · refine kk G D ?_
      obtain ⟨ps, h1, h2, h3, h4⟩ := q
      exact ⟨ps, h1, h2, h3, s0.trans h4⟩
theorem ok_jk (F : Fun K "joined_kind" "joined_kind" (top 37) f fd) : FnOk P w K mg base CX0 1 f fd ["kind"] (spJk K) := by
  have S0 : FnScope ["kind"] ["kind"] (defScope (top 37)) := ⟨rfl, rfl, rfl, by decide +kernel, rfl, by decide +kernel, by decide +kernel⟩
  refine F.ok S0 (fun vs H Q E h => ?_) (fun cdv A outer s H vs Q E hr h => ?_)
  · obtain ⟨t, k, rfl, _⟩ := h
    rfl
  · obtain ⟨t, k, rfl, ht, kk⟩ := h
    have hu64 := hr.units
    refine ⟨_, pss_one (ps_ret (pe_ifExp (pt_cmpR (op_eqD hu64) (pv 0) (pe_tup (pa_cons pe_bl (pa_cons pe_bl (pa_cons pe_int pa_nil)))) (nomark _)) (pe_tup (pa_cons pe_bl (pa_cons pe_bl (pa_cons pe_int pa_nil)))) (pv 0))), ?_⟩
    refine ⟨V.ref t, rfl, (by show 3 ≤ sizeLine; decide), fun q nq => ?_⟩
    have s1 := upd_new (o := .tup [.bl false, .bl false, .int 1]) nq
    have hq1 : KAt (upd H q (.tup [.bl false, .bl false, .int 1])) q (false, false, 1) := upd_same
    have ht1 : KAt (upd H q (.tup [.bl false, .bl false, .int 1])) t k := s1 _ _ ht
    generalize upd H q (.tup [.bl false, .bl false, .int 1]) = H1 at s1 hq1 ht1
    refine ⟨kdD k, kdD (false, false, 1), ht1.dp, hq1.dp, kd_shaped _, kd_shaped _, _, rfl, ?_⟩
    rw [kd_eqv]
    by_cases c : k = (false, false, 1)
    · rw [decide_eq_true c]
      refine iteT ⟨(by show 3 ≤ sizeLine; decide), fun r nr => kk _ r (s1.trans (upd_new nr)) ?_⟩
      unfold jk
      rw [if_pos c]
      exact upd_same
    · rw [decide_eq_false c]
      refine iteF ⟨V.ref t, rfl, kk _ t s1 ?_⟩
      unfold jk
      rw [if_neg c]
      exact ht1
end
end SK
namespace SK
open PySem PySem.Spec PyProof.Rows L2 LamX NdefX
open K0 (De DeAll XCl spX withX)
/-! ### kinds that are looked through and found fine -/
theorem kscan_app : ∀ {ds : List PyData} {seen : List Kd} {i : Nat} {rest : List PyData}, (∀ d ∈ ds, okK d = true ∧ kOf d ∉ seen) → (ds.map kOf).Nodup → kscan seen i (ds ++ rest) = kscan (seen ++ ds.map kOf) (i + ds.length) rest
  | [], seen, i, rest, _, _ => by simp
  | d :: r, seen, i, rest, h1, h2 => by
    rw [List.map_cons, List.nodup_cons] at h2
    show (if okK d = true ∧ kOf d ∉ seen then kscan (seen ++ [kOf d]) (i + 1) (r ++ rest) else some i) = _
    rw [if_pos (h1 d (by simp)), kscan_app (fun e he => ⟨(h1 e (List.mem_cons_of_mem _ he)).1, fun z => ?_⟩) h2.2]
    · rw [List.append_assoc, List.length_cons, Nat.add_assoc, Nat.add_comm 1]
      rfl
    · rcases List.mem_append.mp z with z | z
      · exact (h1 e (List.mem_cons_of_mem _ he)).2 z
      · have z : kOf e = kOf d := by simpa using z
        exact h2.1 (by rw [← z]; exact List.mem_map.mpr ⟨e, he, rfl⟩)
theorem kscan_fine {ds : List PyData} (h1 : ∀ d ∈ ds, okK d = true) (h2 : (ds.map kOf).Nodup) : kscan [] 0 ds = none := by
  have z := kscan_app (rest := []) (seen := []) (i := 0) (fun d hd => ⟨h1 d hd, by simp⟩) h2
  rw [List.append_nil] at z
  rw [z]
  rfl
theorem kscan_bad {ds : List PyData} {d : PyData} {rest : List PyData} (h1 : ∀ d ∈ ds, okK d = true) (h2 : (ds.map kOf).Nodup) (hd : ¬ (okK d = true ∧ kOf d ∉ ds.map kOf)) : kscan [] 0 (ds ++ d :: rest) = some ds.length := by
  rw [kscan_app (fun d hd => ⟨h1 d hd, by simp⟩) h2, List.nil_append, Nat.zero_add]
  show (if okK d = true ∧ kOf d ∉ ds.map kOf then _ else some ds.length) = _
  rw [if_neg hd]
theorem kOf_kd (k : Kd) : kOf (kdD k) = k := rfl
theorem kds_kOf (ks : List Kd) : (ks.map kdD).map kOf = ks := by
  rw [List.map_map]
  exact List.map_id'' (fun _ => rfl) ks
theorem okK_kd {k : Kd} (h : OkK k) : okK (kdD k) = true := by
  show (true && (true && (true && (decide (0 ≤ k.2.2) && decide (k.2.2 ≤ 2))))) = true
  rw [decide_eq_true h.1, decide_eq_true h.2]
  rfl
theorem kscan_kds {ks : List Kd} (h1 : ∀ k ∈ ks, OkK k) (h2 : ks.Nodup) : kscan [] 0 (ks.map kdD) = none := kscan_fine (fun d hd => by
  obtain ⟨k, hk, rfl⟩ := List.mem_map.mp hd
  exact okK_kd (h1 k hk)) (by rw [kds_kOf]; exact h2)
/-! ### a rule is made -/
theorem mk_ruleG {K : PySem.W.Frag} {CR CK a1 a2 : Addr} {H : Hp} {σ : St} {R : Addr → Hp → Prop} {E : XK} {xs1 xs2 : List V} {ds1 ds2 : List PyData} (r1 : Rows H a1 xs1) (d1 : DeAll K H xs1 ds1) (z1 : xs1.length ≤ 100) (r2 : Rows H a2 xs2) (d2 : DeAll K H xs2 ds2) (z2 : xs2.length ≤ 100)
    (t1 : ∀ i : Nat, kscan [] 0 ds1 = some i → ∀ (H' : Hp) (d : Addr), Same H H' → H' d = some (.xd [("number", .int i), ("side", .str "root")]) → E (.ref CK) (some d) H')
    (t2 : kscan [] 0 ds1 = none → ∀ i : Nat, kscan [] 0 ds2 = some i → ∀ (H' : Hp) (d : Addr), Same H H' → H' d = some (.xd [("number", .int i), ("side", .str "others")]) → E (.ref CK) (some d) H')
    (kk : kscan [] 0 ds1 = none → kscan [] 0 ds2 = none → ∀ (H' : Hp) (x : Addr), Same H H' → RuleF K CR H' (.ref x) (srtKd (ds1.map kOf)) (srtKd (ds2.map kOf)) → R x H') :
    tNil σ H fun zs H2 => ∀ x dx, H2 x = none → H2 dx = none → dx ≠ x → spInitRG K CR CK (.ref x :: ((.ref a1 :: .ref a2 :: zs) ++ [])) (upd (upd H2 dx (.own x)) x (.ins CR dx [])) (fun v H3 => v = .non ∧ R x H3) E := by
  show ∀ x dx, H x = none → H dx = none → dx ≠ x → spInitRG K CR CK [.ref x, .ref a1, .ref a2] (upd (upd H dx (.own x)) x (.ins CR dx [])) (fun v H3 => v = .non ∧ R x H3) E
  intro x dx nx ndx nxd
  have s7 : Same H (upd (upd H dx (.own x)) x (.ins CR dx [])) := fun b o e => by
    rw [upd_ne (ne_of_none e nx), upd_ne (ne_of_none e ndx)]
    exact e
  have hx7 : upd (upd H dx (.own x)) x (.ins CR dx []) x = some (.ins CR dx []) := upd_same
  generalize upd (upd H dx (.own x)) x (.ins CR dx []) = H7 at s7 hx7
  have sb : ∀ {H' : Hp}, SameBut x H7 H' → Same H H' := fun {H'} s b o e => s b o (fun z => by rw [z, nx] at e; cases e) (s7 _ _ e)
  have rw1 : Rows H7 a1 xs1 := r1.mono (ExtN.of s7)
  have rw2 : Rows H7 a2 xs2 := r2.mono (ExtN.of s7)
  refine ⟨x, dx, a1, a2, xs1, xs2, ds1, ds2, rfl, hx7, rw1, de_monoAll s7 _ _ d1, z1, rw2, de_monoAll s7 _ _ d2, z2, fun i e H' d s h => t1 i e H' d (sb s) h, fun e1 i e H' d s h => t2 e1 i e H' d (sb s) h, fun e1 e2 H' fs q1 q2 s hx' hP => ⟨rfl, ?_⟩⟩
  exact kk e1 e2 H' x (sb s) ⟨x, dx, fs, q1, q2, rfl, hx', hP⟩
/-! ### a comprehension that makes kinds of kinds -/
theorem lcK_map {K : PySem.W.Frag} {a D : Addr} {H1 : Hp} {ps : PK} {g : TG} {te : TE} {vs : List Nat} {σ : St} {Qd : Hp → Prop} (f : Kd → Kd) (nD : H1 D = none) (ha : H1 a = some (.lst (rfs ps))) (hp : KsAt H1 ps) (hz : ps.length ≤ 100)
    (step : ∀ (i : Nat) (p : Addr × Kd) (G : Hp), ps[i]? = some p → Same H1 G → ∀ A : V → Hp → Prop, (∀ (r : Addr) (G' : Hp), Same G G' → KAt G' r (f p.2) → A (.ref r) G') → g (.ref p.1) (wipe σ vs) G fun σ2 G2 => wipe σ2 vs = wipe σ vs ∧ te σ2 G2 A) (fin : ∀ G, LstK H1 D ((kds ps).map f) G → Qd G) :
    ∃ W : Nat → Nat → Hp → Prop, (∃ m, W 0 m (upd H1 D (.lst []))) ∧ ∀ i m H, W i m H →
      ((Itl K a).stop i H ∧ Qd H) ∨ ((Itl K a).go i H ∧ ∃ Nx : Hp → Prop, (∀ H', Nx H' → ∃ m', m' < m ∧ W (i + 1) m' H') ∧ ∀ x H', (Itl K a).yld i H x H' → g x (wipe σ vs) H' fun σ2 H2 => wipe σ2 vs = wipe σ vs ∧ tYes σ2 H2 fun b H3 =>
        if b = true then te σ2 H3 fun y H4 => ∃ acc, H4 D = some (.lst acc) ∧ acc.length < sizeLine ∧ Nx (upd H4 D (.lst (acc ++ [y]))) else Nx H3) := by
  have hl : (rfs ps).length = ps.length := List.length_map _
  refine lc_list (K := K) (a := a) (xs := rfs ps) (fun i G => LstK H1 D (((kds ps).take i).map f) G) (LstK.new nD) (fun i G _ q => .inl (.inl (q.sm _ _ ha))) (fun i x G hx q => ?_) (fun G q => fin G ?_)
  · obtain ⟨p, hpi, rfl⟩ := map_at (enc := fun p : Addr × Kd => V.ref p.1) hx
    have hk : (kds ps)[i]? = some p.2 := by
      unfold kds
      rw [List.getElem?_map, hpi]
      rfl
    have lz : (((kds ps).take i).map f).length < 500 := by
      have e : (kds ps).length = ps.length := List.length_map _
      rw [List.length_map, List.length_take]
      omega
    refine step i p G hpi q.sm _ (fun r G' s hr => ?_)
    obtain ⟨acc, e1, e2, e3⟩ := (q.mono s).put nD hr lz
    refine ⟨acc, e1, e2, ?_⟩
    rw [take_snoc hk, List.map_append]
    exact e3
  · have e : (kds ps).length = ps.length := List.length_map _
    rw [hl, ← e, List.take_length] at q
    exact q
theorem nm_eqS {x y : Str} (c : decide (V.str x = V.str y) = true) : x = y := V.str.inj (of_decide_eq_true c)
theorem nm_neS {x y : Str} (c : ¬ decide (V.str x = V.str y) = true) : x ≠ y := fun z => c (by rw [z]; exact decide_eq_true rfl)
/-! ### the known rules -/
def four : List Str := ["plain", "joined", "bare", "free"]
def knD : PyData → Bool
  | .str n => decide (n ∈ four)
  | _ => false
def bareK : Kd := (false, false, 0)
def knR (n : Str) : List Kd := if n = Str.ofString "bare" then kwS [false] else if n = Str.ofString "free" then kwS [false, true] else kwS [false]
def knO (n : Str) : List Kd := if n = Str.ofString "bare" then kwS [false] else if n = Str.ofString "free" then kwS [false, true] else
  if n = Str.ofString "joined" then ((kwS [false]).filter fun k => !decide (k = bareK)).map jk else (kwS [false]).filter fun k => !decide (k = bareK)
def spKn (K : PySem.W.Frag) (CR CN : Addr) : Sp := fun vs H Q E => ∃ (v : V) (d : PyData), vs = [v] ∧ De K H v d ∧ (∀ n ∈ four, d = .str n → ∀ (H' : Hp) (x : Addr), Same H H' → RuleF K CR H' (.ref x) (srtKd (knR n)) (srtKd (knO n)) → Q (.ref x) H') ∧ (knD d = false → Thrown E CN H [("name", v)])
theorem kw_fine : ((∀ k ∈ kwS [false], OkK k) ∧ (kwS [false]).Nodup) ∧ ((∀ k ∈ kwS [false, true], OkK k) ∧ (kwS [false, true]).Nodup) := by
  unfold OkK
  decide +kernel
theorem kw_fine2 : ((∀ k ∈ (kwS [false]).filter (fun k => !decide (k = bareK)), OkK k) ∧ ((kwS [false]).filter (fun k => !decide (k = bareK))).Nodup) ∧ ((∀ k ∈ ((kwS [false]).filter (fun k => !decide (k = bareK))).map jk, OkK k) ∧ (((kwS [false]).filter (fun k => !decide (k = bareK))).map jk).Nodup) := by
  unfold OkK
  decide +kernel
theorem LstK.rows {K : PySem.W.Frag} {H1 G : Hp} {D : Addr} {ks : List Kd} (h : LstK H1 D ks G) (hz : ks.length ≤ 100) : ∃ xs, Rows G D xs ∧ DeAll K G xs (ks.map kdD) ∧ xs.length ≤ 100 := by
  obtain ⟨ps, h1, h2, h3, h4⟩ := h
  have hl : (rfs ps).length = ks.length := by
    rw [← h3]
    unfold rfs kds
    rw [List.length_map, List.length_map]
  exact ⟨rfs ps, .inl h1, by rw [← h3]; exact kinds_de h2, by omega⟩
section
variable {P : Program} {w : World} {K : PySem.W.Frag} {mg : Str → Option Value} {base : Heap} {f fK fJ fI bA CR CK CN : Addr} {fd fdK fdJ fdI : FuncData}
abbrev NKn : List Str := ["name", "flagless", "others", "kind"]
theorem ok_kn (F : Fun K "known_rule" "known_rule" (top 38) f fd) (D : XR P w K mg base "BadName" CN ["name"]) (gB : mg "BARE" = some (.ref bA)) (hB : ∀ H, SqT K H bA [.bl false, .bl false, .int 0])
    (gR : mg "Rule" = some (.ref CR)) (M : Mk K CR fI) (GI : FnOk P w K mg base (L2.CX P w) 4 fI fdI ["self", "root", "others"] (spInitRG K CR CK)) (bI : Binds K fdI ["self", "root", "others"] [])
    (gK : mg "kinds_with" = some (.ref fK)) (kK : PySem.W.keepIn K (.ref fK) = true) (GK : FnOk P w K mg base CX0 1 fK fdK ["flags"] (spKw K)) (bK : Binds K fdK ["flags"] [])
    (gJ : mg "joined_kind" = some (.ref fJ)) (kJ : PySem.W.keepIn K (.ref fJ) = true) (GJ : FnOk P w K mg base CX0 1 fJ fdJ ["kind"] (spJk K)) (bJ : Binds K fdJ ["kind"] []) : FnOk P w K mg base (L2.CX P w) 6 f fd ["name"] (spKn K CR CN) := by
  have S0 : FnScope NKn ["name"] (defScope (top 38)) := ⟨rfl, rfl, rfl, by decide +kernel, rfl, by decide +kernel, by decide +kernel⟩
  have nd := S0.nd
  refine F.okX S0 (fun vs H Q E h => ?_) (fun cdv A outer s H vs Q E hr h => ?_)
  · obtain ⟨v, d, rfl, _⟩ := h
    rfl
  · obtain ⟨v, d, rfl, hd, k1, k2⟩ := h
    obtain ⟨fi, fdi, iC, tI, F1, b1⟩ := D.ini
    have hu64 := hr.units
    have hr1 : Room 1 _ := hr.mono (by decide)
    have hr2 : Room 2 _ := hr.mono (by decide)
    refine ⟨_, pss_cons (ps_if (pt_cmpR (op_notT hu64) (pv 0) (pe_tup (pa_cons pe_str (pa_cons pe_str (pa_cons pe_str (pa_cons pe_str pa_nil))))) (by rfl)) (pss_one (ps_raise rfl (takes_of rfl rfl rfl rfl) (pmk_oex D.cl.T iC tI F1 hr2 b1 .nil pass0 (by rfl) D.gC (pa_cons (pv 0) pa_nil)))) pss_nil)
      (pss_cons (ps_set (i := 1) nd rfl (Or.inl rfl) (pe_call GK hr1 (by rfl) gK kK bK .nil pass0 (pa_cons (pe_tup (pa_cons pe_bl pa_nil)) pa_nil)))
      (pss_cons (ps_if (pt_cmpR op_eq (pv 0) pe_str (nomark _)) (pss_one (ps_ret (pe_make M GI hr (by rfl) gR bI .nil (passes_call (takes_of rfl rfl rfl rfl) (fun _ _ _ _ h => h)) (pa_cons (pv 1) (pa_cons (pv 1) pa_nil))))) pss_nil)
      (pss_cons (ps_if (pt_cmpR op_eq (pv 0) pe_str (nomark _)) (pss_one (ps_ret (pe_make M GI hr (by rfl) gR bI .nil (passes_call (takes_of rfl rfl rfl rfl) (fun _ _ _ _ h => h)) (pa_cons (pe_call GK hr1 (by rfl) gK kK bK .nil pass0 (pa_cons (pe_tup (pa_cons pe_bl (pa_cons pe_bl pa_nil))) pa_nil)) (pa_cons (pe_call GK hr1 (by rfl) gK kK bK .nil pass0 (pa_cons (pe_tup (pa_cons pe_bl (pa_cons pe_bl pa_nil))) pa_nil)) pa_nil))))) pss_nil)
      (pss_cons (ps_setLc (i := 2) (own := [("kind", 3)]) (g := gName 3) rfl nd rfl rfl (sw_true rfl rfl rfl (by decide +kernel)) (pi_list (pv 1)) (blkOk_by (N := NKn) (sc := defScope (top 38)) (by decide +kernel)) (fun _ _ _ _ _ => pg_name (i := 3) nd rfl (Or.inl rfl)) (fun _ _ _ _ _ => pts_one (pt_cmpR (r := rNeD K) (op_neD hu64) (pv 3) (pe_glob (v := V.ref bA) (by rfl) gB rfl) (nomark _))) (fun _ _ _ _ _ => pv 3))
      (pss_cons (ps_if (pt_cmpR op_eq (pv 0) pe_str (nomark _)) (pss_one (ps_setLc (i := 2) (own := [("kind", 3)]) (g := gName 3) (tt := tYes) (te := tCall (spJk K) [] (fun _ _ _ => False) (tCons (tVar 3) tNil)) rfl nd rfl rfl (sw_true rfl rfl rfl (by decide +kernel)) (pi_list (pv 2)) (blkOk_by (N := NKn) (sc := defScope (top 38)) (by decide +kernel)) (fun _ _ _ _ _ => pg_name (i := 3) nd rfl (Or.inl rfl)) (fun _ _ _ _ _ => pts_nil)
          (fun _ _ _ _ _ => pe_call GJ hr1 (by rfl) gJ kJ bJ .nil pass0 (pa_cons (pv 3) pa_nil)))) pss_nil)
      (pss_one (ps_ret (pe_make M GI hr (by rfl) gR bI .nil (passes_call (takes_of rfl rfl rfl rfl) (fun _ _ _ _ h => h)) (pa_cons (pv 1) (pa_cons (pv 2) pa_nil)))))))))), ?_⟩
    refine ⟨v, rfl, (by show 4 ≤ sizeLine; decide), fun p hp => ?_⟩
    have s1 := upd_new (o := .tup [.str "plain", .str "joined", .str "bare", .str "free"]) hp
    have hp1 : upd H p (.tup [.str "plain", .str "joined", .str "bare", .str "free"]) p = some (.tup (four.map V.str)) := upd_same
    generalize upd H p (.tup [.str "plain", .str "joined", .str "bare", .str "free"]) = H1 at s1 hp1
    have hd1 := de_mono s1 d v hd
    cases hk : knD d with
    | false =>
      have thr : tCons (tVar 0) tNil (start NKn [v]) H1 fun vs H1 => vs.length ≤ 1000 ∧ ∀ a, H1 a = none → spX CN ["name"] (.ref a :: (vs ++ [])) (upd H1 a (exo a CN none))
          (fun v H2 => v = .non ∧ ∃ (d : Addr) (gs : List (Str × V)), H2 a = some (exo a CN (some d)) ∧ H2 d = some (exd d gs) ∧ H1 d = none ∧ E (.ref CN) (some d) (upd (del H2 a) d (.xd gs))) (fun _ _ _ => False) :=
        ⟨v, rfl, rd_mk rfl (by show 1 ≤ 1000; decide) fun dx H' s' n q => (k2 hk).mono s1 H' dx s' n q⟩
      cases hd1 with
      | lst ha hds => exact .inr ⟨p, _, _, four, rfl, rfl, .inl (.inl hp1), .lst ha hds, _, rfl, iteT thr⟩
      | tup ha hds => exact .inr ⟨p, _, _, four, rfl, rfl, .inl (.inl hp1), .tup ha hds, _, rfl, iteT thr⟩
      | dic ha => exact .inr ⟨p, _, _, four, rfl, rfl, .inl (.inl hp1), .dic ha, _, rfl, iteT thr⟩
      | non => exact .inl ⟨p, _, rfl, .inr (.inl (.inl hp1)), rfl, by decide, _, rfl, iteT thr⟩
      | bl b => exact .inl ⟨p, _, rfl, .inr (.inl (.inl hp1)), rfl, by decide, _, rfl, iteT thr⟩
      | int i => exact .inl ⟨p, _, rfl, .inr (.inl (.inl hp1)), rfl, by decide, _, rfl, iteT thr⟩
      | str n =>
        refine .inl ⟨p, _, rfl, .inr (.inl (.inl hp1)), rfl, by decide, _, rfl, ?_⟩
        rw [inV_strs, show decide (n ∈ four) = false from hk]
        exact iteT thr
    | true =>
      obtain ⟨n, rfl⟩ : ∃ n, d = .str n := by
        cases d with
        | str n => exact ⟨n, rfl⟩
        | _ => cases hk
      have hn : n ∈ four := of_decide_eq_true hk
      cases hd
      have kk := k1 n hn rfl
      refine .inl ⟨p, _, rfl, .inr (.inl (.inl hp1)), rfl, by decide, _, rfl, ?_⟩
      rw [inV_strs, decide_eq_true hn]
      refine iteF ⟨(by show 1 ≤ sizeLine; decide), fun u nu => ?_⟩
      have s2 := s1.trans (upd_new (o := .tup [.bl false]) nu)
      have hu2 : upd H1 u (.tup [.bl false]) u = some (.tup ([false].map V.bl)) := upd_same
      generalize upd H1 u (.tup [.bl false]) = H2 at s2 hu2
      refine ⟨u, [false], rfl, .inl (.inl hu2), by decide, fun H3 r L3 => ?_⟩
      have s3 := s2.trans L3.sm
      obtain ⟨⟨f1, f2⟩, ⟨f3, f4⟩⟩ := kw_fine
      obtain ⟨⟨f5, f6⟩, ⟨f7, f8⟩⟩ := kw_fine2
      refine ⟨V.str n, rfl, rfl, _, rfl, ?_⟩
      refine ite2 (fun c => ?_) (fun c => ?_)
      · have c := nm_eqS c
        obtain ⟨xs, r1, r2, r3⟩ := L3.rows (K := K) (by decide)
        refine ⟨V.ref r, rfl, V.ref r, rfl, mk_ruleG r1 r2 r3 r1 r2 r3 (fun i e => ?_) (fun _ i e => ?_) (fun _ _ H4 x s4 hR => ?_)⟩
        · rw [kscan_kds f1 f2] at e
          cases e
        · rw [kscan_kds f1 f2] at e
          cases e
        · rw [kds_kOf] at hR
          refine kk H4 x (s3.trans s4) ?_
          unfold knR knO
          rw [if_pos c, if_pos c]
          exact hR
      have c := nm_neS c
      refine ⟨V.str n, rfl, rfl, _, rfl, ?_⟩
      refine ite2 (fun c2 => ?_) (fun c2 => ?_)
      · have c2 := nm_eqS c2
        refine ⟨(by show 2 ≤ sizeLine; decide), fun u1 nu1 => ?_⟩
        have s4 := upd_new (o := .tup [.bl false, .bl true]) nu1
        have hu4 : upd H3 u1 (.tup [.bl false, .bl true]) u1 = some (.tup ([false, true].map V.bl)) := upd_same
        generalize upd H3 u1 (.tup [.bl false, .bl true]) = H4 at s4 hu4
        refine ⟨u1, [false, true], rfl, .inl (.inl hu4), by decide, fun H5 r5 L5 => ?_⟩
        refine ⟨(by show 2 ≤ sizeLine; decide), fun u2 nu2 => ?_⟩
        have s6 := upd_new (o := .tup [.bl false, .bl true]) nu2
        have hu6 : upd H5 u2 (.tup [.bl false, .bl true]) u2 = some (.tup ([false, true].map V.bl)) := upd_same
        have L6 := L5.mono s6
        generalize upd H5 u2 (.tup [.bl false, .bl true]) = H6 at s6 hu6 L6
        refine ⟨u2, [false, true], rfl, .inl (.inl hu6), by decide, fun H7 r7 L7 => ?_⟩
        obtain ⟨xs5, q1, q2, q3⟩ := (L6.mono L7.sm).rows (K := K) (by decide)
        obtain ⟨xs7, p1, p2, p3⟩ := L7.rows (K := K) (by decide)
        refine mk_ruleG q1 q2 q3 p1 p2 p3 (fun i e => ?_) (fun _ i e => ?_) (fun _ _ H8 x s8 hR => ?_)
        · rw [kscan_kds f3 f4] at e
          cases e
        · rw [kscan_kds f3 f4] at e
          cases e
        · rw [kds_kOf] at hR
          refine kk H8 x (s3.trans (s4.trans (L5.sm.trans (s6.trans (L7.sm.trans s8))))) ?_
          unfold knR knO
          rw [if_neg c, if_neg c, if_pos c2, if_pos c2]
          exact hR
      have c2 := nm_neS c2
      obtain ⟨ps, g1, g2, g3, g4⟩ := id L3
      have pl : ps.length = 6 := by
        have z := congrArg List.length g3
        unfold kds at z
        rw [List.length_map] at z
        exact z
      have b5 : (500 : Nat) ≤ sizeLine := by decide
      refine ⟨V.ref r, rfl, r, rfl, ⟨_, .inl (.inl g1)⟩, fun D1 nD1 => lcF_list (K := K) (ws := ps) (fun p => V.ref p.1) nD1 (fun p => V.ref p.1) (fun p => !decide (p.2 = bareK)) (.inl (.inl g1)) (by omega) (fun i p G hp sG A B kA kB => ?_) fun G4 s4 hD4 => ?_⟩
      · have hk2 := sG _ _ (g2 p (List.mem_of_getElem? hp))
        refine ⟨rfl, V.ref p.1, rfl, kdD p.2, kdD bareK, KAt.dp hk2, .tup (hB G) (.cons (.bl _) (.cons (.bl _) (.cons (.int _) .nil))), kd_shaped _, kd_shaped _, _, rfl, ?_⟩
        rw [kd_eqv]
        refine ite2 (fun cc => ⟨V.ref p.1, rfl, kA cc⟩) (fun cc => kB (by simpa using cc))
      have L4 : LstK H3 D1 ((kwS [false]).filter fun k => !decide (k = bareK)) G4 := by
        refine ⟨ps.filter fun p => !decide (p.2 = bareK), hD4, fun p hp => s4 _ _ (g2 p (List.mem_filter.mp hp).1), ?_, s4⟩
        rw [← g3]
        unfold kds
        rw [List.filter_map]
        rfl
      have L34 := L3.mono s4
      have fin : ∀ (G : Hp) (D2 : Addr) (os : List Kd), LstK H3 D2 os G → (∀ k ∈ os, OkK k) → os.Nodup → os.length ≤ 100 → knO n = os → ∀ σ, tNil σ G fun zs H2 => ∀ x dx, H2 x = none → H2 dx = none → dx ≠ x → spInitRG K CR CK (.ref x :: ((.ref r :: .ref D2 :: zs) ++ [])) (upd (upd H2 dx (.own x)) x (.ins CR dx [])) (fun v H3 => v = .non ∧ Q (.ref x) H3) E := fun G D2 os L h1 h2 h3 h4 σ => by
        obtain ⟨xs, r1, r2, r3⟩ := (L3.mono L.sm).rows (K := K) (by decide)
        obtain ⟨xs2, q1, q2, q3⟩ := L.rows (K := K) h3
        refine mk_ruleG r1 r2 r3 q1 q2 q3 (fun i e => ?_) (fun _ i e => ?_) (fun _ _ H8 x s8 hR => ?_)
        · rw [kscan_kds f1 f2] at e
          cases e
        · rw [kscan_kds h1 h2] at e
          cases e
        · rw [kds_kOf, kds_kOf] at hR
          refine kk H8 x (s3.trans (L.sm.trans s8)) ?_
          rw [h4]
          unfold knR
          rw [if_neg c, if_neg c2]
          exact hR
      refine ⟨V.str n, rfl, rfl, _, rfl, ?_⟩
      refine ite2 (fun c3 => ?_) (fun c3 => ?_)
      · have c3 := nm_eqS c3
        obtain ⟨qs, e1, e2, e3, e4⟩ := L4
        have ql : qs.length = 5 := by
          have z := congrArg List.length e3
          unfold kds at z
          rw [List.length_map] at z
          exact z
        refine ⟨V.ref D1, rfl, D1, rfl, ⟨_, .inl (.inl e1)⟩, fun D2 nD2 => lcK_map (K := K) jk nD2 e1 e2 (by omega) (fun i p G hp sG A kA => ?_) fun G5 L5 => ?_⟩
        · refine ⟨rfl, V.ref p.1, rfl, p.1, p.2, rfl, sG _ _ (e2 p (List.mem_of_getElem? hp)), fun H' r' s' h' => kA r' H' s' h'⟩
        · rw [e3] at L5
          have L5' : LstK H3 D2 (((kwS [false]).filter fun k => !decide (k = bareK)).map jk) G5 := by
            obtain ⟨ts, t1, t2, t3, t4⟩ := L5
            exact ⟨ts, t1, t2, t3, s4.trans t4⟩
          refine ⟨V.ref r, rfl, V.ref D2, rfl, fin G5 D2 _ L5' f7 f8 (by decide) ?_ _⟩
          unfold knO
          rw [if_neg c, if_neg c2, if_pos c3]
      · have c3 := nm_neS c3
        refine ⟨V.ref r, rfl, V.ref D1, rfl, fin G4 D1 _ L4 f5 f6 (by decide) ?_ _⟩
        unfold knO
        rw [if_neg c, if_neg c2, if_neg c3]
end
end SK
namespace SK
open PySem PySem.Spec PyProof.Rows L2 LamX NdefX
open K0 (De DeAll XCl spX withX)
theorem fls {b : Bool} (h : b = true) {A B : Prop} (k : B) : if (!b) = true then A else B := by
  rw [h]
  exact iteF k
theorem eqv_self {d : PyData} (h : SeqAt.shaped d = true) : PyData.eqv d d = true := SeqAt.eqv_refl d (SeqAt.canLay_of_shaped h)
theorem dp_strs {K : PySem.W.Frag} {H : Hp} : ∀ ws : List Str, DpAll K H (ws.map V.str) (ws.map PyData.str)
  | [] => .nil
  | w :: ws => .cons (.str w) (dp_strs ws)
theorem strs_lay : ∀ {ws : List Str}, (∀ y ∈ ws, PyData.strOk y = true) → PyData.canLayAll0 (ws.map PyData.str) = true ∧ PyData.depthAll (ws.map PyData.str) ≤ 1
  | [], _ => ⟨by simp [PyData.canLayAll0], by simp [PyData.depthAll]⟩
  | w :: ws, h => by
    obtain ⟨h1, h2⟩ := strs_lay (ws := ws) fun y hy => h y (List.mem_cons_of_mem _ hy)
    have hw := h w (by simp)
    refine ⟨by simp only [List.map_cons, PyData.canLayAll0, PyData.canLay0, h1, hw]; rfl, ?_⟩
    simp only [List.map_cons, PyData.depthAll, PyData.depth]
    omega
theorem strs_shapedT {ws : List Str} (h : ∀ y ∈ ws, PyData.strOk y = true) : SeqAt.shaped (.tuple (ws.map PyData.str)) = true := by
  obtain ⟨h1, h2⟩ := strs_lay h
  unfold SeqAt.shaped
  rw [Bool.and_eq_true, decide_eq_true_eq]
  refine ⟨by simp only [PyData.canLay0, h1], ?_⟩
  simp only [PyData.depth]
  omega
theorem zip_two {S : List Spot} {xs : List V} (h : xs.length = S.length) : (S.zip xs).map (fun p => p.2) = xs ∧ (S.zip xs).map (fun p => p.1) = S := ⟨List.map_snd_zip (by omega), List.map_fst_zip (by omega)⟩
theorem zip_at {K : PySem.W.Frag} {H : Hp} {S : List Spot} {xs : List V} {i : Nat} {p : Spot × V} (h : DeAll K H xs (S.map rowD)) (hp : (S.zip xs)[i]? = some p) : S[i]? = some p.1 ∧ xs[i]? = some p.2 ∧ ∃ t, p.2 = .ref t ∧ H t = some (.tup [.str p.1.1, .bl p.1.2.1, .bl p.1.2.2]) := by
  have hxl : xs.length = S.length := by
    have z := deAll_len h
    rwa [List.length_map] at z
  obtain ⟨e2, e1⟩ := zip_two hxl
  have hv : xs[i]? = some p.2 := by
    have z := congrArg (·[i]?) e2
    simp only [List.getElem?_map, hp, Option.map_some] at z
    exact z.symm
  have hs : S[i]? = some p.1 := by
    have z := congrArg (·[i]?) e1
    simp only [List.getElem?_map, hp, Option.map_some] at z
    exact z.symm
  refine ⟨hs, hv, ?_⟩
  obtain ⟨d, hd, hde⟩ := deAll_at h hv
  rw [List.getElem?_map, hs] at hd
  obtain rfl := Option.some.inj hd
  exact de_row (s := p.1) hde
theorem filt_true {α : Type} (l : List α) : l.filter (fun _ => true) = l := List.filter_eq_self.mpr fun _ _ => rfl
theorem kept_strs (S : List Spot) : keptV S = ((S.filter fun s => s.2.1).map (·.1)).map V.str := by
  unfold keptV
  rw [List.map_map]
  rfl
theorem row_shaped {s : Spot} (h : PyData.strOk s.1 = true) : SeqAt.shaped (rowD s) = true := by
  unfold SeqAt.shaped rowD
  rw [Bool.and_eq_true, decide_eq_true_eq]
  refine ⟨by simp [PyData.canLay0, PyData.canLayAll0, h], ?_⟩
  simp [PyData.depth, PyData.depthAll]
theorem cutV_take (xs : List V) (n : Nat) : cutV xs none (some (n : Int)) = xs.take n := by
  unfold cutV
  rw [HT.sIx_none, HT.sIx_nat, List.drop_zero, Nat.sub_zero, ← List.take_take, List.take_length]
theorem cutV_drop (xs : List V) (n : Nat) (h : n ≤ xs.length) : cutV xs (some (n : Int)) none = xs.drop n := by
  unfold cutV
  rw [HT.sIx_none, HT.sIx_nat, Nat.min_eq_left h]
  exact List.take_of_length_le (by rw [List.length_drop]; omega)
def mulL (ls : Str) : Str := Txt.mul (cutS ls none (some 1)) 201
def blkL (ls : Str) : Str := cutS ls none (some 1) ++ (Str.ofString " ")
/-! ### the law's own kinds -/
def spAll : Sp := fun vs H Q _ => vs = [] ∧ ∀ (H' : Hp) (r : Addr), LstK H r (kwS [false, true]) H' → H r = none → Q (.ref r) H'
theorem KsAt.append {H : Hp} {ps qs : PK} (h1 : KsAt H ps) (h2 : KsAt H qs) : KsAt H (ps ++ qs) := fun p hp => (List.mem_append.mp hp).elim (h1 p) (h2 p)
theorem belL_count (ps : List Str) (q : Str) : (belL ps q).length = (ps.filter fun r => decide (r ≠ Str.ofString "") && decide (initS r = q)).length := by
  unfold belL
  induction ps with
  | nil => rfl
  | cons r ps ih =>
    by_cases h1 : r = Str.ofString ""
    · rw [List.filterMap_cons_none (by rw [if_neg (fun z => z.1 h1)]), List.filter_cons_of_neg (by simp [h1])]
      exact ih
    · by_cases h2 : initS r = q
      · have hne : r.cps.toList ≠ [] := fun z => h1 (str_ext (by rw [z, empty_list]))
        obtain ⟨c, hc⟩ : ∃ c, r.cps.toList.getLast? = some c := ⟨_, List.getLast?_eq_some_getLast hne⟩
        rw [List.filterMap_cons_some (b := c) (by rw [if_pos ⟨h1, h2⟩]; exact hc), List.filter_cons_of_pos (by simp [h1, h2]), List.length_cons, List.length_cons, ih]
      · rw [List.filterMap_cons_none (by rw [if_neg (fun z => h2 z.2)]), List.filter_cons_of_neg (by simp [h2])]
        exact ih
theorem filt_one : ∀ {l : List (Spot × V)} {p : Spot × V}, (l.map fun r => r.1.1).Nodup → p ∈ l → l.filter (fun r => decide (r.1.1 = p.1.1)) = [p]
  | [], _, _, h => absurd h (by simp)
  | r :: l, p, nd, h => by
    rw [List.map_cons, List.nodup_cons] at nd
    rcases List.mem_cons.mp h with rfl | h
    · rw [List.filter_cons_of_pos (by simp)]
      have z : l.filter (fun r => decide (r.1.1 = p.1.1)) = [] := List.filter_eq_nil_iff.mpr fun r hr e => nd.1 (by
        have e := of_decide_eq_true e
        rw [← e]
        exact List.mem_map.mpr ⟨r, hr, rfl⟩)
      rw [z]
    · have ne : ¬ decide (r.1.1 = p.1.1) = true := fun e => nd.1 (by
        rw [of_decide_eq_true e]
        exact List.mem_map.mpr ⟨p, h, rfl⟩)
      rw [List.filter_cons_of_neg (p := fun r : Spot × V => decide (r.1.1 = p.1.1)) ne]
      exact filt_one nd.2 h
def spKindL (K : PySem.W.Frag) : Sp := fun vs H Q _ => ∃ (a : Addr) (xs : List V) (S : List Spot) (s : Spot), vs = [.ref a, .str s.1] ∧ H a = some (.lst xs) ∧ DeAll K H xs (S.map rowD) ∧ (plc S).Nodup ∧ s ∈ S ∧ S.length ≤ 2000 ∧ (∀ p ∈ plc S, p.cps.size ≤ 200) ∧ ∀ (H' : Hp) (r : Addr), Same H H' → KAt H' r (kdS S s) → Q (.ref r) H'
section
variable {P : Program} {w : World} {K : PySem.W.Frag} {mg : Str → Option Value} {base : Heap} {f : Addr} {fd : FuncData}
abbrev NA : List Str := ["found", "mark", "flag", "children"]
theorem ok_all (F : Fun K "_law_all_kinds" "_law_all_kinds" (top 48) f fd) (gR : mg "range" = none) : FnOk P w K mg base CX0 1 f fd [] spAll := by
  have S0 : FnScope NA [] (defScope (top 48)) := ⟨rfl, rfl, rfl, by decide +kernel, rfl, by decide +kernel, by decide +kernel⟩
  have nd := S0.nd
  refine F.ok S0 (fun vs H Q E h => ?_) (fun cdv A outer s H vs Q E hr h => ?_)
  · obtain ⟨rfl, _⟩ := h
    rfl
  · obtain ⟨rfl, kk⟩ := h
    refine ⟨_, pss_cons (ps_set (i := 0) nd rfl (Or.inl rfl) (pe_lst pa_nil))
      (pss_cons (ps_for PassesOwn.never rfl (pi_tup (pe_tup (pa_cons pe_bl (pa_cons pe_bl pa_nil)))) (pg_name (i := 1) nd rfl (Or.inr rfl))
        (pss_one (ps_for PassesOwn.never rfl (pi_tup (pe_tup (pa_cons pe_bl (pa_cons pe_bl pa_nil)))) (pg_name (i := 2) nd rfl (Or.inr rfl))
          (pss_one (ps_set (i := 0) nd rfl (Or.inl rfl) (pe_op op_cat (pv 0) (pe_lc (own := [("children", 3)]) (g := gName 3) (tt := tYes) rfl nd (pi_range1 (by rfl) gR (pa_cons pe_int pa_nil)) (blkOk_by (N := NA) (sc := defScope (top 48)) (by decide +kernel))
            (fun _ _ _ _ _ => pg_name (i := 3) nd rfl (Or.inl rfl)) (fun _ _ _ _ _ => pts_nil) (fun _ _ _ _ _ => pe_tup (pa_cons (pv 1) (pa_cons (pv 2) (pa_cons (pv 3) pa_nil)))))))))))
      (pss_one (ps_ret (pv 0)))), ?_⟩
    refine ⟨Nat.zero_le _, fun r0 nr0 => ?_⟩
    have L0 : LstK H r0 [] (upd H r0 (.lst [])) := LstK.new nr0
    generalize upd H r0 (.lst []) = H0 at L0
    refine ⟨(by show 2 ≤ sizeLine; decide), fun p hp => ⟨p, rfl, ⟨_, .inl (.inl upd_same)⟩, ?_⟩⟩
    have s1 := upd_new (o := .tup [.bl false, .bl true]) hp
    have hp1 : upd H0 p (.tup [.bl false, .bl true]) p = some (.tup [.bl false, .bl true]) := upd_same
    have L1 := L0.mono s1
    generalize upd H0 p (.tup [.bl false, .bl true]) = H1 at s1 hp1 L1
    refine for_it (walk_tup (K := K) (xs := [.bl false, .bl true])) (fun i σ G => ∃ (r : Addr) (x1 x2 : Option V), σ = [some (.ref r), x1, x2, none] ∧ H r = none ∧ LstK H r (([false, true].take i).flatMap (rowK [false, true])) G ∧ G p = some (.tup [.bl false, .bl true])) ⟨r0, none, none, rfl, nr0, L1, hp1⟩ (fun i σ G _ q => ?_) ?_ ?_
    · obtain ⟨_, _, _, _, _, _, h⟩ := q
      exact .inl (.inl h)
    · rintro i x σ G G' hi ⟨r, x1, x2, rfl, nr, L, hpG⟩ ⟨rfl, hx⟩
      obtain ⟨m, hm, rfl⟩ := map_at (enc := V.bl) (ws := [false, true]) hx
      have done : (([false, true].take (i + 1)).flatMap (rowK [false, true])) = (([false, true].take i).flatMap (rowK [false, true])) ++ ([false, true].take 2).flatMap (cellK m) := by
        rw [take_snoc hm, List.flatMap_append]
        simp [rowK]
      have l0 : (([false, true].take i).flatMap (rowK [false, true])).length ≤ 12 := by
        match i, hi with
        | 0, _ => decide
        | 1, _ => decide
      rw [done]
      generalize ([false, true].take i).flatMap (rowK [false, true]) = d0 at L l0
      refine ⟨(by show 2 ≤ sizeLine; decide), fun u hu => ⟨u, rfl, ⟨_, .inl (.inl upd_same)⟩, ?_⟩⟩
      have s2 := upd_new (o := .tup [.bl false, .bl true]) hu
      have hu1 : upd G' u (.tup [.bl false, .bl true]) u = some (.tup [.bl false, .bl true]) := upd_same
      have L2 := L.mono s2
      have hp2 := s2 _ _ hpG
      generalize upd G' u (.tup [.bl false, .bl true]) = G2 at s2 hu1 L2 hp2
      refine for_it (walk_tup (K := K) (xs := [.bl false, .bl true])) (fun j σ G => ∃ (r : Addr) (x2 : Option V), σ = [some (.ref r), some (.bl m), x2, none] ∧ H r = none ∧ LstK H r (d0 ++ ([false, true].take j).flatMap (cellK m)) G ∧ G p = some (.tup [.bl false, .bl true]) ∧ G u = some (.tup [.bl false, .bl true]))
        ⟨r, x2, rfl, nr, by simpa using L2, hp2, hu1⟩ (fun j σ G _ q => ?_) ?_ ?_
      · obtain ⟨_, _, _, _, _, _, h⟩ := q
        exact .inl (.inl h)
      · rintro j y σ G3 G4 hj ⟨r, x2, rfl, nr, L3, hp3, hu3⟩ ⟨rfl, hy⟩
        obtain ⟨f0, hf, rfl⟩ := map_at (enc := V.bl) (ws := [false, true]) hy
        refine ⟨V.ref r, rfl, 3, rfl, (by decide), (by decide), fun D nD => lc_it walk_range (fun k G => LstK G4 D ((([0, 1, 2] : List Int).take k).map fun c => ((m, f0, c) : Kd)) G) (LstK.new nD) (fun _ _ _ _ => trivial) ?_ ?_⟩
        · rintro k z G5 G6 hk L5 ⟨rfl, rfl⟩
          have hk3 : k < 3 := hk
          have hc : ([0, 1, 2] : List Int)[k]? = some (0 + (k : Int)) := by
            match k, hk3 with
            | 0, _ => rfl
            | 1, _ => rfl
            | 2, _ => rfl
          refine ⟨rfl, V.bl m, rfl, V.bl f0, rfl, V.int (0 + k), rfl, (by show 3 ≤ sizeLine; decide), fun t ht => ?_⟩
          have s6 := upd_new (o := .tup [.bl m, .bl f0, .int (0 + k)]) ht
          have ht6 : KAt (upd G6 t (.tup [.bl m, .bl f0, .int (0 + k)])) t (m, f0, 0 + (k : Int)) := upd_same
          obtain ⟨acc, e1, e2, e3⟩ := (L5.mono s6).put nD ht6 (by
            rw [List.length_map, List.length_take]
            have : min k ([0, 1, 2] : List Int).length ≤ 3 := Nat.min_le_right _ _
            omega)
          refine ⟨acc, e1, e2, ?_⟩
          rw [take_snoc hc, List.map_append]
          exact e3
        · intro G5 L5
          have L5 : LstK G4 D (cellK m f0) G5 := L5
          obtain ⟨ps, a1, a2, a3, a4⟩ := L3
          obtain ⟨qs, b1, b2, b3, b4⟩ := L5
          have b5 : (500 : Nat) ≤ sizeLine := by decide
          have pl : (rfs ps).length = (d0 ++ ([false, true].take j).flatMap (cellK m)).length := by
            rw [← a3]
            unfold rfs kds
            rw [List.length_map, List.length_map]
          have ql : (rfs qs).length = 3 := by
            have z := congrArg List.length b3
            unfold kds at z
            rw [List.length_map] at z
            unfold rfs
            rw [List.length_map]
            exact z
          have l1 : (([false, true].take j).flatMap (cellK m)).length ≤ 6 := by
            match j, hj with
            | 0, _ => simp
            | 1, _ => simp [cell_len]
          rw [List.length_append] at pl
          refine ⟨r, D, _, _, rfl, rfl, b4 _ _ a1, b1, by omega, fun q nq => ?_⟩
          have s7 := upd_new (o := .lst (rfs ps ++ rfs qs)) nq
          have sall : Same H (upd G5 q (.lst (rfs ps ++ rfs qs))) := a4.trans (b4.trans s7)
          refine ⟨q, _, rfl, ?_, ⟨ps ++ qs, ?_, fun p hp => ?_, ?_, sall⟩, s7 _ _ (b4 _ _ hp3), s7 _ _ (b4 _ _ hu3)⟩
          · cases e : H q with
            | none => rfl
            | some o =>
              rw [b4 _ _ (a4 _ _ e)] at nq
              cases nq
          · rw [upd_same]
            unfold rfs
            rw [List.map_append]
          · rcases List.mem_append.mp hp with hp | hp
            · exact s7 _ _ (b4 _ _ (a2 p hp))
            · exact s7 _ _ (b2 p hp)
          · unfold kds at a3 b3 ⊢
            rw [List.map_append, a3, b3, take_snoc hf, List.flatMap_append, List.append_assoc]
            simp
      · rintro σ G3 ⟨r, x2, rfl, nr, L3, hp3, hu3⟩
        exact ⟨r, _, _, rfl, nr, L3, hp3⟩
    · rintro σ G ⟨r, x1, x2, rfl, nr, L, _⟩
      exact ⟨V.ref r, rfl, kk G r L nr⟩
abbrev NKi : List Str := ["rows", "place", "told", "children", "row"]
theorem ok_kindL (F : Fun K "_law_kind" "_law_kind" (top 49) f fd) (gN : mg "len" = none) (gM : mg "min" = none) : FnOk P w K mg base CX0 1 f fd ["rows", "place"] (spKindL K) := by
  have S0 : FnScope NKi ["rows", "place"] (defScope (top 49)) := ⟨rfl, rfl, rfl, by decide +kernel, rfl, by decide +kernel, by decide +kernel⟩
  have nd := S0.nd
  refine F.ok S0 (fun vs H Q E h => ?_) (fun cdv A outer s H vs Q E hr h => ?_)
  · obtain ⟨a, xs, S, s, rfl, _⟩ := h
    rfl
  · obtain ⟨a, xs, S, s0, rfl, ha, hda, hnd, hs0, hz, hsz, kk⟩ := h
    refine ⟨_, pss_cons (ps_set (i := 2) nd rfl (Or.inl rfl) (pe_ix (r := rIxL K) ix_list (pe_lc (own := [("row", 4)]) (g := gName 4) rfl nd (pi_list (pv 0)) (blkOk_by (N := NKi) (sc := defScope (top 49)) (by decide +kernel))
        (fun _ _ _ _ _ => pg_name (i := 4) nd rfl (Or.inl rfl)) (fun _ _ _ _ _ => pts_one (pt_cmpR op_eq (pe_ix (r := rIxT K) ix_tup (pv 4) pe_int (fun _ _ => rfl)) (pv 1) (nomark _))) (fun _ _ _ _ _ => pv 4)) pe_int (fun _ _ => rfl)))
      (pss_cons (ps_set (i := 3) nd rfl (Or.inl rfl) (pe_callB call_len_seq (by rfl) gN PySem.boot_len (pa_cons (pe_lc (own := [("row", 4)]) (g := gName 4) rfl nd (pi_list (pv 0)) (blkOk_by (N := NKi) (sc := defScope (top 49)) (by decide +kernel))
        (fun _ _ _ _ _ => pg_name (i := 4) nd rfl (Or.inl rfl)) (fun _ _ _ _ _ => pts_one (PW.pt (pw_and (pt_cmpR op_ne (pe_ix (r := rIxT K) ix_tup (pv 4) pe_int (fun _ _ => rfl)) pe_str (nomark _)) (pw_and1 (pt_cmpR op_eq (pe_slice sl_str (pe_ix (r := rIxT K) ix_tup (pv 4) pe_int (fun _ _ => rfl)) po_none (po_some (pe_un un_neg pe_int))) (pv 1) (nomark _)))))) (fun _ _ _ _ _ => pv 4)) pa_nil)))
      (pss_one (ps_ret (pe_tup (pa_cons (pe_ix (r := rIxT K) ix_tup (pv 2) pe_int (fun _ _ => rfl)) (pa_cons (pe_ix (r := rIxT K) ix_tup (pv 2) pe_int (fun _ _ => rfl)) (pa_cons (pe_callB (call_min2 rfl) (by rfl) gM PyProof.Rows.boot_min (pa_cons pe_int (pa_cons (pv 3) pa_nil))) pa_nil))))))), ?_⟩
    have hxl : xs.length = S.length := by
      have z := deAll_len hda
      rwa [List.length_map] at z
    obtain ⟨e2, e1⟩ := zip_two hxl
    have b2 : (5000 : Nat) < sizeLine := by decide
    have epl : (S.zip xs).map (fun p => p.1.1) = plc S := by
      unfold plc
      conv => rhs; rw [← e1, List.map_map]
      rfl
    obtain ⟨v0, hv0⟩ : ∃ v0, (s0, v0) ∈ S.zip xs := by
      have hs0' := hs0
      rw [← e1] at hs0'
      obtain ⟨p, hp, e⟩ := List.mem_map.mp hs0'
      exact ⟨p.2, by rw [← e]; exact hp⟩
    have one := filt_one (l := S.zip xs) (p := (s0, v0)) (by rw [epl]; exact hnd) hv0
    obtain ⟨t0, et0, ht0⟩ : ∃ t, v0 = .ref t ∧ H t = some (.tup [.str s0.1, .bl s0.2.1, .bl s0.2.2]) := by
      obtain ⟨i, hi⟩ := List.mem_iff_getElem?.mp hv0
      exact (zip_at hda hi).2.2
    subst et0
    refine ⟨V.ref a, rfl, a, rfl, ⟨_, .inl (.inl ha)⟩, fun D nD => lcF_list (K := K) (ws := S.zip xs) (fun p => p.2) nD (fun p => p.2) (fun p => decide (p.1.1 = s0.1)) (by rw [e2]; exact .inl (.inl ha)) (by rw [List.length_zip]; omega) (fun i p G hp sG A B kA kB => ?_) fun G1 s1 hD => ?_⟩
    · obtain ⟨s1, v⟩ := p
      obtain ⟨_, _, t, et, ht⟩ := zip_at hda hp
      have et : v = .ref t := et
      subst et
      refine ⟨rfl, V.ref t, rfl, t, _, 0, .str s1.1, rfl, rfl, .inl (.inl (sG _ _ ht)), rfl, V.str s0.1, rfl, rfl, _, rfl, ?_⟩
      refine ite2 (fun c => ⟨V.ref t, rfl, kA (decide_eq_true (nm_eqS c))⟩) (fun c => kB (decide_eq_false (nm_neS c)))
    rw [one] at hD
    have hD : G1 D = some (.lst [.ref t0]) := hD
    refine ⟨D, _, 0, .ref t0, rfl, rfl, .inl (.inl hD), rfl, ?_⟩
    have ha1 := s1 _ _ ha
    have hda1 := de_monoAll s1 _ _ hda
    refine ⟨V.ref a, rfl, a, rfl, ⟨_, .inl (.inl ha1)⟩, fun D2 nD2 => lcF_list (K := K) (ws := S.zip xs) (fun p => p.2) nD2 (fun p => p.2) (fun p => decide (p.1.1 ≠ Str.ofString "") && decide (initS p.1.1 = s0.1)) (by rw [e2]; exact .inl (.inl ha1)) (by rw [List.length_zip]; omega) (fun i p G hp sG A B kA kB => ?_) fun G2 s2 hD2 => ?_⟩
    · obtain ⟨s1, v⟩ := p
      obtain ⟨hs1, _, t, et, ht⟩ := zip_at hda1 hp
      have et : v = .ref t := et
      subst et
      have z1 := hsz s1.1 (List.mem_map.mpr ⟨s1, List.mem_of_getElem? hs1, rfl⟩)
      have z2 : (200 : Nat) ≤ sizeLine := by decide
      refine ⟨rfl, V.ref t, rfl, t, _, 0, .str s1.1, rfl, rfl, .inl (.inl (sG _ _ ht)), rfl, rfl, _, rfl, ?_⟩
      by_cases c : s1.1 = Str.ofString ""
      · rw [decide_eq_true (show V.str s1.1 = V.str (Str.ofString "") by rw [c])]
        refine iteF (kB ?_)
        show (decide (s1.1 ≠ Str.ofString "") && _) = false
        rw [decide_eq_false (fun z => z c)]
        rfl
      · rw [decide_eq_false (fun z : V.str s1.1 = V.str (Str.ofString "") => c (V.str.inj z))]
        refine iteT ⟨V.ref t, rfl, t, _, 0, .str s1.1, rfl, rfl, .inl (.inl (sG _ _ ht)), rfl, _, rfl, -1, rfl, s1.1, rfl, Nat.le_trans z1 z2, V.str s0.1, rfl, rfl, _, rfl, ?_⟩
        rw [cut_init]
        have ec : decide (s1.1 ≠ Str.ofString "") = true := decide_eq_true c
        refine ite2 (fun c => ⟨V.ref t, rfl, kA ?_⟩) (fun c => kB ?_)
        · show (decide (s1.1 ≠ Str.ofString "") && decide (initS s1.1 = s0.1)) = true
          rw [ec, decide_eq_true (nm_eqS c)]
          rfl
        · show (decide (s1.1 ≠ Str.ofString "") && decide (initS s1.1 = s0.1)) = false
          rw [ec, decide_eq_false (nm_neS c)]
          rfl
    have ecount : (((S.zip xs).filter fun p => decide (p.1.1 ≠ Str.ofString "") && decide (initS p.1.1 = s0.1)).map fun p => p.2).length = (belL (plc S) s0.1).length := by
      rw [belL_count, List.length_map, ← epl, List.filter_map, List.length_map]
      rfl
    generalize ((S.zip xs).filter fun p => decide (p.1.1 ≠ Str.ofString "") && decide (initS p.1.1 = s0.1)).map (fun p => p.2) = zs at hD2 ecount
    refine ⟨D2, zs, rfl, .inl (.inl (.inl hD2)), ?_⟩
    have ht2 := s2 _ _ (s1 _ _ ht0)
    refine ⟨V.ref t0, rfl, t0, _, 1, .bl s0.2.1, rfl, rfl, .inl (.inl ht2), rfl, V.ref t0, rfl, t0, _, 2, .bl s0.2.2, rfl, rfl, .inl (.inl ht2), rfl, V.int (zs.length : Nat), rfl, 2, (zs.length : Nat), rfl, (by show 3 ≤ sizeLine; decide), fun r nr => ?_⟩
    refine kk _ r ((s1.trans s2).trans (upd_new nr)) ?_
    have ek : (if ((zs.length : Nat) : Int) < 2 then ((zs.length : Nat) : Int) else 2) = (kdS S s0).2.2 := by
      rw [ecount]
      show _ = ((min 2 (belL (plc S) s0.1).length : Nat) : Int)
      split <;> omega
    show upd G2 r (.tup [.bl s0.2.1, .bl s0.2.2, .int _]) r = some (.tup (kdV (kdS S s0)))
    rw [upd_same, ek]
    rfl
end
end SK
namespace SK
open PySem PySem.Spec PyProof.Rows L2 LamX NdefX
open K0 (De DeAll XCl spX withX)
/-! ### lists of words that are fine, and such that are not -/
theorem okW_of {ls y : Str} (h : OverL ls y) : okW ls (.str y) = true := by
  show (decide (y.cps.size ≤ 200) && y.cps.toList.all fun c => decide (c ∈ ls.cps.toList)) = true
  rw [Bool.and_eq_true, decide_eq_true_eq, List.all_eq_true]
  exact ⟨h.1, fun c hc => decide_eq_true (h.2 c hc)⟩
theorem wscan_app {ls : Str} : ∀ {ws seen : List Str} {i : Nat} {rest : List PyData}, (∀ y ∈ ws, OverL ls y) → ws.Nodup → (∀ y ∈ ws, y ∉ seen) → wscan ls seen i (ws.map PyData.str ++ rest) = wscan ls (seen ++ ws) (i + ws.length) rest
  | [], seen, i, rest, _, _, _ => by simp
  | w :: ws, seen, i, rest, h1, h2, h3 => by
    rw [List.nodup_cons] at h2
    show (if okW ls (.str w) = true ∧ w ∉ seen then wscan ls (seen ++ [w]) (i + 1) (ws.map PyData.str ++ rest) else some i) = _
    rw [if_pos ⟨okW_of (h1 w (by simp)), h3 w (by simp)⟩, wscan_app (fun y hy => h1 y (List.mem_cons_of_mem _ hy)) h2.2 (fun y hy z => ?_)]
    · rw [List.append_assoc, List.length_cons]
      show wscan ls (seen ++ ([w] ++ ws)) (i + 1 + ws.length) rest = _
      rw [Nat.add_assoc, Nat.add_comm 1]
      rfl
    · rcases List.mem_append.mp z with z | z
      · exact h3 y (List.mem_cons_of_mem _ hy) z
      · obtain rfl : y = w := by simpa using z
        exact h2.1 hy
theorem wscan_fine {ls : Str} {ws : List Str} (h1 : ∀ y ∈ ws, OverL ls y) (h2 : ws.Nodup) : wscan ls [] 0 (ws.map PyData.str) = none := by
  have z := wscan_app (rest := []) (seen := []) (i := 0) h1 h2 (fun y _ => by simp)
  rw [List.append_nil] at z
  rw [z]
  rfl
theorem wscan_bad {ls : Str} {ws : List Str} {d : PyData} {rest : List PyData} (h1 : ∀ y ∈ ws, OverL ls y) (h2 : ws.Nodup) (hd : ¬ (okW ls d = true ∧ strOf d ∉ ws)) : wscan ls [] 0 (ws.map PyData.str ++ d :: rest) = some ws.length := by
  rw [wscan_app h1 h2 (fun y _ => by simp), List.nil_append, Nat.zero_add]
  show (if okW ls d = true ∧ strOf d ∉ ws then _ else some ws.length) = _
  rw [if_neg hd]
/-! ### how many there can be -/
theorem nobL_le : ∀ (l : List Str) (last : Str) (m : Nat), m ≤ nobL last l m ∧ nobL last l m ≤ m + (l.map fun y => y.cps.size).sum
  | [], _, m => by simp [nobL]
  | y :: r, last, m => by
    obtain ⟨h1, h2⟩ := nobL_le r y (m + (y.cps.size - lcpS last y))
    show m ≤ nobL y r _ ∧ nobL y r _ ≤ _
    simp only [List.map_cons, List.sum_cons]
    omega
theorem sum_le {l : List Str} {n : Nat} (h : ∀ y ∈ l, y.cps.size ≤ n) : (l.map fun y => y.cps.size).sum ≤ n * l.length := by
  induction l with
  | nil => simp
  | cons y r ih =>
    have := ih fun u hu => h u (List.mem_cons_of_mem _ hu)
    have := h y (by simp)
    simp only [List.map_cons, List.sum_cons, List.length_cons, Nat.mul_add, Nat.mul_one]
    omega
theorem nob_le {ws : List Str} {n : Nat} (h : ∀ y ∈ ws, y.cps.size ≤ n) : 1 ≤ nob ws ∧ nob ws ≤ 1 + n * ws.length := by
  obtain ⟨h1, h2⟩ := nobL_le (srt ws) "" 1
  have pm : (srt ws).Perm ws := List.mergeSort_perm _ _
  have h3 := sum_le (l := srt ws) fun y hy => h y (pm.mem_iff.mp hy)
  rw [pm.length_eq] at h3
  unfold nob
  omega
/-- all beginnings, as a list -/
def begsOf (n : Nat) (ws : List Str) : List Str := Str.ofString "" :: ws.flatMap fun y => (List.range n).map fun k => (⟨(y.cps.toList.take (k + 1)).toArray⟩ : Str)
theorem begs_len (n : Nat) (ws : List Str) : (begsOf n ws).length = 1 + n * ws.length := by
  unfold begsOf
  rw [List.length_cons, List.length_flatMap]
  have e : (ws.map fun y => ((List.range n).map fun k => (⟨(y.cps.toList.take (k + 1)).toArray⟩ : Str)).length) = ws.map fun _ => n := List.map_congr_left fun y _ => by rw [List.length_map, List.length_range]
  rw [e]
  clear e
  induction ws with
  | nil => simp
  | cons y r ih =>
    simp only [List.map_cons, List.sum_cons, List.length_cons, Nat.mul_add, Nat.mul_one]
    omega
theorem begs_mem {n : Nat} {ws : List Str} (h : ∀ y ∈ ws, y.cps.size ≤ n) {x : Str} (hx : isBeg ws x) : x ∈ begsOf n ws := by
  unfold begsOf
  rcases hx with rfl | ⟨y, hy, hp⟩
  · simp
  · by_cases e : x.cps.toList.length = 0
    · have : x = Str.ofString "" := str_ext (by rw [empty_list]; exact List.eq_nil_of_length_eq_zero e)
      rw [this]
      simp
    · refine List.mem_cons_of_mem _ (List.mem_flatMap.mpr ⟨y, hy, List.mem_map.mpr ⟨x.cps.toList.length - 1, ?_, ?_⟩⟩)
      · rw [List.mem_range]
        have z := hp.length_le
        have z2 := h y hy
        rw [Array.length_toList] at z e ⊢
        rw [Array.length_toList] at z
        omega
      · refine str_ext ?_
        rw [List.toList_toArray]
        have e2 : x.cps.toList.length - 1 + 1 = x.cps.toList.length := by omega
        rw [e2]
        exact (List.prefix_iff_eq_take.mp hp).symm
theorem caps {n : Nat} {ws : List Str} (h : ∀ y ∈ ws, y.cps.size ≤ n) (hn : 1 + n * ws.length ≤ 2000) : ∀ bs : List Str, bs.Nodup → (∀ x ∈ bs, isBeg ws x) → bs.length ≤ 2000 := fun bs nd hb => by
  have z := List.Nodup.length_le_of_subset nd (l₂ := begsOf n ws) fun x hx => begs_mem h (hb x hx)
  rw [begs_len] at z
  omega
theorem six_ok : ∀ x ∈ six, okLb x = true := by decide +kernel
theorem six_okL {x : Str} (h : x ∈ six) : OkL x := okL_of (six_ok x h)
theorem six_asc : ∀ x ∈ six, x.cps.all (· < 128) = true ∧ x.cps.size ≤ 1000 := by decide +kernel
theorem strs_ok {ls y : Str} (h : OkL ls) (o : OverL ls y) : PyData.strOk y = true := by
  unfold PyData.strOk
  rw [← Array.all_toList, List.all_eq_true]
  intro c hc
  have z := h.al c (o.2 c hc)
  exact decide_eq_true (by omega)
theorem fit_strs {ws : List Str} (h : ∀ y ∈ ws, y.cps.size ≤ 1000) : TxtFit (ws.map PyData.str) := fun x hx => by
  obtain ⟨y, hy, e⟩ := List.mem_map.mp hx
  injection e with e
  exact e ▸ h y hy
end SK
namespace SK
open PySem PySem.Spec PyProof.Rows L2 LamX NdefX
open K0 (De DeAll XCl spX withX)
/-! ### the flags that are let; exact rules -/
theorem kzip_at {K : PySem.W.Frag} {H : Hp} {ks : List Kd} {xs : List V} {i : Nat} {p : Kd × V} (h : DeAll K H xs (ks.map kdD)) (hp : (ks.zip xs)[i]? = some p) : ks[i]? = some p.1 ∧ ∃ t, p.2 = .ref t ∧ KAt H t p.1 := by
  have hxl : xs.length = ks.length := by
    have z := deAll_len h
    rwa [List.length_map] at z
  have e2 : (ks.zip xs).map (fun p => p.2) = xs := List.map_snd_zip (by omega)
  have e1 : (ks.zip xs).map (fun p => p.1) = ks := List.map_fst_zip (by omega)
  have hv : xs[i]? = some p.2 := by
    have z := congrArg (·[i]?) e2
    simp only [List.getElem?_map, hp, Option.map_some] at z
    exact z.symm
  have hs : ks[i]? = some p.1 := by
    have z := congrArg (·[i]?) e1
    simp only [List.getElem?_map, hp, Option.map_some] at z
    exact z.symm
  refine ⟨hs, ?_⟩
  obtain ⟨d, hd, hde⟩ := deAll_at h hv
  rw [List.getElem?_map, hs] at hd
  obtain rfl := Option.some.inj hd
  have hde : De K H p.2 (.tuple [.bool p.1.1, .bool p.1.2.1, .int p.1.2.2]) := hde
  generalize hpv : p.2 = v at hde
  cases hde with
  | tup ha hd =>
    rw [us_kd hd] at ha
    exact ⟨_, rfl, ha⟩
def flS (ks : List Kd) (m : Bool) (c : Int) : List Bool := (ks.filter fun k => decide (k.1 = m) && decide (k.2.2 = c)).map fun k => k.2.1
theorem kzip_fl {ks : List Kd} {xs : List V} (h : xs.length = ks.length) (m : Bool) (c : Int) : ((ks.zip xs).filter fun p => decide (p.1.1 = m) && decide (p.1.2.2 = c)).map (fun p => V.bl p.1.2.1) = (flS ks m c).map V.bl := by
  have e1 : (ks.zip xs).map (fun p => p.1) = ks := List.map_fst_zip (by omega)
  unfold flS
  conv => rhs; rw [← e1, List.filter_map, List.map_map, List.map_map]
  rfl
def spFl (K : PySem.W.Frag) : Sp := fun vs H Q _ => ∃ (r : Addr) (m : Bool) (c : Int) (ks : List Kd), vs = [.ref r, .bl m, .int c] ∧ De K H (.ref r) (.tuple (ks.map kdD)) ∧ ks.length ≤ 100 ∧ ∀ (H' : Hp) (q : Addr), Same H H' → H' q = some (.lst ((flS ks m c).map V.bl)) → Q (.ref q) H'
def oneB (kr ko : List Kd) (m : Bool) (c : Int) : Bool := decide ((flS kr m c).length = 1) && (!(m || decide (0 < c)) || decide ((flS ko m c).length = 1))
def exactB (kr ko : List Kd) : Bool := decide (bareK ∈ kr) && ((flS ko false 0).isEmpty && [false, true].all fun m => ([0, 1, 2] : List Int).all fun c => oneB kr ko m c)
def spEx (K : PySem.W.Frag) (CR : Addr) : Sp := fun vs H Q _ => ∃ (x : V) (kr ko : List Kd), vs = [x] ∧ RuleF K CR H x kr ko ∧ kr.length ≤ 100 ∧ ko.length ≤ 100 ∧ ∀ H', Same H H' → Q (.bl (exactB kr ko)) H'
section
variable {P : Program} {w : World} {K : PySem.W.Frag} {mg : Str → Option Value} {base : Heap} {f fF bA CR : Addr} {fd fdF : FuncData}
abbrev NFl : List Str := ["kinds", "mark", "children", "kind"]
theorem ok_fl (F : Fun K "flags_let" "flags_let" (top 34) f fd) : FnOk P w K mg base CX0 1 f fd ["kinds", "mark", "children"] (spFl K) := by
  have S0 : FnScope NFl ["kinds", "mark", "children"] (defScope (top 34)) := ⟨rfl, rfl, rfl, by decide +kernel, rfl, by decide +kernel, by decide +kernel⟩
  have nd := S0.nd
  refine F.ok S0 (fun vs H Q E h => ?_) (fun cdv A outer s H vs Q E hr h => ?_)
  · obtain ⟨r, m, c, ks, rfl, _⟩ := h
    rfl
  · obtain ⟨r, m, c, ks, rfl, hd, hz, kk⟩ := h
    refine ⟨_, pss_one (ps_ret (pe_lc (own := [("kind", 3)]) (g := gName 3) rfl nd (pi_tup (pv 0)) (blkOk_by (N := NFl) (sc := defScope (top 34)) (by decide +kernel)) (fun _ _ _ _ _ => pg_name (i := 3) nd rfl (Or.inl rfl))
      (fun _ _ _ _ _ => pts_one (PW.pt (pw_and (pt_cmpR op_eq (pe_ix (r := rIxT K) ix_tup (pv 3) pe_int (fun _ _ => rfl)) (pv 1) (nomark _)) (pw_and1 (pt_cmpR op_eq (pe_ix (r := rIxT K) ix_tup (pv 3) pe_int (fun _ _ => rfl)) (pv 2) (nomark _))))))
      (fun _ _ _ _ _ => pe_ix (r := rIxT K) ix_tup (pv 3) pe_int (fun _ _ => rfl)))), ?_⟩
    obtain ⟨xs, hr1, hds⟩ := kinds_tup hd
    have hxl : xs.length = ks.length := by
      have z := deAll_len hds
      rwa [List.length_map] at z
    have e2 : (ks.zip xs).map (fun p => p.2) = xs := List.map_snd_zip (by omega)
    have b5 : (500 : Nat) ≤ sizeLine := by decide
    refine ⟨V.ref r, rfl, r, rfl, ⟨_, .inl (.inl hr1)⟩, fun D nD => lcF_tup (K := K) (ws := ks.zip xs) (fun p => p.2) nD (fun p => V.bl p.1.2.1) (fun p => decide (p.1.1 = m) && decide (p.1.2.2 = c)) (by rw [e2]; exact .inl (.inl hr1)) (by rw [List.length_zip]; omega) (fun i p G hp sG A B kA kB => ?_) fun G sG hD => ?_⟩
    · obtain ⟨_, t, et, ht⟩ := kzip_at hds hp
      obtain ⟨k, v⟩ := p
      have et : v = .ref t := et
      subst et
      have ht : KAt G t k := sG _ _ ht
      refine ⟨rfl, V.ref t, rfl, t, kdV k, 0, .bl k.1, rfl, rfl, .inl (.inl ht), rfl, V.bl m, rfl, rfl, _, rfl, ?_⟩
      by_cases c1 : k.1 = m
      · rw [decide_eq_true (show V.bl k.1 = V.bl m by rw [c1])]
        refine iteT ⟨V.ref t, rfl, t, kdV k, 2, .int k.2.2, rfl, rfl, .inl (.inl ht), rfl, V.int c, rfl, rfl, _, rfl, ?_⟩
        by_cases c2 : k.2.2 = c
        · rw [decide_eq_true (show V.int k.2.2 = V.int c by rw [c2])]
          refine iteT ⟨V.ref t, rfl, t, kdV k, 1, .bl k.2.1, rfl, rfl, .inl (.inl ht), rfl, kA ?_⟩
          show (decide (k.1 = m) && decide (k.2.2 = c)) = true
          rw [decide_eq_true c1, decide_eq_true c2]
          rfl
        · rw [decide_eq_false (fun z : V.int k.2.2 = V.int c => c2 (V.int.inj z))]
          refine iteF (kB ?_)
          show (decide (k.1 = m) && decide (k.2.2 = c)) = false
          rw [decide_eq_true c1, decide_eq_false c2]
          rfl
      · rw [decide_eq_false (fun z : V.bl k.1 = V.bl m => c1 (V.bl.inj z))]
        refine iteF (kB ?_)
        show (decide (k.1 = m) && _) = false
        rw [decide_eq_false c1]
        rfl
    · rw [kzip_fl hxl] at hD
      exact kk G D sG hD
theorem ok_ex (F : Fun K "is_exact" "Rule.is_exact" (rm 4) f fd) (R : RuleK K CR) (gB : mg "BARE" = some (.ref bA)) (hB : ∀ H, SqT K H bA [.bl false, .bl false, .int 0]) (gN : mg "len" = none)
    (gF : mg "flags_let" = some (.ref fF)) (kF : PySem.W.keepIn K (.ref fF) = true) (GF : FnOk P w K mg base CX0 1 fF fdF ["kinds", "mark", "children"] (spFl K)) (bF : Binds K fdF ["kinds", "mark", "children"] []) : FnOk P w K mg base CX0 2 f fd ["self"] (spEx K CR) := by
  have S0 : FnScope ["self", "mark", "children"] ["self"] (defScope (rm 4)) := ⟨rfl, rfl, rfl, by decide +kernel, rfl, by decide +kernel, by decide +kernel⟩
  have nd := S0.nd
  refine F.ok S0 (fun vs H Q E h => ?_) (fun cdv A outer s H vs Q E hr h => ?_)
  · obtain ⟨x, kr, ko, rfl, _⟩ := h
    rfl
  · obtain ⟨x, kr, ko, rfl, hR, z1, z2, kk⟩ := h
    have hu64 := hr.units
    obtain ⟨a, dx, fs, r1, r2, rfl, ha, TR⟩ := hR
    refine ⟨_, pss_cons (ps_if (PW.pt (pw_or (pt_cmpR (r := rInD K true) (op_notInD hu64) (pe_glob (v := V.ref bA) (by rfl) gB rfl) (pe_fld (pv 0) rfl) (by rfl)) (pw_or1 (pt_truth (pe_call GF hr (by rfl) gF kF bF .nil pass0 (pa_cons (pe_fld (pv 0) rfl) (pa_cons pe_bl (pa_cons pe_int pa_nil)))) (by intro _; rfl))))) (pss_one (ps_ret pe_bl)) pss_nil)
      (pss_cons (ps_for PassesOwn.never rfl (pi_tup (pe_tup (pa_cons pe_bl (pa_cons pe_bl pa_nil)))) (pg_name (i := 1) nd rfl (Or.inl rfl))
        (pss_one (ps_for PassesOwn.never rfl (pi_tup (pe_tup (pa_cons pe_int (pa_cons pe_int (pa_cons pe_int pa_nil))))) (pg_name (i := 2) nd rfl (Or.inl rfl))
          (pss_cons (ps_if (pt_cmpR op_ne (pe_callB call_len_seq (by rfl) gN PySem.boot_len (pa_cons (pe_call GF hr (by rfl) gF kF bF .nil pass0 (pa_cons (pe_fld (pv 0) rfl) (pa_cons (pv 1) (pa_cons (pv 2) pa_nil)))) pa_nil)) pe_int (nomark _)) (pss_one (ps_ret pe_bl)) pss_nil)
          (pss_one (ps_if (PW.pt (pw_and (PW.pt (pw_or (pt_val (pv 1)) (pw_or1 (pt_cmpR op_gt (pv 2) pe_int (nomark _))))) (pw_and1 (pt_cmpR op_ne (pe_callB call_len_seq (by rfl) gN PySem.boot_len (pa_cons (pe_call GF hr (by rfl) gF kF bF .nil pass0 (pa_cons (pe_fld (pv 0) rfl) (pa_cons (pv 1) (pa_cons (pv 2) pa_nil)))) pa_nil)) pe_int (nomark _))))) (pss_one (ps_ret pe_bl)) pss_nil))))))
      (pss_one (ps_ret pe_bl))), ?_⟩
    have q : ∀ b : Bool, exactB kr ko = b → ∀ H', Same H H' → Q (.bl b) H' := fun b e H' s => by
      have z := kk H' s
      rw [e] at z
      exact z
    obtain ⟨xs1, g1, g2⟩ := kinds_tup TR.d1
    refine ⟨V.ref a, rfl, a, CR, dx, _, _, rfl, ha, R.cl, R.n1, TR.f1, r1, xs1, kr.map kdD, kdD bareK, rfl, .inr (.inl (.inl g1)), kinds_dp g2, .tup (hB H) (.cons (.bl _) (.cons (.bl _) (.cons (.int _) .nil))), (kd_lay _).1, kds_lay _, Nat.le_trans (kd_lay _).2 (by decide), _, rfl, ?_⟩
    rw [if_pos rfl, kds_any]
    by_cases cb : bareK ∈ kr
    · rw [decide_eq_true cb]
      refine iteF ⟨V.ref a, rfl, a, CR, dx, _, _, rfl, ha, R.cl, R.n2, TR.f2, r2, false, 0, ko, rfl, TR.d2, z2, fun H1 u s1 h1 => ⟨!((flS ko false 0).map V.bl).isEmpty, .inl ⟨_, .inl (.inl h1), rfl⟩, ?_⟩⟩
      have e0 : ((flS ko false 0).map V.bl).isEmpty = (flS ko false 0).isEmpty := by cases flS ko false 0 <;> rfl
      rw [e0]
      cases ce : (flS ko false 0).isEmpty with
      | false =>
        refine iteT (q false ?_ H1 s1)
        unfold exactB
        rw [ce, Bool.false_and, Bool.and_false]
      | true =>
        refine iteF ?_
        have eEx : exactB kr ko = ([false, true].all fun m => ([0, 1, 2] : List Int).all fun c => oneB kr ko m c) := by
          unfold exactB
          rw [decide_eq_true cb, ce, Bool.true_and, Bool.true_and]
        refine ⟨(by show 2 ≤ sizeLine; decide), fun p hp => ⟨p, rfl, ⟨_, .inl (.inl upd_same)⟩, ?_⟩⟩
        have s2 := s1.trans (upd_new (o := .tup [.bl false, .bl true]) hp)
        have hp2 : upd H1 p (.tup [.bl false, .bl true]) p = some (.tup [.bl false, .bl true]) := upd_same
        generalize upd H1 p (.tup [.bl false, .bl true]) = H2 at s2 hp2
        refine for_it (walk_tup (K := K) (xs := [.bl false, .bl true])) (fun i σ G => ∃ (x1 x2 : Option V), σ = [some (.ref a), x1, x2] ∧ Same H G ∧ G p = some (.tup [.bl false, .bl true]) ∧ (([false, true].take i).all fun m => ([0, 1, 2] : List Int).all fun c => oneB kr ko m c) = true) ⟨none, none, rfl, s2, hp2, rfl⟩ (fun i σ G _ h => ?_) ?_ ?_
        · obtain ⟨_, _, _, _, h, _⟩ := h
          exact .inl (.inl h)
        · rintro i x σ G G' hi ⟨x1, x2, rfl, sG, hpG, hall⟩ ⟨rfl, hx⟩
          obtain ⟨m, hm, rfl⟩ := map_at (enc := V.bl) (ws := [false, true]) hx
          refine ⟨(by show 3 ≤ sizeLine; decide), fun t ht => ⟨t, rfl, ⟨_, .inl (.inl upd_same)⟩, ?_⟩⟩
          have s3 := sG.trans (upd_new (o := .tup [.int 0, .int 1, .int 2]) ht)
          have hp3 := upd_new (o := .tup [.int 0, .int 1, .int 2]) ht _ _ hpG
          have ht3 : upd G' t (.tup [.int 0, .int 1, .int 2]) t = some (.tup [.int 0, .int 1, .int 2]) := upd_same
          generalize upd G' t (.tup [.int 0, .int 1, .int 2]) = G3 at s3 hp3 ht3
          have bad : ∀ c ∈ ([0, 1, 2] : List Int), oneB kr ko m c = false → exactB kr ko = false := fun c hc e => by
            rw [eEx, List.all_eq_false]
            refine ⟨m, List.mem_of_getElem? hm, ?_⟩
            rw [List.all_eq_false.mpr ⟨c, hc, by rw [e]; exact Bool.false_ne_true⟩]
            exact Bool.false_ne_true
          refine for_it (walk_tup (K := K) (xs := [.int 0, .int 1, .int 2])) (fun j σ G => ∃ (x2 : Option V), σ = [some (.ref a), some (.bl m), x2] ∧ Same H G ∧ G p = some (.tup [.bl false, .bl true]) ∧ G t = some (.tup [.int 0, .int 1, .int 2]) ∧ ((([0, 1, 2] : List Int).take j).all fun c => oneB kr ko m c) = true) ⟨x2, rfl, s3, hp3, ht3, rfl⟩ (fun j σ G _ h => ?_) ?_ ?_
          · obtain ⟨_, _, _, _, h, _⟩ := h
            exact .inl (.inl h)
          · rintro j y σ G4 G5 hj ⟨x2, rfl, s4, hp4, ht4, hal⟩ ⟨rfl, hy⟩
            obtain ⟨c, hc, rfl⟩ := map_at (enc := V.int) (ws := [0, 1, 2]) hy
            have hcm : c ∈ ([0, 1, 2] : List Int) := List.mem_of_getElem? hc
            refine ⟨V.ref a, rfl, a, CR, dx, _, _, rfl, s4 _ _ ha, R.cl, R.n1, TR.f1, V.bl m, rfl, V.int c, rfl, r1, m, c, kr, rfl, de_mono s4 _ _ TR.d1, z1, fun G6 u6 s6 h6 => ⟨u6, _, rfl, .inl (.inl (.inl h6)), rfl, _, rfl, ?_⟩⟩
            have s46 := s4.trans s6
            rw [List.length_map]
            by_cases c1 : (flS kr m c).length = 1
            · refine neT (by rw [c1]; rfl) ?_
              have next : oneB kr ko m c = true → ∀ G', Same G6 G' → ∃ (x2 : Option V), [some (V.ref a), some (V.bl m), some (V.int c)] = [some (.ref a), some (.bl m), x2] ∧ Same H G' ∧ G' p = some (.tup [.bl false, .bl true]) ∧ G' t = some (.tup [.int 0, .int 1, .int 2]) ∧ ((([0, 1, 2] : List Int).take (j + 1)).all fun c => oneB kr ko m c) = true := fun h1 G' sG' => by
                refine ⟨_, rfl, s46.trans sG', sG' _ _ (s6 _ _ hp4), sG' _ _ (s6 _ _ ht4), ?_⟩
                rw [take_snoc hc, List.all_append, hal, Bool.true_and]
                show (oneB kr ko m c && true) = true
                rw [h1]
                rfl
              have e1 : oneB kr ko m c = (!(m || decide (0 < c)) || decide ((flS ko m c).length = 1)) := by
                unfold oneB
                rw [decide_eq_true c1, Bool.true_and]
              refine ⟨V.bl m, rfl, m, rfl, ?_⟩
              cases m with
              | true =>
                refine iteT ⟨V.ref a, rfl, a, CR, dx, _, _, rfl, s46 _ _ ha, R.cl, R.n2, TR.f2, V.bl true, rfl, V.int c, rfl, r2, true, c, ko, rfl, de_mono s46 _ _ TR.d2, z2, fun G7 u7 s7 h7 => ⟨u7, _, rfl, .inl (.inl (.inl h7)), rfl, _, rfl, ?_⟩⟩
                rw [List.length_map]
                by_cases c2 : (flS ko true c).length = 1
                · refine neT (by rw [c2]; rfl) (next ?_ G7 s7)
                  rw [e1, decide_eq_true c2, Bool.or_true]
                · rw [decide_eq_false (fun z : V.int ((flS ko true c).length : Nat) = V.int 1 => c2 (by injection z with z; omega))]
                  refine iteT (q false (bad c hcm ?_) G7 (s46.trans s7))
                  rw [e1, decide_eq_false c2]
                  rfl
              | false =>
                refine iteF ⟨V.int c, rfl, c, 0, rfl, rfl, _, rfl, ?_⟩
                by_cases c0 : 0 < c
                · rw [decide_eq_true c0]
                  refine iteT ⟨V.ref a, rfl, a, CR, dx, _, _, rfl, s46 _ _ ha, R.cl, R.n2, TR.f2, V.bl false, rfl, V.int c, rfl, r2, false, c, ko, rfl, de_mono s46 _ _ TR.d2, z2, fun G7 u7 s7 h7 => ⟨u7, _, rfl, .inl (.inl (.inl h7)), rfl, _, rfl, ?_⟩⟩
                  rw [List.length_map]
                  by_cases c2 : (flS ko false c).length = 1
                  · refine neT (by rw [c2]; rfl) (next ?_ G7 s7)
                    rw [e1, decide_eq_true c2, Bool.or_true]
                  · rw [decide_eq_false (fun z : V.int ((flS ko false c).length : Nat) = V.int 1 => c2 (by injection z with z; omega))]
                    refine iteT (q false (bad c hcm ?_) G7 (s46.trans s7))
                    rw [e1, decide_eq_false c2, decide_eq_true c0]
                    rfl
                · rw [decide_eq_false c0]
                  refine iteF (next ?_ G6 (Same.refl _))
                  rw [e1, decide_eq_false c0]
                  rfl
            · rw [decide_eq_false (fun z : V.int ((flS kr m c).length : Nat) = V.int 1 => c1 (by injection z with z; omega))]
              refine iteT (q false (bad c hcm ?_) G6 s46)
              unfold oneB
              rw [decide_eq_false c1, Bool.false_and]
          · rintro σ G4 ⟨x2, rfl, s4, hp4, ht4, hal⟩
            refine ⟨_, _, rfl, s4, hp4, ?_⟩
            rw [take_snoc hm, List.all_append, hall, Bool.true_and]
            show ((([0, 1, 2] : List Int).all fun c => oneB kr ko m c) && true) = true
            rw [Bool.and_true]
            exact hal
        · rintro σ G ⟨x1, x2, rfl, sG, _, hall⟩
          refine q true ?_ G sG
          rw [eEx]
          exact hall
    · rw [decide_eq_false cb]
      refine iteT (q false ?_ H (Same.refl _))
      unfold exactB
      rw [decide_eq_false cb, Bool.false_and]
end
end SK
namespace SK
open PySem PySem.Spec PyProof.Rows L2 LamX NdefX ClX
open K0 (De DeAll XCl spX withX)
/-! ### the tree of an exact rule -/
/-- C() raised, a class without own __init__ -/
theorem pmk_own0 {X : Cx} {C : Addr} {bmB : List Value} {B newId initId : String} {x : Str} {p pos : Pos} (F : ExcBaseFacts B newId initId bmB) (q : PySem.W.excIn X.K C bmB newId = true) (gC : X.mg x = some (.ref C)) (kC : PySem.W.keepIn X.K (.ref C) = true) (r : Raises X (.ref C)) (hg : Gl X x)
    (hdb : (x == ("__debug__" : Str)) = false := by decide) : PMk X (.Call (.Name x p) [] [] pos) (fun _ H Q => Q (.ref C) none H) := by
  intro pins s σ H Q I h
  refine wpAny_Call_Name_kw (ld_glob I hg gC ?_ hdb)
  refine PySem.W.callWith_K0 I.kIn kC ?_
  show wpAny _ _ (call (.ref C) []) _ _ _
  obtain ⟨bm, N, nm, qn, bs, hdct, sn, sub, ab, col, dd, k0, k1, k2, k3, k5, mN, hC, hN, hni, T⟩ := exc_obj I.kIn q
  refine wpAny_call_exc_subT F T hC hN hni (fun h' a hm => ?_) (Nat.zero_le _)
  exact mk_of I hm r h (I.hok.gone hm.new)
theorem mk_tree {K : PySem.W.Frag} {CT a : Addr} {C : Cs} {T : List (Addr × Str)} {H : Hp} {σ : St} {R : Addr → Hp → Prop} {E : XK} {ls : Str} {xs : List V} {ds : List PyData} {S : List Spot} (hL : okLb ls = true) (hasc : ls.cps.all (· < 128) = true ∧ ls.cps.size ≤ 1000) (hr : Rows H a xs) (hd : DeAll K H xs ds) (g : GoodS ls S) (hro : RowsOf ds S) (hT : Tabs T H)
    (kk : ∀ (H' : Hp) (x : Addr), ExtN H H' → Tabs T H' → TreeF K CT H' (.ref x) ls S → R x H') :
    tNil σ H fun zs H2 => ∀ x dx, H2 x = none → H2 dx = none → dx ≠ x → spInit K CT C T (.ref x :: ((.str ls :: .ref a :: zs) ++ [])) (upd (upd H2 dx (.own x)) x (.ins CT dx [])) (fun v H3 => v = .non ∧ R x H3) E := by
  show ∀ x dx, H x = none → H dx = none → dx ≠ x → spInit K CT C T [.ref x, .str ls, .ref a] (upd (upd H dx (.own x)) x (.ins CT dx [])) (fun v H3 => v = .non ∧ R x H3) E
  intro x dx nx ndx nxd
  have s7 : Same H (upd (upd H dx (.own x)) x (.ins CT dx [])) := fun b o e => by
    rw [upd_ne (ne_of_none e nx), upd_ne (ne_of_none e ndx)]
    exact e
  have hx7 : upd (upd H dx (.own x)) x (.ins CT dx []) x = some (.ins CT dx []) := upd_same
  generalize upd (upd H dx (.own x)) x (.ins CT dx []) = H7 at s7 hx7
  have hway := way_good hL g hro
  have hle : xs.length = ds.length := deAll_len hd
  have hln : ds.length = S.length := by
    have z := hro.places.length_eq
    unfold plc at z
    rwa [List.length_map, List.length_map] at z
  have hn := g.n
  refine ⟨x, dx, a, .str ls, .str ls, xs, ds, rfl, hx7, .str ls, fun z e => ?_, hr.mono (ExtN.of s7), de_monoAll s7 _ _ hd, fun e he => ?_, by omega, hT.ext s7, ?_, fun _ H' fs keep T' hx' tA => ⟨rfl, ?_⟩⟩
  · injection e with e
    subst e
    exact hasc
  · obtain ⟨s, hs, e1, _⟩ := hro.mem he
    have z := g.ov s.1 (List.mem_map.mpr ⟨s, hs, rfl⟩)
    intro es ees u hu
    have ee : elems e = es := by rcases ees with rfl | rfl <;> rfl
    rw [← ee, e1] at hu
    have hu : u = s.1 := by simpa using hu
    rw [hu]
    exact Nat.le_trans z.1 (by decide)
  · rw [hway]
    exact ⟨fun z => (by cases z), fun _ z => (by cases z), fun _ z => (by cases z), fun _ z => (by cases z)⟩
  · refine kk H' x (fun b o e t => keep b o (fun z => ?_) (s7 _ _ e) t) T' (treeP_of hx' g hro tA)
    rw [z, nx] at e
    cases e
theorem rowsD_of {S S' : List Spot} (p : S'.Perm S) : RowsOf (S'.map rowD) S := by
  refine ⟨fun d hd => ?_, ?_⟩
  · obtain ⟨s, _, rfl⟩ := List.mem_map.mp hd
    rfl
  · rw [List.map_map]
    exact p.map _
theorem good_plc {ls : Str} {S S' : List Spot} (g : GoodS ls S) (e : plc S' = plc S) : GoodS ls S' := by
  have hl : S'.length = S.length := by
    have z := congrArg List.length e
    unfold plc at z
    rwa [List.length_map, List.length_map] at z
  exact ⟨by rw [e]; exact g.nd, by rw [e]; exact g.root, fun p h1 h2 => by rw [e] at h1 ⊢; exact g.up p h1 h2, fun p h1 => by rw [e] at h1; exact g.ov p h1, by have := g.n; omega, by rw [e]; exact g.ord⟩
def fgS (kr ko : List Kd) (S : List Spot) (s : Spot) : Bool := ((flS (if s.1 = Str.ofString "" then kr else ko) s.2.1 (kdS S s).2.2)[0]?).getD false
def exS (kr ko : List Kd) (S : List Spot) : List Spot := S.map fun s => (s.1, s.2.1, fgS kr ko S s)
theorem exS_plc (kr ko : List Kd) (S : List Spot) : plc (exS kr ko S) = plc S := by
  unfold plc exS
  rw [List.map_map]
  rfl
theorem exact_one {kr ko : List Kd} (h : exactB kr ko = true) {m : Bool} {c : Int} (hc : c ∈ ([0, 1, 2] : List Int)) : (flS kr m c).length = 1 ∧ ((m = true ∨ 0 < c) → (flS ko m c).length = 1) := by
  unfold exactB at h
  rw [Bool.and_eq_true, Bool.and_eq_true] at h
  have z := List.all_eq_true.mp h.2.2 m (by cases m <;> simp)
  have z := List.all_eq_true.mp z c hc
  unfold oneB at z
  rw [Bool.and_eq_true, decide_eq_true_eq] at z
  refine ⟨z.1, fun hm => ?_⟩
  have z2 := z.2
  rcases hm with rfl | hm
  · simpa using z2
  · rw [decide_eq_true hm, Bool.or_true] at z2
    simpa using z2
theorem kdS_c (S : List Spot) (s : Spot) : (kdS S s).2.2 ∈ ([0, 1, 2] : List Int) := by
  have h : (kdS S s).2.2 = ((min 2 (belL (plc S) s.1).length : Nat) : Int) := rfl
  rw [h]
  have : min 2 (belL (plc S) s.1).length = 0 ∨ min 2 (belL (plc S) s.1).length = 1 ∨ min 2 (belL (plc S) s.1).length = 2 := by omega
  rcases this with e | e | e <;> rw [e] <;> simp
/-- a place of the words' tree is marked, or has one below -/
theorem of_inner {ls : Str} {bs ws : List Str} (hb : ∀ x, x ∈ bs ↔ isBeg ws x) {s : Spot} (hs : s ∈ ofS ls bs ws) (hne : s.1 ≠ Str.ofString "") : s.2.1 = true ∨ 0 < (kdS (ofS ls bs ws) s).2.2 := by
  have e : plc (ofS ls bs ws) = sortW ls bs := plc_mk ws _
  obtain ⟨p, hp, rfl⟩ := List.mem_map.mp hs
  have hp := (sortW_perm ls bs).mem_iff.mp hp
  by_cases hw : p ∈ ws
  · exact .inl (decide_eq_true hw)
  · right
    rcases (hb p).mp hp with h | ⟨y, hy, hpre⟩
    · exact absurd h hne
    · obtain ⟨r, hr⟩ := hpre
      cases r with
      | nil =>
        rw [List.append_nil] at hr
        exact absurd (str_ext hr ▸ hy) hw
      | cons c r =>
        have hm : (p ++ (⟨#[c]⟩ : Str)) ∈ plc (ofS ls bs ws) := by
          rw [e, (sortW_perm ls bs).mem_iff, hb]
          refine .inr ⟨y, hy, r, ?_⟩
          rw [snoc_list, ← hr]
          simp
        have hc := belL_mem.mpr hm
        have hl := List.length_pos_of_mem hc
        show 0 < ((min 2 (belL (plc (ofS ls bs ws)) p).length : Nat) : Int)
        omega
theorem of_flag {kr ko : List Kd} {ls : Str} {bs ws : List Str} (hE : exactB kr ko = true) (hb : ∀ x, x ∈ bs ↔ isBeg ws x) {s : Spot} (hs : s ∈ ofS ls bs ws) : ∃ f, flS (if s.1 = Str.ofString "" then kr else ko) s.2.1 (kdS (ofS ls bs ws) s).2.2 = [f] ∧ fgS kr ko (ofS ls bs ws) s = f := by
  have hl : (flS (if s.1 = Str.ofString "" then kr else ko) s.2.1 (kdS (ofS ls bs ws) s).2.2).length = 1 := by
    have z := exact_one hE (m := s.2.1) (kdS_c (ofS ls bs ws) s)
    by_cases h : s.1 = Str.ofString ""
    · rw [if_pos h]
      exact z.1
    · rw [if_neg h]
      exact z.2 (of_inner hb hs h)
  obtain ⟨f, hf⟩ := List.length_eq_one_iff.mp hl
  refine ⟨f, hf, ?_⟩
  unfold fgS
  rw [hf]
  rfl
def spTo (K : PySem.W.Frag) (CT CR : Addr) (C : Cs) (CW CX : Addr) (T : List (Addr × Str)) : Sp := fun vs H Q E => ∃ (x : V) (kr ko : List Kd) (vL : V) (L : PyData) (a : Addr) (xs : List V) (ds : List PyData), vs = [x, vL, .ref a] ∧ RuleF K CR H x kr ko ∧ kr.length ≤ 100 ∧ ko.length ≤ 100 ∧ De K H vL L ∧
  (∀ z, L = .str z → z.cps.all (· < 128) = true ∧ z.cps.size ≤ 1000) ∧ Rows H a xs ∧ DeAll K H xs ds ∧ TxtFit ds ∧ xs.length ≤ 1000 ∧ Tabs T H ∧
  (exactB kr ko = false → ∀ H', Same H H' → E (.ref CX) none H') ∧
  (exactB kr ko = true → okLd L = false → ThrownN E C.l H [("letters", vL)] T) ∧
  (exactB kr ko = true → okLd L = true → ∀ i : Nat, wscan (strOf L) [] 0 ds = some i → ThrownN E CW H [("number", .int i)] T) ∧
  (exactB kr ko = true → okLd L = true → wscan (strOf L) [] 0 ds = none → ¬ (1 ≤ nob (ds.map strOf) ∧ nob (ds.map strOf) ≤ 2000) → ThrownN E C.m H [("most", .int 2000), ("many", .int (nob (ds.map strOf) : Nat)), ("what", .str "places")] T) ∧
  (exactB kr ko = true → okLd L = true → wscan (strOf L) [] 0 ds = none → (1 ≤ nob (ds.map strOf) ∧ nob (ds.map strOf) ≤ 2000) → (∀ bs : List Str, bs.Nodup → (∀ x ∈ bs, isBeg (ds.map strOf) x) → bs.length ≤ 2000) ∧
    ∀ (H' : Hp) (t : Addr) (bs : List Str), ExtN H H' → Tabs T H' → bs.Nodup → (∀ y, y ∈ bs ↔ isBeg (ds.map strOf) y) → GoodS (strOf L) (ofS (strOf L) bs (ds.map strOf)) → TreeF K CT H' (.ref t) (strOf L) (exS kr ko (ofS (strOf L) bs (ds.map strOf))) → Q (.ref t) H')
section
variable {P : Program} {w : World} {K : PySem.W.Frag} {mg : Str → Option Value} {base : Heap} {f fF fK fEx fOf pOf fI CT CR CW CN CX : Addr} {fd fdF fdK fdEx fdOf fdI : FuncData} {C : Cs} {T : List (Addr × Str)} {mc : Value}
abbrev NTo : List Str := ["self", "letters", "words", "plain", "rows", "place", "mark", "_", "kinds", "children"]
theorem ok_to (F : Fun K "tree_of" "Rule.tree_of" (rm 5) f fd) (R : RuleK K CR) (RT : TreeK K CT) (ex : PySem.W.excIn K CX He.veBase "ValueError.__new__" = true) (gX : mg "NotExact" = some (.ref CX)) (kX : PySem.W.keepIn K (.ref CX) = true) (r1 : PySem.W.subIn K (.ref CX) (.type "BaseException") = some true) (r2 : PySem.W.typeIn K (.ref CX) = some (.type "type"))
    (MEx : Meth K CR "is_exact" fEx) (GEx : FnOk P w K mg base CX0 2 fEx fdEx ["self"] (spEx K CR)) (bEx : Binds K fdEx ["self"] [])
    (gT : mg "Tree" = some (.ref CT)) (CRd : CRead K CT mc) (CM : CMet K CT mc "of" pOf fOf) (GOf : FnOk P w K mg base (L2.CX P w) 8 fOf fdOf ["cls", "letters", "words"] (spOf K CT C CW T)) (bOf : Binds K fdOf ["cls", "letters", "words"] [])
    (M : Mk K CT fI) (GI : FnOk P w K mg base (L2.CX P w) 6 fI fdI ["self", "letters", "rows"] (spInit K CT C T)) (bI : Binds K fdI ["self", "letters", "rows"] [])
    (gK : mg "kind_of" = some (.ref fK)) (kK : PySem.W.keepIn K (.ref fK) = true) (GK : FnOk P w K mg base (L2.CX P w) 4 fK fdK ["tree", "place"] (spKind K CT CN)) (bK : Binds K fdK ["tree", "place"] [])
    (gF : mg "flags_let" = some (.ref fF)) (kF : PySem.W.keepIn K (.ref fF) = true) (GF : FnOk P w K mg base CX0 1 fF fdF ["kinds", "mark", "children"] (spFl K)) (bF : Binds K fdF ["kinds", "mark", "children"] []) :
    FnOk P w K mg base (L2.CX P w) 9 f fd ["self", "letters", "words"] (spTo K CT CR C CW CX T) := by
  have S0 : FnScope NTo ["self", "letters", "words"] (defScope (rm 5)) := ⟨rfl, rfl, rfl, by decide +kernel, rfl, by decide +kernel, by decide +kernel⟩
  have nd := S0.nd
  have FOf : FnR P w K mg base (L2.CX P w) 8 fOf (spOf K CT C CW T) := (GOf.raw bOf .nil).imp fun vs H Q E h => by rw [List.append_nil]; exact h
  refine F.okX S0 (fun vs H Q E h => ?_) (fun cdv A outer s H vs Q E hr h => ?_)
  · obtain ⟨x, kr, ko, vL, L, a, xs, ds, rfl, _⟩ := h
    rfl
  · obtain ⟨x, kr, ko, vL, L, a, xs, ds, rfl, hR, z1, z2, hL, hasc, hrows, hda, hfit, hz, hT, e0, e1, e2, e3, kk⟩ := h
    have hr7 : Room 7 _ := hr.mono (by decide)
    have hr4 : Room 4 _ := hr.mono (by decide)
    have hr2 : Room 2 _ := hr.mono (by decide)
    have hr1 : Room 1 _ := hr.mono (by decide)
    refine ⟨_, pss_cons (ps_if (pt_not (pt_val (pe_meth0 (pv 0) R.cl MEx GEx hr2 bEx .nil pass0))) (pss_one (ps_raise rfl (takes_of rfl rfl rfl rfl) (pmk_own0 PySem.F.excBase_ValueError ex gX kX (raises_own r1 r2) (by rfl)))) pss_nil)
      (pss_cons (ps_set (i := 3) nd rfl (Or.inl rfl) (pe_cmeth (pe_glob (v := V.ref CT) (by rfl) gT rfl) CRd CM FOf hr (passes_call (takes_of rfl rfl rfl rfl) (fun _ _ _ _ h => h)) (pa_cons (pv 1) (pa_cons (pv 2) pa_nil))))
      (pss_cons (ps_set (i := 4) nd rfl (Or.inl rfl) (pe_lst pa_nil))
      (pss_cons (ps_for (passes_of rfl) rfl (pi_tup (pe_fld (pv 3) rfl)) (pg_tup rfl (pgs_cons (pg_name (i := 5) nd rfl (Or.inl rfl)) (pgs_cons (pg_name (i := 6) nd rfl (Or.inl rfl)) (pgs_cons (pg_name (i := 7) nd rfl (Or.inl rfl)) pgs_nil))))
        (pss_cons (ps_set (i := 8) nd rfl (Or.inl rfl) (pe_ifExp (pt_cmpR op_eq (pv 5) pe_str (nomark _)) (pe_fld (pv 0) rfl) (pe_fld (pv 0) rfl)))
        (pss_cons (ps_set (i := 9) nd rfl (Or.inl rfl) (pe_ix (r := rIxT K) ix_tup (pe_call GK hr4 (by rfl) gK kK bK .nil (passes_call (takes_of rfl rfl rfl rfl) (fun _ _ _ _ h => h)) (pa_cons (pv 3) (pa_cons (pv 5) pa_nil))) pe_int (fun _ _ => rfl)))
        (pss_one (ps_expr (pe_bm PySem.F.plainAttrs_list PySem.F.slot_list_append PySem.F.type_list_append mt_append (pv 4) (pa_cons (pe_tup (pa_cons (pv 5) (pa_cons (pv 6) (pa_cons (pe_ix (r := rIxL K) ix_list (pe_call GF hr1 (by rfl) gF kF bF .nil pass0 (pa_cons (pv 8) (pa_cons (pv 6) (pa_cons (pv 9) pa_nil)))) pe_int (fun _ _ => rfl)) pa_nil)))) pa_nil)))))))
      (pss_one (ps_ret (pe_make M GI hr7 (by rfl) gT bI .nil (passes_call (takes_of rfl rfl rfl rfl) (fun _ _ _ _ h => h)) (pa_cons (pv 1) (pa_cons (pv 4) pa_nil)))))))), ?_⟩
    have hR0 := hR
    obtain ⟨ra, rdx, fs, q1, q2, rfl, hra, RP⟩ := hR
    refine ⟨V.ref ra, rfl, ra, rdx, fs, rfl, hra, RP.no _ (by decide) (by decide), .ref ra, kr, ko, rfl, hR0, z1, z2, fun H1 s1 => ⟨exactB kr ko, rfl, ?_⟩⟩
    cases hE : exactB kr ko with
    | false => exact iteT (e0 hE H1 s1)
    | true =>
      refine iteF ?_
      have e1 := e1 hE
      have e2 := e2 hE
      have e3 := e3 hE
      have kk := kk hE
      have T1 := hT.ext s1
      refine ⟨rfl, vL, rfl, V.ref a, rfl, vL, L, a, xs, ds, rfl, de_mono s1 _ _ hL, hasc, hrows.mono (ExtN.of s1), de_monoAll s1 _ _ hda, hfit, hz, T1, fun no H' d e t q => e1 no H' d ((ExtN.of s1).trans e) t q, fun ok i h H' d e t q => e2 ok i h H' d ((ExtN.of s1).trans e) t q, fun ok h hn H' d e t q => e3 ok h hn H' d ((ExtN.of s1).trans e) t q, fun okL hsc hn => ?_⟩
      obtain ⟨hcap, kk⟩ := kk okL hsc hn
      refine ⟨hcap, fun H2 t0 bs e12 T2 hnd hbs hTr => ?_⟩
      obtain ⟨ls, rfl⟩ : ∃ ls, L = .str ls := by
        cases L with
        | str z => exact ⟨z, rfl⟩
        | _ => cases okL
      cases hL
      have eL : strOf (.str ls) = ls := rfl
      rw [eL] at kk hTr hsc
      obtain ⟨hall, _⟩ := wscan_none hsc
      have ho : ∀ y ∈ ds.map strOf, OverL ls y := fun y hy => by
        obtain ⟨d, hd, rfl⟩ := List.mem_map.mp hy
        exact (okW_str (hall d hd).1).2
      generalize ds.map strOf = ws at kk hTr hbs hcap ho
      have hbl := hcap bs hnd fun x hx => (hbs x).mp hx
      have g := good_of (ls := ls) hnd hbs ho hbl
      have hx02 := (ExtN.of s1).trans e12
      have hra2 := hx02 _ _ hra (fun _ z => nomatch z)
      have hR2 := hR0.kx (Kx.ext hx02)
      refine ⟨Nat.zero_le _, fun b nb => ?_⟩
      have s3 := upd_new (o := .lst []) nb
      have hb3 : upd H2 b (.lst []) b = some (.lst []) := upd_same
      generalize upd H2 b (.lst []) = H3 at s3 hb3
      obtain ⟨ta, dt, B, Tb, l, fs2, kvs, kv2, rs, m, ex0, TP⟩ := id hTr
      injection ex0 with ex0
      subst ex0
      generalize hS : ofS ls bs ws = S at g TP hTr kk
      have hxl : rs.length = S.length := by
        have z := deAll_len TP.r2
        rwa [List.length_map] at z
      have b5 : (5000 : Nat) < sizeLine := by decide
      have hSz := g.n
      refine ⟨V.ref t0, rfl, t0, CT, dt, _, _, rfl, s3 _ _ TP.ins, RT.cl, RT.na _ (by simp [six6]), TP.f3, l, rfl, ⟨_, .inl (.inl (s3 _ _ TP.r1))⟩, for_it (walk_tup (K := K) (xs := rs)) (fun i σ G => ∃ (x5 x6 x7 x8 x9 : Option V) (acc : List V), σ = [some (.ref ra), some (.str ls), some (.ref a), some (.ref t0), some (.ref b), x5, x6, x7, x8, x9] ∧ Same H2 G ∧ G b = some (.lst acc) ∧ acc.length = i ∧ DeAll K G acc (((exS kr ko S).take i).map rowD))
        ⟨none, none, none, none, none, [], rfl, s3, hb3, rfl, .nil⟩ (fun i σ G _ q => ?_) ?_ ?_⟩
      · obtain ⟨_, _, _, _, _, _, _, sG, _⟩ := q
        exact .inl (.inl (sG _ _ TP.r1))
      · rintro i v σ G G' hi ⟨x5, x6, x7, x8, x9, acc, rfl, sG, hbG, hal, hacc⟩ ⟨rfl, hv⟩
        obtain ⟨s0, hs0⟩ : ∃ s0, S[i]? = some s0 := ⟨_, List.getElem?_eq_getElem (by omega)⟩
        have hm0 : s0 ∈ S := List.mem_of_getElem? hs0
        obtain ⟨d, hd, hde⟩ := deAll_at TP.r2 hv
        rw [List.getElem?_map, hs0] at hd
        obtain rfl := Option.some.inj hd
        obtain ⟨t, rfl, ht⟩ := de_row (s := s0) hde
        have ht' := sG _ _ ht
        refine ⟨t, _, rfl, .inl (.inl ht'), rfl, _, _, rfl, _, _, rfl, _, _, rfl, rfl, ?_⟩
        obtain ⟨fl, hfl, hfg⟩ := of_flag (kr := kr) (ko := ko) (ls := ls) hE hbs (s := s0) (by rw [hS]; exact hm0)
        rw [hS] at hfl hfg
        have hT' := hTr.kx g.root (Kx.of sG)
        have hra' := sG _ _ hra2
        refine ⟨V.str s0.1, rfl, rfl, _, rfl, ?_⟩
        by_cases c : s0.1 = Str.ofString ""
        · rw [decide_eq_true (show V.str s0.1 = V.str (Str.ofString "") by rw [c])]
          refine iteT ⟨V.ref ra, rfl, ra, CR, rdx, _, _, rfl, hra', R.cl, R.n1, RP.f1, ?_⟩
          refine ⟨V.ref t0, rfl, V.str s0.1, rfl, .ref t0, .str s0.1, .str s0.1, ls, S, rfl, .str _, hT', g, fun s1' hs1 e1' G2 u s4 hu => ?_, fun z => ?_⟩
          · have es : s1' = s0 := uniq g.nd hs1 hm0 (by injection e1' with e1'; exact e1'.symm)
            subst es
            have hk : De K G2 (.ref q1) (.tuple (kr.map kdD)) := de_ext (hx02.trans ((ExtN.of sG).trans (ExtN.of s4))) RP.d1
            refine ⟨u, kdV (kdS S s1'), 2, .int (kdS S s1').2.2, rfl, rfl, .inl (.inl hu), rfl, ?_⟩
            refine ⟨V.ref b, rfl, .inl ⟨rfl, _, .inl (.inl (s4 _ _ hbG))⟩, V.str s1'.1, rfl, V.bl s1'.2.1, rfl, V.ref q1, rfl, V.bl s1'.2.1, rfl, V.int (kdS S s1').2.2, rfl, q1, s1'.2.1, (kdS S s1').2.2, kr, rfl, hk, z1, fun G3 u3 s5 h3 => ?_⟩
            have hfl' : flS kr s1'.2.1 (kdS S s1').2.2 = [fl] := by
              rw [← hfl]
              congr 1
              exact (if_pos c).symm
            rw [hfl'] at h3
            refine ⟨u3, _, 0, .bl fl, rfl, rfl, .inl (.inl h3), rfl, (by show 3 ≤ sizeLine; decide), fun u4 nu4 => ?_⟩
            have s45 := s4.trans s5
            have s6 := s45.trans (upd_new (o := .tup [.str s1'.1, .bl s1'.2.1, .bl fl]) nu4)
            have hu6 : upd G3 u4 (.tup [.str s1'.1, .bl s1'.2.1, .bl fl]) u4 = some (.tup [.str s1'.1, .bl s1'.2.1, .bl fl]) := upd_same
            generalize upd G3 u4 (.tup [.str s1'.1, .bl s1'.2.1, .bl fl]) = G6 at s6 hu6
            have hb6 := s6 _ _ hbG
            refine ⟨b, acc, .ref u4, rfl, rfl, hb6, by omega, _, _, _, _, _, acc ++ [.ref u4], rfl, fun c' o e => ?_, upd_same, by rw [List.length_append, hal]; rfl, ?_⟩
            · rw [upd_ne (ne_of_none e nb)]
              exact s6 _ _ (sG _ _ e)
            · have hei : (exS kr ko S)[i]? = some (s1'.1, s1'.2.1, fl) := by
                unfold exS
                rw [List.getElem?_map, hs0, Option.map_some, hfg]
              rw [take_snoc hei, List.map_append]
              have ky : Ky G6 (upd G6 b (.lst (acc ++ [.ref u4]))) := fun c' o h _ _ hl => by
                rw [upd_ne (fun z => by rw [z, hb6] at h; exact hl acc (Option.some.inj h).symm)]
                exact h
              have all : DeAll K G6 (acc ++ [.ref u4]) (((exS kr ko S).take i ++ [(s1'.1, s1'.2.1, fl)]).map rowD) := by
                rw [List.map_append]
                exact deAll_snoc (de_monoAll s6 _ _ hacc) (.tup hu6 (.cons (.str _) (.cons (.bl _) (.cons (.bl _) .nil))))
              rw [← List.map_append]
              exact rows_ky ky all
          · rw [show hasD S (.str s0.1) = true from decide_eq_true (List.mem_map.mpr ⟨s0, hm0, rfl⟩)] at z
            cases z
        · rw [decide_eq_false (fun z : V.str s0.1 = V.str (Str.ofString "") => c (V.str.inj z))]
          refine iteF ⟨V.ref ra, rfl, ra, CR, rdx, _, _, rfl, hra', R.cl, R.n2, RP.f2, ?_⟩
          refine ⟨V.ref t0, rfl, V.str s0.1, rfl, .ref t0, .str s0.1, .str s0.1, ls, S, rfl, .str _, hT', g, fun s1' hs1 e1' G2 u s4 hu => ?_, fun z => ?_⟩
          · have es : s1' = s0 := uniq g.nd hs1 hm0 (by injection e1' with e1'; exact e1'.symm)
            subst es
            have hk : De K G2 (.ref q2) (.tuple (ko.map kdD)) := de_ext (hx02.trans ((ExtN.of sG).trans (ExtN.of s4))) RP.d2
            refine ⟨u, kdV (kdS S s1'), 2, .int (kdS S s1').2.2, rfl, rfl, .inl (.inl hu), rfl, ?_⟩
            refine ⟨V.ref b, rfl, .inl ⟨rfl, _, .inl (.inl (s4 _ _ hbG))⟩, V.str s1'.1, rfl, V.bl s1'.2.1, rfl, V.ref q2, rfl, V.bl s1'.2.1, rfl, V.int (kdS S s1').2.2, rfl, q2, s1'.2.1, (kdS S s1').2.2, ko, rfl, hk, z2, fun G3 u3 s5 h3 => ?_⟩
            have hfl' : flS ko s1'.2.1 (kdS S s1').2.2 = [fl] := by
              rw [← hfl]
              congr 1
              exact (if_neg c).symm
            rw [hfl'] at h3
            refine ⟨u3, _, 0, .bl fl, rfl, rfl, .inl (.inl h3), rfl, (by show 3 ≤ sizeLine; decide), fun u4 nu4 => ?_⟩
            have s45 := s4.trans s5
            have s6 := s45.trans (upd_new (o := .tup [.str s1'.1, .bl s1'.2.1, .bl fl]) nu4)
            have hu6 : upd G3 u4 (.tup [.str s1'.1, .bl s1'.2.1, .bl fl]) u4 = some (.tup [.str s1'.1, .bl s1'.2.1, .bl fl]) := upd_same
            generalize upd G3 u4 (.tup [.str s1'.1, .bl s1'.2.1, .bl fl]) = G6 at s6 hu6
            have hb6 := s6 _ _ hbG
            refine ⟨b, acc, .ref u4, rfl, rfl, hb6, by omega, _, _, _, _, _, acc ++ [.ref u4], rfl, fun c' o e => ?_, upd_same, by rw [List.length_append, hal]; rfl, ?_⟩
            · rw [upd_ne (ne_of_none e nb)]
              exact s6 _ _ (sG _ _ e)
            · have hei : (exS kr ko S)[i]? = some (s1'.1, s1'.2.1, fl) := by
                unfold exS
                rw [List.getElem?_map, hs0, Option.map_some, hfg]
              rw [take_snoc hei, List.map_append]
              have ky : Ky G6 (upd G6 b (.lst (acc ++ [.ref u4]))) := fun c' o h _ _ hl => by
                rw [upd_ne (fun z => by rw [z, hb6] at h; exact hl acc (Option.some.inj h).symm)]
                exact h
              have all : DeAll K G6 (acc ++ [.ref u4]) (((exS kr ko S).take i ++ [(s1'.1, s1'.2.1, fl)]).map rowD) := by
                rw [List.map_append]
                exact deAll_snoc (de_monoAll s6 _ _ hacc) (.tup hu6 (.cons (.str _) (.cons (.bl _) (.cons (.bl _) .nil))))
              rw [← List.map_append]
              exact rows_ky ky all
          · rw [show hasD S (.str s0.1) = true from decide_eq_true (List.mem_map.mpr ⟨s0, hm0, rfl⟩)] at z
            cases z
      · rintro σ G ⟨x5, x6, x7, x8, x9, acc, rfl, sG, hbG, hal, hacc⟩
        have hel : (exS kr ko S).length = S.length := List.length_map _
        rw [hxl, ← hel, List.take_length] at hacc
        have g2 := good_plc g (exS_plc kr ko S)
        refine ⟨V.str ls, rfl, V.ref b, rfl, ?_⟩
        refine mk_tree (show okLb ls = true from okL) (hasc ls rfl) (.inl hbG) hacc g2 (rowsD_of (.refl _)) (T2.ext sG) fun H' t e' T' hT' => ?_
        exact kk H' t bs (hx02.trans ((ExtN.of sG).trans e')) T' hnd hbs (hS ▸ g) (hS ▸ hT')
end
end SK
namespace SK
open PySem PySem.Spec PyProof.Rows L2 LamX NdefX
open K0 (De DeAll XCl spX withX)
/-! ### comprehensions that make things beside their list -/
section
variable {K : PySem.W.Frag} {a : Addr} {xs : List V} {g : TG} {tt : TT} {te : TE} {vs : List Nat} {σ : St} {H1 : Hp} {D : Addr} {Qd : Hp → Prop}
def TurnS (g : TG) (tt : TT) (te : TE) (vs : List Nat) (σ : St) (x y : V) (b : Bool) (H : Hp) : Prop :=
  ∀ (A : V → Hp → Prop) (B : Hp → Prop), (b = true → ∀ H', Same H H' → A y H') → (b = false → ∀ H', Same H H' → B H') → g x (wipe σ vs) H fun σ2 H2 => wipe σ2 vs = wipe σ vs ∧ tt σ2 H2 fun b H3 => if b = true then te σ2 H3 A else B H3
theorem lcS_list {α : Type} {ws : List α} (enc : α → V) (nD : H1 D = none) (f : α → V) (c : α → Bool) (hS : SqL K H1 a (ws.map enc)) (hz : ws.length < sizeLine) (step : ∀ (i : Nat) (x : α) (H : Hp), ws[i]? = some x → Same H1 H → TurnS g tt te vs σ (enc x) (f x) (c x) H)
    (fin : ∀ H, Same H1 H → H D = some (.lst ((ws.filter c).map f)) → Qd H) :
    ∃ W : Nat → Nat → Hp → Prop, (∃ m, W 0 m (upd H1 D (.lst []))) ∧ ∀ i m H, W i m H →
      ((Itl K a).stop i H ∧ Qd H) ∨ ((Itl K a).go i H ∧ ∃ Nx : Hp → Prop, (∀ H', Nx H' → ∃ m', m' < m ∧ W (i + 1) m' H') ∧ ∀ x H', (Itl K a).yld i H x H' → g x (wipe σ vs) H' fun σ2 H2 => wipe σ2 vs = wipe σ vs ∧ tt σ2 H2 fun b H3 =>
        if b = true then te σ2 H3 fun y H4 => ∃ acc, H4 D = some (.lst acc) ∧ acc.length < sizeLine ∧ Nx (upd H4 D (.lst (acc ++ [y]))) else Nx H3) := by
  refine lc_list (K := K) (a := a) (xs := ws.map enc) (fun i H => Same H1 H ∧ H D = some (.lst (((ws.take i).filter c).map f))) ⟨same_new nD, upd_same⟩ (fun i H _ p => Same.seq p.1 hS) (fun i x H hx p => ?_) fun H p => fin H p.1 (by rw [List.length_map, List.take_length] at p; exact p.2)
  obtain ⟨s, hD⟩ := p
  obtain ⟨y, hy, rfl⟩ := map_at hx
  refine step i y H hy s _ _ (fun hc H' s' => ⟨_, s' _ _ hD, Nat.lt_of_le_of_lt filt_len hz, same_upd nD (s.trans s'), ?_⟩) fun hc H' s' => ⟨s.trans s', ?_⟩
  · rw [filt_snoc hy, if_pos hc]
    exact upd_same
  · rw [filt_snoc hy, if_neg (by rw [hc]; simp), List.append_nil]
    exact s' _ _ hD
end
/-! ### some kinds, in any order -/
theorem rfs_perm {xs ys : List V} (p : ys.Perm xs) : ∀ {ps : PK}, xs = rfs ps → ∃ qs : PK, qs.Perm ps ∧ ys = rfs qs := by
  induction p with
  | nil => exact fun {ps} e => ⟨ps, .refl _, e⟩
  | cons x _ ih =>
    intro ps e
    cases ps with
    | nil => cases e
    | cons p ps =>
      have e : _ :: _ = V.ref p.1 :: rfs ps := e
      injection e with e1 e2
      obtain ⟨qs, h1, h2⟩ := ih e2
      exact ⟨p :: qs, h1.cons _, by rw [e1, h2]; rfl⟩
  | swap x y l =>
    intro ps e
    cases ps with
    | nil => cases e
    | cons p ps =>
      cases ps with
      | nil =>
        have e : _ :: _ :: _ = [V.ref p.1] := e
        injection e with _ e2
        cases e2
      | cons q ps =>
        have e : _ :: _ :: _ = V.ref p.1 :: V.ref q.1 :: rfs ps := e
        injection e with e1 e2
        injection e2 with e2 e3
        exact ⟨q :: p :: ps, List.Perm.swap _ _ _, by rw [e1, e2, e3]; rfl⟩
  | trans _ _ ih1 ih2 =>
    intro ps e
    obtain ⟨qs, h1, h2⟩ := ih2 e
    obtain ⟨rs, h3, h4⟩ := ih1 h2
    exact ⟨rs, h3.trans h1, h4⟩
structure RL (H : Hp) (q : Addr) (ps : PK) : Prop where
  at_ : H q = some (.lst (rfs ps))
  ks : KsAt H ps
  nd : (kds ps).Nodup
  ok : ∀ k ∈ kds ps, OkK k
  n : ps.length ≤ 12
theorem RL.kx {H H' : Hp} {q : Addr} {ps : PK} (h : RL H q ps) (m : Kx H H') : RL H' q ps := { h with
  at_ := m _ _ h.at_ (fun _ z => nomatch z) (fun _ _ _ z => nomatch z)
  ks := fun p hp => m _ _ (h.ks p hp) (fun _ z => nomatch z) (fun _ _ _ z => nomatch z) }
theorem LstK.old {H H1 G : Hp} {D : Addr} {ks : List Kd} (h : LstK H1 D ks G) (s : Same H H1) : LstK H D ks G := by
  obtain ⟨ps, h1, h2, h3, h4⟩ := h
  exact ⟨ps, h1, h2, h3, s.trans h4⟩
/-! ### kinds that are nearly exact -/
def emp : Hp := fun _ => none
theorem LstK.any {H1 G : Hp} {D : Addr} {ks : List Kd} (h : LstK H1 D ks G) : LstK emp D ks G := by
  obtain ⟨ps, h1, h2, h3, h4⟩ := h
  exact ⟨ps, h1, h2, h3, fun _ _ e => nomatch e⟩
theorem LstK.kx {G G' : Hp} {D : Addr} {ks : List Kd} (h : LstK emp D ks G) (m : Kx G G') : LstK emp D ks G' := by
  obtain ⟨ps, h1, h2, h3, h4⟩ := h
  exact ⟨ps, m _ _ h1 (fun _ z => nomatch z) (fun _ _ _ z => nomatch z), fun p hp => m _ _ (h2 p hp) (fun _ z => nomatch z) (fun _ _ _ z => nomatch z), h3, fun _ _ e => nomatch e⟩
theorem LstK.ne {G : Hp} {D b : Addr} {ks : List Kd} {o : HO} {xs : List V} (h : LstK emp D ks G) (hb : b ≠ D) (hl : G b = some (.lst xs)) : LstK emp D ks (upd G b o) := by
  obtain ⟨ps, h1, h2, h3, h4⟩ := h
  refine ⟨ps, by rw [upd_ne (Ne.symm hb)]; exact h1, fun p hp => ?_, h3, fun _ _ e => nomatch e⟩
  have z := h2 p hp
  show upd G b o p.1 = _
  rw [upd_ne (fun e => by rw [KAt, e, hl] at z; cases z)]
  exact z
theorem LstK.lst {G : Hp} {D : Addr} {ks : List Kd} (h : LstK emp D ks G) : ∃ xs, G D = some (.lst xs) := by
  obtain ⟨ps, h1, h2, h3, h4⟩ := h
  exact ⟨_, h1⟩
theorem PenAt.upd_ {G : Hp} {p l b : Addr} {ns : List Int} {k lf : Int} {o : HO} (h : PenAt G p l ns k lf) (hp : p ≠ b) (hl : l ≠ b) : PenAt (upd G b o) p l ns k lf := ⟨by rw [upd_ne hp]; exact h.dc, by rw [upd_ne hl]; exact h.ls⟩
def prs (ks : List Kd) : List (Bool × Int) := ks.map fun k => (k.1, k.2.2)
def c3 (m : Bool) : List (Bool × Int) := ([0, 1, 2] : List Int).map fun c => (m, c)
def six0 : List (Bool × Int) := [false, true].flatMap c3
structure KG (ks : List Kd) (n : Nat) : Prop where
  nd : ks.Nodup
  ok : ∀ k ∈ ks, OkK k
  n_ : ks.length ≤ n
theorem prs_len (ks : List Kd) : (prs ks).length = ks.length := List.length_map _
theorem kg_six {ks : List Kd} (h : prs ks = six0) : KG ks 6 := by
  have e6 : six0.Nodup ∧ six0.length = 6 ∧ ∀ q ∈ six0, 0 ≤ q.2 ∧ q.2 ≤ 2 := by decide +kernel
  refine ⟨?_, fun k hk => ?_, ?_⟩
  · have z := e6.1
    rw [← h] at z
    unfold prs at z
    rw [List.nodup_iff_pairwise_ne, List.pairwise_map] at z
    rw [List.nodup_iff_pairwise_ne]
    exact z.imp fun q e => q (by rw [e])
  · have z := e6.2.2 (k.1, k.2.2) (by rw [← h]; exact List.mem_map.mpr ⟨k, hk, rfl⟩)
    exact z
  · have z := prs_len ks
    rw [h, e6.2.1] at z
    omega
def spNe : Sp := fun vs H Q _ => ∃ (p l : Addr) (ns : List Int) (k lf : Int), vs = [.ref p] ∧ PenAt H p l ns k lf ∧ ns.length ≤ 63 ∧ 0 ≤ k ∧ k ≤ 80000 ∧ 0 ≤ lf ∧
  ∀ (H' : Hp) (k' lf' : Int) (r q1 q2 : Addr) (ps1 ps2 : PK), k' ≤ k + 60 → 0 ≤ k' → 0 ≤ lf' → SameBut p H H' → PenAt H' p l ns k' lf' → H' r = some (.tup [.ref q1, .ref q2]) → RL H' q1 ps1 → RL H' q2 ps2 → Q (.ref r) H'
section
variable {P : Program} {w : World} {K : PySem.W.Frag} {mg : Str → Option Value} {base : Heap} {f fA fSh fD fPk : Addr} {fd fdA fdSh fdD fdPk : FuncData}
abbrev NNe : List Str := ["pen", "found", "part", "kinds", "mark", "turn", "kind", "children", "one"]
theorem ok_ne (F : Fun K "_law_near_exact" "_law_near_exact" (top 51) f fd) (gRg : mg "range" = none) (gA : mg "_law_all_kinds" = some (.ref fA)) (kA : PySem.W.keepIn K (.ref fA) = true) (GA : FnOk P w K mg base CX0 1 fA fdA [] spAll) (bA : Binds K fdA [] [])
    (gSh : mg "_law_shuffled" = some (.ref fSh)) (kSh : PySem.W.keepIn K (.ref fSh) = true) (GSh : FnOk P w K mg base CX0 2 fSh fdSh ["pen", "items"] (spShufA K)) (bSh : Binds K fdSh ["pen", "items"] [])
    (gD : mg "_law_draw" = some (.ref fD)) (kD : PySem.W.keepIn K (.ref fD) = true) (GD : FnOk P w K mg base CX0 1 fD fdD ["pen", "many"] spDraw) (bD : Binds K fdD ["pen", "many"] [])
    (gPk : mg "_law_pick" = some (.ref fPk)) (kPk : PySem.W.keepIn K (.ref fPk) = true) (GPk : FnOk P w K mg base CX0 2 fPk fdPk ["pen", "items"] spPick) (bPk : Binds K fdPk ["pen", "items"] []) : FnOk P w K mg base CX0 3 f fd ["pen"] spNe := by
  have S0 : FnScope NNe ["pen"] (defScope (top 51)) := ⟨rfl, rfl, rfl, by decide +kernel, rfl, by decide +kernel, by decide +kernel⟩
  have nd := S0.nd
  refine F.ok S0 (fun vs H Q E h => ?_) (fun cdv A outer s H vs Q E hr h => ?_)
  · obtain ⟨p, l, ns, k, lf, rfl, _⟩ := h
    rfl
  · obtain ⟨p, l, ns, k, lf, rfl, P0, hn, i0, i1, i2, kk⟩ := h
    have hu64 := hr.units
    have hr1 : Room 1 _ := hr.mono (by decide)
    refine ⟨_, (pss_cons (ps_set (i := 1) nd rfl (Or.inl rfl) (pe_lst pa_nil))
        (pss_cons (ps_for PassesOwn.never rfl (pi_range1 (by rfl) gRg (pa_cons pe_int pa_nil)) (pg_name (i := 2) nd rfl (Or.inl rfl)) (pss_cons (ps_set (i := 3) nd rfl (Or.inl rfl) (pe_lst pa_nil))
        (pss_cons (ps_for PassesOwn.never rfl (pi_tup (pe_tup (pa_cons pe_bl (pa_cons pe_bl pa_nil)))) (pg_name (i := 4) nd rfl (Or.inr rfl)) (pss_one (ps_set (i := 3) nd rfl (Or.inl rfl) (pe_op op_cat (pv 3) (pe_lc (own := [("children", 7)]) (g := gName 7) (tt := tYes) rfl nd (pi_range1 (by rfl) gRg (pa_cons pe_int pa_nil)) (blkOk_by (N := NNe) (sc := defScope (top 51)) (by decide +kernel)) (fun _ _ _ _ _ => pg_name (i := 7) nd rfl (Or.inl rfl)) (fun _ _ _ _ _ => pts_nil) (fun _ _ _ _ _ => (pe_tup (pa_cons (pv 4) (pa_cons (pe_cmpR op_eq (pe_call GD hr1 (by rfl) gD kD bD .nil pass0 (pa_cons (pv 0) (pa_cons pe_int pa_nil))) pe_int (nomark _)) (pa_cons (pv 7) pa_nil))))))))))
        (pss_one (ps_expr (pe_bm PySem.F.plainAttrs_list PySem.F.slot_list_append PySem.F.type_list_append mt_append (pv 1) (pa_cons (pv 3) pa_nil)))))))
        (pss_cons (ps_asg (pe_tup (pa_cons pe_bl (pa_cons (pe_cmpR op_eq (pe_call GD hr1 (by rfl) gD kD bD .nil pass0 (pa_cons (pv 0) (pa_cons pe_int pa_nil))) pe_int (nomark _)) (pa_cons pe_int pa_nil)))) (pg_sub (pe_ix (r := rIxL K) ix_list (pv 1) pe_int (fun _ _ => rfl)) pe_int set_list (fun _ => rfl)))
        (pss_cons (ps_asg (pe_slice sl_list (pe_ix (r := rIxL K) ix_list (pv 1) pe_int (fun _ _ => rfl)) (po_some pe_int) po_none) (pg_sub (pv 1) pe_int set_list (fun _ => rfl)))
        (pss_cons (ps_for PassesOwn.never rfl (pi_range1 (by rfl) gRg (pa_cons (pe_call GD hr1 (by rfl) gD kD bD .nil pass0 (pa_cons (pv 0) (pa_cons pe_int pa_nil))) pa_nil)) (pg_name (i := 5) nd rfl (Or.inl rfl)) (pss_cons (ps_asg (pe_tup (pa_cons (pe_call GD hr1 (by rfl) gD kD bD .nil pass0 (pa_cons (pv 0) (pa_cons pe_int pa_nil))) (pa_cons (pe_call GPk hr (by rfl) gPk kPk bPk .nil pass0 (pa_cons (pv 0) (pa_cons (pe_call0 GA hr1 (by rfl) gA kA bA .nil pass0) pa_nil))) pa_nil))) (pg_tup rfl (pgs_cons (pg_name (i := 2) nd rfl (Or.inl rfl)) (pgs_cons (pg_name (i := 6) nd rfl (Or.inr rfl)) pgs_nil))))
        (pss_one (ps_if (pt_cmpR (r := rInD K false) (op_inD hu64) (pv 6) (pe_ix (r := rIxL K) ix_list (pv 1) (pv 2) (fun _ _ => rfl)) (by rfl)) (pss_one (ps_asg (pe_lc (own := [("one", 8)]) (g := gName 8) rfl nd (pi_list (pe_ix (r := rIxL K) ix_list (pv 1) (pv 2) (fun _ _ => rfl))) (blkOk_by (N := NNe) (sc := defScope (top 51)) (by decide +kernel)) (fun _ _ _ _ _ => pg_name (i := 8) nd rfl (Or.inl rfl)) (fun _ _ _ _ _ => (pts_one (pt_cmpR (r := rNeD K) (op_neD hu64) (pv 8) (pv 6) (nomark _)))) (fun _ _ _ _ _ => (pv 8))) (pg_sub (pv 1) (pv 2) set_list (fun _ => rfl)))) (pss_one (ps_asg (pe_op op_cat (pe_ix (r := rIxL K) ix_list (pv 1) (pv 2) (fun _ _ => rfl)) (pe_lst (pa_cons (pv 6) pa_nil))) (pg_sub (pv 1) (pv 2) set_list (fun _ => rfl))))))))
        (pss_one (ps_ret (pe_tup (pa_cons (pe_call GSh hr (by rfl) gSh kSh bSh .nil pass0 (pa_cons (pv 0) (pa_cons (pe_ix (r := rIxL K) ix_list (pv 1) pe_int (fun _ _ => rfl)) pa_nil))) (pa_cons (pe_call GSh hr (by rfl) gSh kSh bSh .nil pass0 (pa_cons (pv 0) (pa_cons (pe_ix (r := rIxL K) ix_list (pv 1) pe_int (fun _ _ => rfl)) pa_nil))) pa_nil)))))))))), ?_⟩
    refine ⟨Nat.zero_le _, fun fo nfo => ?_⟩
    have s0 := upd_new (o := .lst []) nfo
    have hfo0 : upd H fo (.lst []) fo = some (.lst []) := upd_same
    have P00 : PenAt (upd H fo (.lst [])) p l ns k lf := ⟨s0 _ _ P0.dc, s0 _ _ P0.ls⟩
    generalize upd H fo (.lst []) = H0 at s0 hfo0 P00
    have neo : ∀ {G : Hp} {b : Addr} {o : HO}, SameBut p H G → G b = none → H b = some o → b ≠ p → False := fun {G b o} s e1 e2 hb => by
      rw [s _ _ hb e2] at e1
      cases e1
    refine ⟨2, rfl, by decide, by decide, for_it walk_range (fun i σ G => ∃ (x2 x3 x4 : Option V) (k1 lf1 : Int) (as : List Addr), σ = [some (.ref p), some (.ref fo), x2, x3, x4, none, none, none, none] ∧ SameBut p H G ∧ PenAt G p l ns k1 lf1 ∧ 0 ≤ k1 ∧ 0 ≤ lf1 ∧ k1 ≤ k + 6 * i ∧ G fo = some (.lst (as.map V.ref)) ∧ as.length = i ∧ (∀ a ∈ as, H a = none ∧ a ≠ fo ∧ ∃ ks, prs ks = six0 ∧ LstK emp a ks G) ∧ as.Nodup)
      ⟨none, none, none, k, lf, [], rfl, .of s0, P00, i0, i2, by omega, hfo0, rfl, fun a ha => absurd ha (by simp), .nil⟩ (fun _ _ _ _ _ => trivial) ?_ ?_⟩
    · rintro i x σ G Gx hi ⟨x2, x3, x4, k1, lf1, as, rfl, sG, PG, j1, j2, j3, hfo, hal, has, hand⟩ ⟨rfl, rfl⟩
      have hi2 : i < 2 := hi
      refine ⟨Nat.zero_le _, fun b0 nb0 => ?_⟩
      have s1 := upd_new (o := .lst []) nb0
      have Lb0 : LstK emp b0 [] (upd Gx b0 (.lst [])) := (LstK.new nb0).any
      have P1 : PenAt (upd Gx b0 (.lst [])) p l ns k1 lf1 := ⟨s1 _ _ PG.dc, s1 _ _ PG.ls⟩
      generalize upd Gx b0 (.lst []) = G1 at s1 Lb0 P1
      refine ⟨(by show 2 ≤ sizeLine; decide), fun t nt => ⟨t, rfl, ⟨_, .inl (.inl upd_same)⟩, ?_⟩⟩
      have s2 := s1.trans (upd_new (o := .tup [.bl false, .bl true]) nt)
      have ht2 : upd G1 t (.tup [.bl false, .bl true]) t = some (.tup [.bl false, .bl true]) := upd_same
      have Lb2 := Lb0.mono (upd_new (o := .tup [.bl false, .bl true]) nt)
      have P2 : PenAt (upd G1 t (.tup [.bl false, .bl true])) p l ns k1 lf1 := ⟨upd_new nt _ _ P1.dc, upd_new nt _ _ P1.ls⟩
      generalize upd G1 t (.tup [.bl false, .bl true]) = G2 at s2 ht2 Lb2 P2
      refine for_it (walk_tup (K := K) (xs := [.bl false, .bl true])) (fun j σ G => ∃ (x4 : Option V) (k2 lf2 : Int) (b : Addr) (ks : List Kd), σ = [some (.ref p), some (.ref fo), some (.int (0 + (i : Int))), some (.ref b), x4, none, none, none, none] ∧ SameBut p Gx G ∧ PenAt G p l ns k2 lf2 ∧ 0 ≤ k2 ∧ 0 ≤ lf2 ∧ k2 ≤ k1 + 3 * j ∧ LstK emp b ks G ∧ Gx b = none ∧ prs ks = ([false, true].take j).flatMap c3 ∧ G t = some (.tup [.bl false, .bl true]))
        ⟨x4, k1, lf1, b0, [], rfl, .of s2, P2, j1, j2, by omega, Lb2, nb0, rfl, ht2⟩ (fun j σ G _ q => ?_) ?_ ?_
      · obtain ⟨_, _, _, _, _, _, _, _, _, _, _, _, _, _, h⟩ := q
        exact .inl (.inl h)
      · rintro j v σ Ga Gb hj ⟨x4, k2, lf2, b, ks, rfl, sa, Pa, a1, a2, a3, Lb, nb, hks, hta⟩ ⟨rfl, hv⟩
        obtain ⟨m, hm, rfl⟩ := map_at (enc := V.bl) (ws := [false, true]) hv
        have hj2 : j < 2 := hj
        refine ⟨V.ref b, rfl, 3, rfl, (by decide), (by decide), fun D nD => lc_it walk_range (fun c G => ∃ (k3 lf3 : Int) (ks3 : List Kd), SameBut p Gb G ∧ PenAt G p l ns k3 lf3 ∧ 0 ≤ k3 ∧ 0 ≤ lf3 ∧ k3 ≤ k2 + c ∧ LstK emp D ks3 G ∧ prs ks3 = (([0, 1, 2] : List Int).take c).map fun c => (m, c))
          ⟨k2, lf2, [], .of (upd_new nD), ⟨upd_new nD _ _ Pa.dc, upd_new nD _ _ Pa.ls⟩, a1, a2, by omega, (LstK.new nD).any, rfl⟩ (fun _ _ _ _ => trivial) ?_ ?_⟩
        · rintro c y Gc Gd hc ⟨k3, lf3, ks3, sc, Pc, b1, b2, b3, Lc, hks3⟩ ⟨rfl, rfl⟩
          have hc3 : c < 3 := hc
          have hcv : ([0, 1, 2] : List Int)[c]? = some (0 + (c : Int)) := by
            match c, hc3 with
            | 0, _ => rfl
            | 1, _ => rfl
            | 2, _ => rfl
          refine ⟨rfl, V.bl m, rfl, V.ref p, rfl, p, l, ns, k3, lf3, 3, rfl, Pc, hn, b1, by omega, b2, by decide, by decide, fun Ge k4 lf4 d4 m1 m2 m3 m4 m5 s4 P4 => ⟨rfl, V.int (0 + c), rfl, (by show 3 ≤ sizeLine; decide), fun u nu => ?_⟩⟩
          have s5 := upd_new (o := .tup [.bl m, .bl (decide (V.int d4 = V.int 0)), .int (0 + (c : Int))]) nu
          have hu5 : KAt (upd Ge u (.tup [.bl m, .bl (decide (V.int d4 = V.int 0)), .int (0 + (c : Int))])) u (m, decide (V.int d4 = V.int 0), 0 + (c : Int)) := upd_same
          have Ke := Kx.but Pc s4
          have L5 := (Lc.kx Ke).mono s5
          have P5 : PenAt (upd Ge u (.tup [.bl m, .bl (decide (V.int d4 = V.int 0)), .int (0 + (c : Int))])) p l ns k4 lf4 := ⟨s5 _ _ P4.dc, s5 _ _ P4.ls⟩
          have s45 := sc.trans (s4.trans (SameBut.of s5))
          generalize upd Ge u (.tup [.bl m, .bl (decide (V.int d4 = V.int 0)), .int (0 + (c : Int))]) = Gf at hu5 L5 P5 s45
          have hl3 : ks3.length ≤ 3 := by
            have z := prs_len ks3
            rw [hks3, List.length_map, List.length_take] at z
            have : min c ([0, 1, 2] : List Int).length ≤ 3 := Nat.min_le_right _ _
            omega
          obtain ⟨acc, e1, e2, e3⟩ := L5.put rfl hu5 (by omega)
          have nDl : l ≠ D := ne_of_none Pa.ls nD
          have nDp : p ≠ D := ne_of_none Pa.dc nD
          refine ⟨acc, e1, e2, k4, lf4, ks3 ++ [(m, decide (V.int d4 = V.int 0), 0 + (c : Int))], fun c' o hc' e => ?_, P5.upd_ nDp nDl, m2, m3, by omega, e3, ?_⟩
          · rw [upd_ne (ne_of_none e nD)]
            exact s45 _ _ hc' e
          · unfold prs at hks3 ⊢
            rw [List.map_append, hks3, take_snoc hcv, List.map_append]
            rfl
        · rintro Gc ⟨k3, lf3, ks3, sc, Pc, b1, b2, b3, Lc, hks3⟩
          have b3 : k3 ≤ k2 + (3 : Int) := b3
          have hks3 : prs ks3 = c3 m := hks3
          have Lbc := Lb.kx (Kx.but Pa sc)
          obtain ⟨ps1, c1, c2, c3', _⟩ := Lbc
          obtain ⟨ps2, d1, d2, d3, _⟩ := Lc
          have l1 : (rfs ps1).length ≤ 6 := by
            have z1 : (rfs ps1).length = ps1.length := List.length_map _
            have z2 : (kds ps1).length = ps1.length := List.length_map _
            have z := prs_len ks
            rw [hks] at z
            rw [← c3'] at z
            have z3 : (([false, true].take j).flatMap c3).length ≤ 6 := by
              match j, hj2 with
              | 0, _ => decide
              | 1, _ => decide
            omega
          have l2 : (rfs ps2).length ≤ 3 := by
            have z1 : (rfs ps2).length = ps2.length := List.length_map _
            have z2 : (kds ps2).length = ps2.length := List.length_map _
            have z := prs_len ks3
            rw [hks3, ← d3] at z
            have z3 : (c3 m).length = 3 := rfl
            omega
          have b5 : (500 : Nat) ≤ sizeLine := by decide
          refine ⟨b, D, _, _, rfl, rfl, c1, d1, by omega, fun q nq => ?_⟩
          have s6 := upd_new (o := .lst (rfs ps1 ++ rfs ps2)) nq
          have ex : Gx q = none := by
            cases e : Gx q with
            | none => rfl
            | some o =>
              by_cases hqp : q = p
              · rw [hqp, Pc.dc] at nq
                cases nq
              · rw [sc _ _ hqp (sa _ _ hqp e)] at nq
                cases nq
          refine ⟨_, k3, lf3, q, ks ++ ks3, rfl, sa.trans (sc.trans (SameBut.of s6)), ⟨s6 _ _ Pc.dc, s6 _ _ Pc.ls⟩, b1, b2, by push_cast; omega, ⟨ps1 ++ ps2, ?_, fun a ha => ?_, ?_, fun _ _ e => nomatch e⟩, ex, ?_, s6 _ _ (sc _ _ (ne_of hta Pa.dc (by intro z; cases z)) hta)⟩
          · rw [upd_same]
            unfold rfs
            rw [List.map_append]
          · rcases List.mem_append.mp ha with ha | ha
            · exact s6 _ _ (c2 a ha)
            · exact s6 _ _ (d2 a ha)
          · unfold kds at c3' d3 ⊢
            rw [List.map_append, c3', d3]
          · unfold prs at hks hks3 ⊢
            rw [List.map_append, hks, hks3, take_snoc hm, List.flatMap_append]
            simp
      · rintro σ Ga ⟨x4, k2, lf2, b, ks, rfl, sa, Pa, a1, a2, a3, Lb, nb, hks, hta⟩
        have a3 : k2 ≤ k1 + 3 * (2 : Int) := a3
        have hks : prs ks = six0 := hks
        have nfp : fo ≠ p := ne_of hfo PG.dc (by intro z; cases z)
        have hfoa := sa _ _ nfp hfo
        have nbf : b ≠ fo := fun z => by rw [z, hfo] at nb; cases nb
        have b2 : (5000 : Nat) < sizeLine := by decide
        have hl : (as.map V.ref).length = i := by rw [List.length_map, hal]
        have nb' : H b = none := by
          cases e : H b with
          | none => rfl
          | some o =>
            by_cases hbp : b = p
            · rw [hbp, PG.dc] at nb
              cases nb
            · rw [sG _ _ hbp e] at nb
              cases nb
        have nlf : l ≠ fo := ne_of_none P0.ls nfo
        refine ⟨V.ref fo, rfl, .inl ⟨rfl, _, .inl (.inl hfoa)⟩, V.ref b, rfl, fo, as.map V.ref, V.ref b, rfl, rfl, hfoa, by omega, _, _, _, k2, lf2, as ++ [b], rfl, fun c o hc e => ?_, Pa.upd_ nfp.symm nlf, a1, a2, by push_cast; omega, by rw [upd_same, List.map_append]; rfl, by rw [List.length_append, hal]; rfl, fun a ha => ?_, ?_⟩
        · rw [upd_ne (ne_of_none e nfo)]
          exact sa _ _ hc (sG _ _ hc e)
        · rcases List.mem_append.mp ha with ha | ha
          · obtain ⟨g1, g2, ksa, g3, g4⟩ := has a ha
            exact ⟨g1, g2, ksa, g3, ((g4.kx (Kx.but PG sa))).ne (Ne.symm g2) hfoa⟩
          · rw [List.mem_singleton.mp ha]
            exact ⟨nb', nbf, ks, hks, Lb.ne (Ne.symm nbf) hfoa⟩
        · rw [List.nodup_append]
          refine ⟨hand, by simp, fun a ha c hc z => ?_⟩
          rw [List.mem_singleton.mp hc] at z
          obtain ⟨_, _, ksa, _, g4⟩ := has a ha
          obtain ⟨ys, hy⟩ := g4.lst
          rw [z, nb] at hy
          cases hy
    rintro σ G ⟨x2, x3, x4, k1, lf1, as, rfl, sG, PG, j1, j2, j3, hfo, hal, has, hand⟩
    have hal : as.length = 2 := hal
    have j3 : k1 ≤ k + 6 * (2 : Int) := j3
    obtain ⟨a0, a1, rfl⟩ : ∃ a0 a1, as = [a0, a1] := by
      match as, hal with
      | [a0, a1], _ => exact ⟨a0, a1, rfl⟩
    obtain ⟨na0, nf0, ks0, hks0, L0⟩ := has a0 (by simp)
    obtain ⟨na1, nf1, ks1, hks1, L1⟩ := has a1 (by simp)
    have n01 : a0 ≠ a1 := by
      rw [List.nodup_cons] at hand
      exact fun z => hand.1 (by simp [z])
    have nfp : fo ≠ p := ne_of hfo PG.dc (by intro z; cases z)
    have nlf : l ≠ fo := ne_of_none P0.ls nfo
    -- the first kind of the root
    refine ⟨V.ref p, rfl, p, l, ns, k1, lf1, 5, rfl, PG, hn, j1, by omega, j2, by decide, by decide, fun Ga ka lfa da m1 m2 m3 m4 m5 sa Pa => ⟨rfl, (by show 3 ≤ sizeLine; decide), fun t nt => ?_⟩⟩
    have s1 := upd_new (o := .tup [.bl false, .bl (decide (V.int da = V.int 0)), .int 0]) nt
    have ht1 : KAt (upd Ga t (.tup [.bl false, .bl (decide (V.int da = V.int 0)), .int 0])) t (false, decide (V.int da = V.int 0), 0) := upd_same
    have KGa := Kx.but PG sa
    have L0b := (L0.kx KGa).mono s1
    have L1b := (L1.kx KGa).mono s1
    have hfob := s1 _ _ (sa _ _ nfp hfo)
    have Pb : PenAt (upd Ga t (.tup [.bl false, .bl (decide (V.int da = V.int 0)), .int 0])) p l ns ka lfa := ⟨s1 _ _ Pa.dc, s1 _ _ Pa.ls⟩
    have sb := sG.trans (sa.trans (SameBut.of s1))
    obtain ⟨ps0, e1, e2, e3, _⟩ := L0b
    have pl0 : ps0.length = 6 := by
      have z := prs_len (kds ps0)
      have z2 : (kds ps0).length = ps0.length := List.length_map _
      rw [e3, hks0] at z
      have z3 : six0.length = 6 := by decide +kernel
      rw [e3] at z2
      omega
    have rl0 : (rfs ps0).length = 6 := by
      have z : (rfs ps0).length = ps0.length := List.length_map _
      omega
    have hset : (rfs ps0).set 0 (.ref t) = rfs (ps0.set 0 (t, (false, decide (V.int da = V.int 0), (0 : Int)))) := by
      unfold rfs
      rw [List.map_set]
    refine ⟨V.ref fo, rfl, fo, _, 0, .ref a0, rfl, rfl, .inl (.inl hfob), rfl, a0, rfs ps0, 0, 0, rfl, rfl, e1, by rw [rl0]; rfl, ?_⟩
    rw [hset]
    generalize upd Ga t (.tup [.bl false, .bl (decide (V.int da = V.int 0)), .int 0]) = Gb at s1 ht1 L1b hfob Pb sb e1 e2
    have hk0' : prs (kds (ps0.set 0 (t, (false, decide (V.int da = V.int 0), (0 : Int))))) = six0 := by
      have z : prs (kds (ps0.set 0 (t, (false, decide (V.int da = V.int 0), (0 : Int))))) = (prs (kds ps0)).set 0 (false, 0) := by
        unfold prs kds
        rw [List.map_set, List.map_set]
      rw [z, e3, hks0]
      decide +kernel
    have L0c : LstK emp a0 (kds (ps0.set 0 (t, (false, decide (V.int da = V.int 0), (0 : Int))))) (upd Gb a0 (.lst (rfs (ps0.set 0 (t, (false, decide (V.int da = V.int 0), (0 : Int))))))) := by
      refine ⟨_, upd_same, fun q hq => ?_, rfl, fun _ _ e => nomatch e⟩
      have z : KAt Gb q.1 q.2 := by
        rcases List.mem_or_eq_of_mem_set hq with hq | rfl
        · exact e2 q hq
        · exact ht1
      show upd Gb a0 _ q.1 = _
      rw [upd_ne (fun w => by rw [KAt, w, e1] at z; cases z)]
      exact z
    have L1c : LstK emp a1 ks1 (upd Gb a0 (.lst (rfs (ps0.set 0 (t, (false, decide (V.int da = V.int 0), (0 : Int))))))) := L1b.ne n01 e1
    have hfoc : upd Gb a0 (.lst (rfs (ps0.set 0 (t, (false, decide (V.int da = V.int 0), (0 : Int)))))) fo = some (.lst [.ref a0, .ref a1]) := by
      rw [upd_ne (Ne.symm nf0)]
      exact hfob
    have Pc : PenAt (upd Gb a0 (.lst (rfs (ps0.set 0 (t, (false, decide (V.int da = V.int 0), (0 : Int))))))) p l ns ka lfa := Pb.upd_ (ne_of_none P0.dc na0) (ne_of_none P0.ls na0)
    have sc : SameBut p H (upd Gb a0 (.lst (rfs (ps0.set 0 (t, (false, decide (V.int da = V.int 0), (0 : Int))))))) := fun c o hc e => by
      rw [upd_ne (ne_of_none e na0)]
      exact sb _ _ hc e
    generalize kds (ps0.set 0 (t, (false, decide (V.int da = V.int 0), (0 : Int)))) = ks0' at L0c hk0'
    generalize upd Gb a0 (.lst (rfs (ps0.set 0 (t, (false, decide (V.int da = V.int 0), (0 : Int)))))) = Gc at L0c L1c hfoc Pc sc
    clear sb s1 e1 e2 e3 ht1 L1b hfob Pb
    -- one kind less of the others
    obtain ⟨ps1, e1, e2, e3, _⟩ := L1c
    have pl1 : ps1.length = 6 := by
      have z := prs_len (kds ps1)
      have z2 : (kds ps1).length = ps1.length := List.length_map _
      rw [e3, hks1] at z
      have z3 : six0.length = 6 := by decide +kernel
      rw [e3] at z2
      omega
    have rl1 : (rfs ps1).length = 6 := by
      have z : (rfs ps1).length = ps1.length := List.length_map _
      omega
    refine ⟨V.ref fo, rfl, fo, _, 1, .ref a1, rfl, rfl, .inl (.inl hfoc), rfl, 1, rfl, a1, rfs ps1, rfl, .inl (.inl e1), fun q nq => ?_⟩
    have hcut : cutV (rfs ps1) (some 1) none = rfs (ps1.drop 1) := by
      have z := cutV_drop (rfs ps1) 1 (by omega)
      unfold rfs at z ⊢
      rw [← List.map_drop] at z
      exact z
    rw [hcut]
    have s2 := upd_new (o := .lst (rfs (ps1.drop 1))) nq
    have Lq : LstK emp q ((kds ps1).drop 1) (upd Gc q (.lst (rfs (ps1.drop 1)))) := by
      refine ⟨ps1.drop 1, upd_same, fun a ha => s2 _ _ (e2 a (List.mem_of_mem_drop ha)), ?_, fun _ _ e => nomatch e⟩
      unfold kds
      rw [List.map_drop]
    have L0d := L0c.mono s2
    have hfod := s2 _ _ hfoc
    have Pd : PenAt (upd Gc q (.lst (rfs (ps1.drop 1)))) p l ns ka lfa := ⟨s2 _ _ Pc.dc, s2 _ _ Pc.ls⟩
    have sd := sc.trans (SameBut.of s2)
    have nqf : q ≠ fo := fun z => by rw [z, hfoc] at nq; cases nq
    generalize upd Gc q (.lst (rfs (ps1.drop 1))) = Gd at s2 Lq L0d hfod Pd sd
    refine ⟨V.ref fo, rfl, fo, _, 1, 1, rfl, rfl, hfod, rfl, ?_⟩
    have L0e : LstK emp a0 ks0' (upd Gd fo (.lst [.ref a0, .ref q])) := L0d.ne (Ne.symm nf0) hfod
    have Lqe : LstK emp q ((kds ps1).drop 1) (upd Gd fo (.lst [.ref a0, .ref q])) := Lq.ne (Ne.symm nqf) hfod
    have Pe : PenAt (upd Gd fo (.lst [.ref a0, .ref q])) p l ns ka lfa := Pd.upd_ (Ne.symm nfp) nlf
    have se : SameBut p H (upd Gd fo (.lst [.ref a0, .ref q])) := fun c o hc e => by
      rw [upd_ne (ne_of_none e nfo)]
      exact sd _ _ hc e
    have hfoe : upd Gd fo (.lst [.ref a0, .ref q]) fo = some (.lst ([a0, q].map V.ref)) := upd_same
    have kg0 : KG ks0' 6 := kg_six hk0'
    have kgq : KG ((kds ps1).drop 1) 6 := by
      have z := kg_six (ks := kds ps1) (by rw [e3]; exact hks1)
      exact ⟨z.nd.sublist (List.drop_sublist _ _), fun k hk => z.ok k (List.mem_of_mem_drop hk), by rw [List.length_drop]; have := z.n_; omega⟩
    have hsete : (([V.ref a0, V.ref a1] : List V).set 1 (.ref q)) = [.ref a0, .ref q] := rfl
    show tSeq _ _ _ _ (upd Gd fo (.lst (([V.ref a0, V.ref a1] : List V).set 1 (.ref q))))
    rw [hsete]
    generalize upd Gd fo (.lst [.ref a0, .ref q]) = Ge at L0e Lqe Pe se hfoe
    clear L0d Lq hfod Pd sd s2 e1 e2 L0c hfoc Pc sc
    -- some changes
    refine ⟨V.ref p, rfl, p, l, ns, ka, lfa, 3, rfl, Pe, hn, m2, by omega, m3, by decide, by decide, fun Gf kf lff df w1 w2 w3 w4 w5 sf Pf => ⟨df, rfl, by omega, by omega, ?_⟩⟩
    have Kf := Kx.but Pe sf
    refine for_it walk_range (fun i σ G => ∃ (y2 y5 y6 : Option V) (k1 lf1 : Int) (as : List Addr), σ = [some (.ref p), some (.ref fo), y2, x3, x4, y5, y6, none, none] ∧ SameBut p H G ∧ PenAt G p l ns k1 lf1 ∧ 0 ≤ k1 ∧ 0 ≤ lf1 ∧ k1 ≤ kf + 2 * i ∧ G fo = some (.lst (as.map V.ref)) ∧ as.length = 2 ∧ ∀ a ∈ as, a ≠ fo ∧ ∃ ks, LstK emp a ks G ∧ KG ks (6 + i))
      ⟨x2, none, none, kf, lff, [a0, q], rfl, se.trans sf, Pf, w2, w3, by omega, sf _ _ nfp hfoe, rfl, fun a ha => ?_⟩ (fun _ _ _ _ _ => trivial) ?_ ?_
    · rcases List.mem_cons.mp ha with rfl | ha
      · exact ⟨nf0, _, L0e.kx Kf, kg0⟩
      · rw [List.mem_singleton.mp ha]
        exact ⟨nqf, _, Lqe.kx Kf, kgq⟩
    · rintro i x σ Gg Gg' hi ⟨y2, y5, y6, k2, lf2, as, rfl, sg, Pg, g1, g2, g3, hfg, hal2, has2⟩ ⟨rfl, rfl⟩
      have hi3 : i < 2 := by
        have z : i < df.toNat := hi
        omega
      refine ⟨V.ref p, rfl, p, l, ns, k2, lf2, 2, rfl, Pg, hn, g1, by omega, g2, by decide, by decide, fun Gh kh lfh dh u1 u2 u3 u4 u5 sh Ph => ?_⟩
      obtain ⟨n, rfl⟩ : ∃ n : Nat, dh = (n : Int) := ⟨dh.toNat, (Int.toNat_of_nonneg u4).symm⟩
      have hn2 : n < 2 := by omega
      refine ⟨V.ref p, rfl, rfl, fun Gi r Lr nr => ?_⟩
      obtain ⟨psr, r1, r2, r3, sr⟩ := Lr
      have Pi : PenAt Gi p l ns kh lfh := ⟨sr _ _ Ph.dc, sr _ _ Ph.ls⟩
      have rlr : (rfs psr).length = 12 := by
        have z : (rfs psr).length = psr.length := List.length_map _
        have z2 : (kds psr).length = psr.length := List.length_map _
        have z3 : (kwS [false, true]).length = 12 := by decide +kernel
        rw [r3] at z2
        omega
      refine ⟨p, l, .ref r, ns, kh, lfh, rfs psr, rfl, Pi, hn, u2, by omega, u3, .inl ⟨r, rfl, r1⟩, by omega, by omega, fun Gj kj lfj y v1 v2 v3 hy sj Pj => ⟨(by show 2 ≤ sizeLine; decide), fun u nu => ?_⟩⟩
      obtain ⟨pk, hpk, rfl⟩ := List.mem_map.mp hy
      have hkk : pk.2 ∈ kwS [false, true] := by
        rw [← r3]
        exact List.mem_map.mpr ⟨pk, hpk, rfl⟩
      have okk := kw_fine.2.1 _ hkk
      have s7 := upd_new (o := .tup [.int (n : Nat), .ref pk.1]) nu
      have hu7 : upd Gj u (.tup [.int (n : Nat), .ref pk.1]) u = some (.tup [.int (n : Nat), .ref pk.1]) := upd_same
      have Kgj : Kx Gg' (upd Gj u (.tup [.int (n : Nat), .ref pk.1])) := (Kx.but Pg sh).trans ((Kx.of sr).trans ((Kx.but Pi sj).trans (Kx.of s7)))
      have hpk7 : KAt (upd Gj u (.tup [.int (n : Nat), .ref pk.1])) pk.1 pk.2 := s7 _ _ (Kx.but Pi sj _ _ (r2 pk hpk) (fun _ z => nomatch z) (fun _ _ _ z => nomatch z))
      have P7 : PenAt (upd Gj u (.tup [.int (n : Nat), .ref pk.1])) p l ns kj lfj := ⟨s7 _ _ Pj.dc, s7 _ _ Pj.ls⟩
      have sH7 : SameBut p H (upd Gj u (.tup [.int (n : Nat), .ref pk.1])) := sg.trans (sh.trans ((SameBut.of sr).trans (sj.trans (SameBut.of s7))))
      have hf7 := Kgj _ _ hfg (fun _ z => nomatch z) (fun _ _ _ z => nomatch z)
      generalize upd Gj u (.tup [.int (n : Nat), .ref pk.1]) = G7 at hu7 Kgj hpk7 P7 sH7 hf7
      refine ⟨u, _, rfl, .inl (.inl hu7), rfl, _, _, rfl, _, _, rfl, rfl, ?_⟩
      obtain ⟨a, ha⟩ : ∃ a, as[n]? = some a := ⟨_, List.getElem?_eq_getElem (by omega)⟩
      have ham := List.mem_of_getElem? ha
      have har : (as.map V.ref)[n]? = some (.ref a) := by rw [List.getElem?_map, ha]; rfl
      have hix : ixN (as.map V.ref).length (n : Int) = some n := by
        rw [List.length_map, hal2]
        match n, hn2 with
        | 0, _ => rfl
        | 1, _ => rfl
      obtain ⟨naf, ks, La, kga⟩ := has2 a ham
      have La7 := La.kx Kgj
      obtain ⟨psa, f1', f2', f3', _⟩ := id La7
      have rla : (rfs psa).length = psa.length := List.length_map _
      have kla : ks.length = psa.length := by rw [← f3']; exact List.length_map _
      have kgn := kga.n_
      have b5 : (500 : Nat) ≤ sizeLine := by decide
      -- what is left to show
      have fin : ∀ (G : Hp) (z : Addr) (kz : List Kd) (σ9 : St), σ9 = [some (.ref p), some (.ref fo), some (.int (n : Nat)), x3, x4, some (.int (0 + (i : Int))), some (.ref pk.1), none, none] → Same G7 G → G7 z = none → LstK emp z kz G → KG kz (6 + (i + 1)) →
          ∃ (y2 y5 y6 : Option V) (k1 lf1 : Int) (as' : List Addr), σ9 = [some (.ref p), some (.ref fo), y2, x3, x4, y5, y6, none, none] ∧ SameBut p H (upd G fo (.lst ((as.map V.ref).set n (.ref z)))) ∧ PenAt (upd G fo (.lst ((as.map V.ref).set n (.ref z)))) p l ns k1 lf1 ∧ 0 ≤ k1 ∧ 0 ≤ lf1 ∧ k1 ≤ kf + 2 * ((i + 1 : Nat) : Int) ∧ upd G fo (.lst ((as.map V.ref).set n (.ref z))) fo = some (.lst (as'.map V.ref)) ∧ as'.length = 2 ∧ ∀ a ∈ as', a ≠ fo ∧ ∃ ks, LstK emp a ks (upd G fo (.lst ((as.map V.ref).set n (.ref z)))) ∧ KG ks (6 + (i + 1)) := fun G z kz σ9 e9 s9 nz Lz kgz => by
        have hfG := s9 _ _ hf7
        have nzf : z ≠ fo := fun w => by rw [w, hf7] at nz; cases nz
        refine ⟨_, _, _, kj, lfj, as.set n z, e9, fun c o hc e => ?_, (show PenAt G p l ns kj lfj from ⟨s9 _ _ P7.dc, s9 _ _ P7.ls⟩).upd_ (Ne.symm nfp) nlf, v2, v3, by push_cast; omega, by rw [upd_same, List.map_set], by rw [List.length_set]; exact hal2, fun a' ha' => ?_⟩
        · rw [upd_ne (ne_of_none e nfo)]
          exact s9 _ _ (sH7 _ _ hc e)
        · rcases List.mem_or_eq_of_mem_set ha' with ha' | rfl
          · obtain ⟨h1, ks', h2, h3⟩ := has2 a' ha'
            exact ⟨h1, ks', ((h2.kx Kgj).mono s9).ne (Ne.symm h1) hfG, ⟨h3.nd, h3.ok, by have := h3.n_; omega⟩⟩
          · exact ⟨nzf, kz, Lz.ne (Ne.symm nzf) hfG, kgz⟩
      refine ⟨V.ref pk.1, rfl, V.ref fo, rfl, V.int (n : Nat), rfl, fo, _, (n : Int), .ref a, rfl, rfl, .inl (.inl hf7), atI_nat har, a, rfs psa, ks.map kdD, kdD pk.2, rfl, .inl (.inl (.inl f1')), by rw [← f3']; exact f2'.dp, hpk7.dp, (kd_lay _).1, kds_lay _, Nat.le_trans (kd_lay _).2 (by decide), _, rfl, ?_⟩
      rw [if_neg (by decide), kds_any]
      by_cases hin : pk.2 ∈ ks
      · rw [decide_eq_true hin]
        refine iteT ?_
        refine ⟨V.ref fo, rfl, V.int (n : Nat), rfl, fo, _, (n : Int), .ref a, rfl, rfl, .inl (.inl hf7), atI_nat har, a, rfl, ⟨_, .inl (.inl f1')⟩, fun D nD => lcF_list (K := K) (ws := psa) (fun p => V.ref p.1) nD (fun p => V.ref p.1) (fun q => !decide (q.2 = pk.2)) (.inl (.inl f1')) (by omega) (fun j q G hq sG A B kA kB => ?_) fun G8 s8 hD8 => ?_⟩
        · have hk2 := sG _ _ (f2' q (List.mem_of_getElem? hq))
          refine ⟨rfl, V.ref q.1, rfl, V.ref pk.1, rfl, kdD q.2, kdD pk.2, KAt.dp hk2, KAt.dp (sG _ _ hpk7), kd_shaped _, kd_shaped _, _, rfl, ?_⟩
          rw [kd_eqv]
          refine ite2 (fun cc => ⟨V.ref q.1, rfl, kA cc⟩) (fun cc => kB (by simpa using cc))
        · have LD : LstK emp D (ks.filter fun k => !decide (k = pk.2)) G8 := by
            refine ⟨psa.filter fun q => !decide (q.2 = pk.2), hD8, fun q hq => s8 _ _ (f2' q (List.mem_filter.mp hq).1), ?_, fun _ _ e => nomatch e⟩
            rw [← f3']
            unfold kds
            rw [List.filter_map]
            rfl
          refine ⟨V.ref fo, rfl, V.int (n : Nat), rfl, fo, _, (n : Int), n, rfl, rfl, s8 _ _ hf7, hix, ?_⟩
          exact fin G8 D _ _ rfl s8 nD LD ⟨kga.nd.sublist List.filter_sublist, fun k hk => kga.ok k (List.mem_filter.mp hk).1, by have := List.length_filter_le (fun k => !decide (k = pk.2)) ks; omega⟩
      · rw [decide_eq_false hin]
        refine iteF ?_
        refine ⟨V.ref fo, rfl, V.int (n : Nat), rfl, fo, _, (n : Int), .ref a, rfl, rfl, .inl (.inl hf7), atI_nat har, V.ref pk.1, rfl, (by show 1 ≤ sizeLine; decide), fun z nz => ?_⟩
        have s8 := upd_new (o := .lst [.ref pk.1]) nz
        have hz8 : upd G7 z (.lst [.ref pk.1]) z = some (.lst [.ref pk.1]) := upd_same
        generalize upd G7 z (.lst [.ref pk.1]) = G8 at s8 hz8
        refine ⟨a, z, rfs psa, [.ref pk.1], rfl, rfl, s8 _ _ f1', hz8, by show _ + 1 ≤ sizeLine; omega, fun q nq => ?_⟩
        have s9 := s8.trans (upd_new (o := .lst (rfs psa ++ [.ref pk.1])) nq)
        have nq7 : G7 q = none := by
          cases e : G7 q with
          | none => rfl
          | some o =>
            rw [s8 _ _ e] at nq
            cases nq
        have LD : LstK emp q (ks ++ [pk.2]) (upd G8 q (.lst (rfs psa ++ [.ref pk.1]))) := by
          refine ⟨psa ++ [pk], ?_, fun w hw => ?_, ?_, fun _ _ e => nomatch e⟩
          · rw [upd_same]
            unfold rfs
            rw [List.map_append]
            rfl
          · rcases List.mem_append.mp hw with hw | hw
            · exact s9 _ _ (f2' w hw)
            · rw [List.mem_singleton.mp hw]
              exact s9 _ _ hpk7
          · rw [← f3']
            unfold kds
            rw [List.map_append]
            rfl
        refine ⟨V.ref fo, rfl, V.int (n : Nat), rfl, fo, _, (n : Int), n, rfl, rfl, s9 _ _ hf7, hix, ?_⟩
        refine fin _ q _ _ rfl s9 nq7 LD ⟨?_, fun k hk => ?_, by rw [List.length_append]; show _ + 1 ≤ _; omega⟩
        · rw [List.nodup_append]
          refine ⟨kga.nd, by simp, fun x hx y hy e => ?_⟩
          rw [List.mem_singleton.mp hy] at e
          exact hin (e ▸ hx)
        · rcases List.mem_append.mp hk with hk | hk
          · exact kga.ok k hk
          · rw [List.mem_singleton.mp hk]
            exact okk
    rintro σ Gg ⟨y2, y5, y6, k2, lf2, as, rfl, sg, Pg, g1, g2, g3, hfg, hal2, has2⟩
    obtain ⟨b0, b1, rfl⟩ : ∃ b0 b1, as = [b0, b1] := by
      match as, hal2 with
      | [b0, b1], _ => exact ⟨b0, b1, rfl⟩
    obtain ⟨_, kb0, M0, kgb0⟩ := has2 b0 (by simp)
    obtain ⟨_, kb1, M1, kgb1⟩ := has2 b1 (by simp)
    have hdf : df.toNat ≤ 2 := by omega
    have q0 := kgb0.n_
    have q1' := kgb1.n_
    obtain ⟨pa0, h1, h2, h3, _⟩ := M0
    have rl0' : (rfs pa0).length = pa0.length := List.length_map _
    have kl0' : (kds pa0).length = pa0.length := List.length_map _
    rw [h3] at kl0'
    have mkRL : ∀ {G : Hp} {b : Addr} {ps : PK} {ks : List Kd} {n : Nat} {ys : List V}, ys.Perm (rfs ps) → KsAt G ps → kds ps = ks → KG ks n → n ≤ 8 → G b = some (.lst ys) → ∃ qs, RL G b qs := fun {G b ps ks n ys} hp hk he hg hn hb => by
      obtain ⟨qs, h1, rfl⟩ := rfs_perm hp rfl
      have z : (kds qs).Perm ks := he ▸ h1.map _
      have z2 : (kds qs).length = qs.length := List.length_map _
      have z3 := z.length_eq
      have z4 := hg.n_
      exact ⟨qs, hb, fun p hp => hk p (h1.mem_iff.mp hp), z.nodup_iff.mpr hg.nd, fun k hk => hg.ok k (z.mem_iff.mp hk), by omega⟩
    have g3 : k2 ≤ kf + 2 * ((df.toNat : Nat) : Int) := g3
    refine ⟨V.ref p, rfl, V.ref fo, rfl, fo, _, 0, .ref b0, rfl, rfl, .inl (.inl hfg), rfl, p, l, b0, ns, k2, lf2, _, rfl, Pg, hn, g1, by omega, g2, .inl (.inl h1), by omega, fun Gh kh lfh c ys t1 t2 t3 hp2 sh Ph hc nc => ?_⟩
    have Kh := Kx.but Pg sh
    obtain ⟨qs0, R0⟩ := mkRL hp2 (fun q hq => Kh _ _ (h2 q hq) (fun _ z => nomatch z) (fun _ _ _ z => nomatch z)) h3 kgb0 (by omega) hc
    have M1h := M1.kx Kh
    obtain ⟨pa1, i1', i2', i3', _⟩ := M1h
    have rl1' : (rfs pa1).length = pa1.length := List.length_map _
    have kl1' : (kds pa1).length = pa1.length := List.length_map _
    rw [i3'] at kl1'
    have hfh := Kh _ _ hfg (fun _ z => nomatch z) (fun _ _ _ z => nomatch z)
    refine ⟨V.ref p, rfl, V.ref fo, rfl, fo, _, 1, .ref b1, rfl, rfl, .inl (.inl hfh), rfl, p, l, b1, ns, kh, lfh, _, rfl, Ph, hn, t2, by omega, t3, .inl (.inl i1'), by omega, fun Gi ki lfi c2 zs o1 o2 o3 hp3 si Pi hc2 nc2 => ?_⟩
    have Ki := Kx.but Ph si
    obtain ⟨qs1, R1⟩ := mkRL hp3 (fun q hq => Ki _ _ (i2' q hq) (fun _ z => nomatch z) (fun _ _ _ z => nomatch z)) i3' kgb1 (by omega) hc2
    refine ⟨(by show 2 ≤ sizeLine; decide), fun u nu => ?_⟩
    have s9 := upd_new (o := .tup [.ref c, .ref c2]) nu
    exact kk _ ki lfi u c c2 qs0 qs1 (by omega) o2 o3 (sg.trans (sh.trans (si.trans (SameBut.of s9)))) ⟨s9 _ _ Pi.dc, s9 _ _ Pi.ls⟩ upd_same ((R0.kx Ki).kx (Kx.of s9)) (R1.kx (Kx.of s9))
end
end SK
namespace SK
open PySem PySem.Spec PyProof.Rows L2 LamX NdefX
open K0 (De DeAll XCl spX withX)
/-! ### the law's count of trees -/
def rEqE (K : PySem.W.Frag) : R2 := fun x y H Q => ∃ (a b : Addr) (xs : List V), x = .ref a ∧ y = .ref b ∧ SqL K H a xs ∧ SqL K H b [] ∧ Q (.bl xs.isEmpty) H
theorem op_eqE {X : Cx} (hu : X.A.units < cLine) : OpR X (compareOp .Eq) (rEqE X.K) := by
  intro pins s σ H x y v u Q I rx ry h
  obtain ⟨a, b, xs, rfl, rfl, h1, h2, q⟩ := h
  obtain rfl : v = Value.ref a := rx
  obtain rfl : u = Value.ref b := ry
  obtain ⟨its, r1, p1, z1⟩ := I.list h1
  obtain ⟨js, r2, p2, z2⟩ := I.list h2
  cases r2
  show wpAny (model X.prog X.w) X.A (richCompare .Eq (.ref a) (.ref b)) (EP X pins σ Q) X.xe s
  cases xs with
  | nil =>
    cases r1
    exact SeqAt.RcAt.lists (e := fun _ => true) p1.isList p2.isList rfl hu (fun j h1 h2 => absurd h1 (by simp)) X.prog X.w _ _ ⟨.bl true, H, I, rfl, q⟩
  | cons x0 xr =>
    cases r1 with
    | cons g1 g2 => exact SeqAt.RcAt.lists_lengths p1.isList p2.isList (by simp) hu X.prog X.w _ _ ⟨.bl false, H, I, rfl, q⟩
def spLf (K : PySem.W.Frag) : Sp := fun vs H Q _ => ∃ (q : Addr) (m : Bool) (c : Int) (ks : List Kd), vs = [.ref q, .bl m, .int c] ∧ LstK emp q ks H ∧ ks.length ≤ 100 ∧ ∀ (H' : Hp) (r : Addr), Same H H' → H r = none → H' r = some (.lst ((flS ks m c).map V.bl)) → Q (.ref r) H'
def pairD (m : Bool) (c : Int) : PyData := .tuple [.bool m, .int c]
theorem pair_shaped (m : Bool) (c : Int) : SeqAt.shaped (pairD m c) = true := by
  unfold SeqAt.shaped pairD
  rw [Bool.and_eq_true, decide_eq_true_eq]
  exact ⟨by simp [PyData.canLay0, PyData.canLayAll0], by simp [PyData.depth, PyData.depthAll]⟩
theorem pair_eqv (a m : Bool) (b c : Int) : PyData.eqv (pairD a b) (pairD m c) = (decide (a = m) && decide (b = c)) := by
  simp only [pairD, PyData.eqv, PyData.eqvAll]
  cases a <;> cases m <;> by_cases h : b = c <;> simp [h]
theorem pair_dp {K : PySem.W.Frag} {H : Hp} {u : Addr} {m : Bool} {c : Int} (h : H u = some (.tup [.bl m, .int c])) : Dp K H (.ref u) (pairD m c) := .tup (.inl (.inl h)) (.cons (.bl _) (.cons (.int _) .nil))
def kidsN (P : List Str) (p : Str) : Nat := (P.filter fun r => decide (r ≠ Str.ofString "") && decide (initS r = p)).length
def facP (kr ko : List Kd) (ws P : List Str) (p : Str) : Nat := (flS (if p = Str.ofString "" then kr else ko) (decide (p ∈ ws)) ((min 2 (kidsN P p) : Nat) : Int)).length
def cntL (kr ko : List Kd) (ws P : List Str) : Nat := P.foldl (fun m p => m * facP kr ko ws P p) 1
def spTr (K : PySem.W.Frag) : Sp := fun vs H Q _ => ∃ (q1 q2 w : Addr) (kr ko : List Kd) (ws : List Str), vs = [.ref q1, .ref q2, .ref w] ∧ LstK emp q1 kr H ∧ LstK emp q2 ko H ∧ kr.length ≤ 100 ∧ ko.length ≤ 100 ∧ H w = some (.lst (ws.map V.str)) ∧ (∀ y ∈ ws, Short "abc" y) ∧ ws.length ≤ 6 ∧
  ∀ (H' : Hp) (bs : List Str), Same H H' → bs.Nodup → (∀ x, x ∈ bs ↔ isBeg ws x) → Q (.int (cntL kr ko ws (sortW "abc" bs) : Nat)) H'
def sets10 : List (List Str) := [[], [""], ["a"], ["", "a"], ["a", "b"], ["", "a", "b"], ["aa"], ["a", "aa"], ["aa", "ab"], ["a", "aa", "ab"]]
section
variable {P : Program} {w : World} {K : PySem.W.Frag} {mg : Str → Option Value} {base : Heap} {f fLf fBg fTr : Addr} {fd fdLf fdBg fdTr : FuncData}
abbrev NLf : List Str := ["kinds", "mark", "children", "kind"]
theorem ok_lf (F : Fun K "_law_flags" "_law_flags" (top 52) f fd) : FnOk P w K mg base CX0 1 f fd ["kinds", "mark", "children"] (spLf K) := by
  have S0 : FnScope NLf ["kinds", "mark", "children"] (defScope (top 52)) := ⟨rfl, rfl, rfl, by decide +kernel, rfl, by decide +kernel, by decide +kernel⟩
  have nd := S0.nd
  refine F.ok S0 (fun vs H Q E h => ?_) (fun cdv A outer s H vs Q E hr h => ?_)
  · obtain ⟨q, m, c, ks, rfl, _⟩ := h
    rfl
  · obtain ⟨q, m, c, ks, rfl, ⟨ps, h1, h2, h3, _⟩, hz, kk⟩ := h
    have hu64 := hr.units
    refine ⟨_, (pss_one (ps_ret (pe_lc (own := [("kind", 3)]) (g := gName 3) rfl nd (pi_list (pv 0)) (blkOk_by (N := NLf) (sc := defScope (top 52)) (by decide +kernel)) (fun _ _ _ _ _ => pg_name (i := 3) nd rfl (Or.inl rfl)) (fun _ _ _ _ _ => (pts_one (pt_cmpR (r := rEqD K) (op_eqD hu64) (pe_tup (pa_cons (pe_ix (r := rIxT K) ix_tup (pv 3) pe_int (fun _ _ => rfl)) (pa_cons (pe_ix (r := rIxT K) ix_tup (pv 3) pe_int (fun _ _ => rfl)) pa_nil))) (pe_tup (pa_cons (pv 1) (pa_cons (pv 2) pa_nil))) (nomark _)))) (fun _ _ _ _ _ => (pe_ix (r := rIxT K) ix_tup (pv 3) pe_int (fun _ _ => rfl)))))), ?_⟩
    have rl : (rfs ps).length = ps.length := List.length_map _
    have kl : (kds ps).length = ps.length := List.length_map _
    rw [h3] at kl
    have b5 : (500 : Nat) ≤ sizeLine := by decide
    refine ⟨V.ref q, rfl, q, rfl, ⟨_, .inl (.inl h1)⟩, fun D nD => lcS_list (K := K) (ws := ps) (fun p => V.ref p.1) nD (fun p => V.bl p.2.2.1) (fun p => decide (p.2.1 = m) && decide (p.2.2.2 = c)) (.inl (.inl h1)) (by omega) (fun i p G hp sG A B kA kB => ?_) fun G sG hD => ?_⟩
    · have ht := sG _ _ (h2 p (List.mem_of_getElem? hp))
      refine ⟨rfl, V.ref p.1, rfl, p.1, kdV p.2, 0, .bl p.2.1, rfl, rfl, .inl (.inl ht), rfl, V.ref p.1, rfl, p.1, kdV p.2, 2, .int p.2.2.2, rfl, rfl, .inl (.inl ht), rfl, (by show 2 ≤ sizeLine; decide), fun u nu => ?_⟩
      have s1 := upd_new (o := .tup [.bl p.2.1, .int p.2.2.2]) nu
      have hu1 : upd G u (.tup [.bl p.2.1, .int p.2.2.2]) u = some (.tup [.bl p.2.1, .int p.2.2.2]) := upd_same
      generalize upd G u (.tup [.bl p.2.1, .int p.2.2.2]) = G1 at s1 hu1
      refine ⟨V.bl m, rfl, V.int c, rfl, (by show 2 ≤ sizeLine; decide), fun u2 nu2 => ?_⟩
      have s2 := upd_new (o := .tup [.bl m, .int c]) nu2
      have s12 := s1.trans s2
      have hu2 : upd G1 u2 (.tup [.bl m, .int c]) u2 = some (.tup [.bl m, .int c]) := upd_same
      have hu12 := s2 _ _ hu1
      generalize upd G1 u2 (.tup [.bl m, .int c]) = G2 at s12 hu2 hu12
      refine ⟨pairD p.2.1 p.2.2.2, pairD m c, pair_dp hu12, pair_dp hu2, pair_shaped _ _, pair_shaped _ _, _, rfl, ?_⟩
      rw [pair_eqv]
      refine ite2 (fun cc => ⟨V.ref p.1, rfl, p.1, kdV p.2, 1, .bl p.2.2.1, rfl, rfl, .inl (.inl (s12 _ _ ht)), rfl, kA cc _ s12⟩) (fun cc => kB (Bool.eq_false_iff.mpr cc) _ s12)
    · refine kk G D sG nD ?_
      rw [hD, ← h3]
      unfold flS kds
      rw [List.filter_map, List.map_map, List.map_map]
      rfl
abbrev NTr : List Str := ["root", "others", "words", "places", "many", "place", "children", "one"]
theorem ok_tr (F : Fun K "_law_trees_of" "_law_trees_of" (top 53) f fd) (gN : mg "len" = none) (gMn : mg "min" = none)
    (gBg : mg "_law_beginnings" = some (.ref fBg)) (kBg : PySem.W.keepIn K (.ref fBg) = true) (GBg : FnOk P w K mg base CX0 2 fBg fdBg ["letters", "words"] (spBegX K)) (bBg : Binds K fdBg ["letters", "words"] [])
    (gLf : mg "_law_flags" = some (.ref fLf)) (kLf : PySem.W.keepIn K (.ref fLf) = true) (GLf : FnOk P w K mg base CX0 1 fLf fdLf ["kinds", "mark", "children"] (spLf K)) (bLf : Binds K fdLf ["kinds", "mark", "children"] []) : FnOk P w K mg base CX0 3 f fd ["root", "others", "words"] (spTr K) := by
  have S0 : FnScope NTr ["root", "others", "words"] (defScope (top 53)) := ⟨rfl, rfl, rfl, by decide +kernel, rfl, by decide +kernel, by decide +kernel⟩
  have nd := S0.nd
  refine F.ok S0 (fun vs H Q E h => ?_) (fun cdv A outer s H vs Q E hr2 h => ?_)
  · obtain ⟨q1, q2, w, kr, ko, ws, rfl, _⟩ := h
    rfl
  · obtain ⟨q1, q2, wa, kr, ko, ws, rfl, L1, KL2, z1, z2, hw, hsh, hwl, kk⟩ := h
    have hr1 : Room 1 _ := hr2.mono (by decide)
    refine ⟨_, (pss_cons (ps_par (i := 3) (j := 4) rfl nd rfl rfl (by decide) rfl rfl (pa_cons (pe_call GBg hr2 (by rfl) gBg kBg bBg .nil pass0 (pa_cons pe_str (pa_cons (pv 2) pa_nil))) (pa_cons pe_int pa_nil)) rfl)
        (pss_cons (ps_for PassesOwn.never rfl (pi_list (pv 3)) (pg_name (i := 5) nd rfl (Or.inr rfl)) (pss_cons (ps_set (i := 6) nd rfl (Or.inl rfl) (pe_callB call_len_seq (by rfl) gN PySem.boot_len (pa_cons (pe_lc (own := [("one", 7)]) (g := gName 7) rfl nd (pi_list (pv 3)) (blkOk_by (N := NTr) (sc := defScope (top 53)) (by decide +kernel)) (fun _ _ _ _ _ => pg_name (i := 7) nd rfl (Or.inl rfl)) (fun _ _ _ _ _ => (pts_one (PW.pt (pw_and (pt_cmpR op_ne (pv 7) pe_str (nomark _)) (pw_and1 (pt_cmpR op_eq (pe_slice sl_str (pv 7) po_none (po_some (pe_un un_neg pe_int))) (pv 5) (nomark _))))))) (fun _ _ _ _ _ => (pv 7))) pa_nil)))
        (pss_one (ps_set (i := 4) nd rfl (Or.inl rfl) (pe_op op_mul (pv 4) (pe_callB call_len_seq (by rfl) gN PySem.boot_len (pa_cons (pe_call GLf hr1 (by rfl) gLf kLf bLf .nil pass0 (pa_cons (pe_ifExp (pt_cmpR op_eq (pv 5) pe_str (nomark _)) (pv 0) (pv 1)) (pa_cons (pe_cmpR (r := rIn K false) op_in_seq (pv 5) (pv 2) (by rfl)) (pa_cons (pe_callB (call_min2 rfl) (by rfl) gMn PyProof.Rows.boot_min (pa_cons pe_int (pa_cons (pv 6) pa_nil))) pa_nil)))) pa_nil)))))))
        (pss_one (ps_ret (pv 4))))), ?_⟩
    refine ⟨V.ref wa, rfl, "abc", wa, ws, rfl, .inl (.inl hw), hsh, hwl, fun H1 b bs s1 hb hnd hbs hbl => ⟨_, _, rfl, ?_⟩⟩
    have pm := sortW_perm "abc" bs
    have kk := fun H' s => kk H' bs (s1.trans s) hnd hbs
    have pl : (sortW "abc" bs).length ≤ 25 := by rw [pm.length_eq]; exact hbl
    have hsz : ∀ y ∈ sortW "abc" bs, y.cps.size ≤ 200 := fun y hy => (beg_over (fun z hz => (hsh z hz).1) ((hbs y).mp (pm.mem_iff.mp hy))).1
    generalize sortW "abc" bs = B at hb kk pl hsz
    have b2 : (5000 : Nat) < sizeLine := by decide
    have b200 : (200 : Nat) ≤ sizeLine := by decide
    have L1' := L1.mono s1
    have KL2' := KL2.mono s1
    have hw1 := s1 _ _ hw
    try dsimp only
    refine ⟨V.ref b, rfl, b, rfl, ⟨_, .inl (.inl hb)⟩, for_it (walk_list (K := K) (xs := B.map V.str)) (fun i σ G => ∃ (x5 x6 : Option V), σ = [some (.ref q1), some (.ref q2), some (.ref wa), some (.ref b), some (.int (((B.take i).foldl (fun m p => m * facP kr ko ws B p) 1 : Nat) : Int)), x5, x6, none] ∧ Same H1 G)
      ⟨none, none, rfl, Same.refl _⟩ (fun i σ G _ q => ?_) ?_ ?_⟩
    · obtain ⟨_, _, _, sG⟩ := q
      exact .inl (.inl (sG _ _ hb))
    · rintro i x σ G G' hi ⟨x5, x6, rfl, sG⟩ ⟨rfl, hx⟩
      obtain ⟨p, hp, rfl⟩ := map_at (enc := V.str) hx
      have hpm := List.mem_of_getElem? hp
      have hbG := sG _ _ hb
      refine ⟨V.ref b, rfl, b, rfl, ⟨_, .inl (.inl hbG)⟩, fun D nD => lcF_list (K := K) (ws := B) V.str nD V.str (fun r => decide (r ≠ Str.ofString "") && decide (initS r = p)) (.inl (.inl hbG)) (by omega) (fun j r G2 hr s2 A B' kA kB => ?_) fun G2 s2 hD => ?_⟩
      · have hrz := hsz r (List.mem_of_getElem? hr)
        refine ⟨rfl, V.str r, rfl, rfl, _, rfl, ?_⟩
        by_cases c : r = Str.ofString ""
        · rw [decide_eq_true (show V.str r = V.str (Str.ofString "") by rw [c])]
          refine iteF (kB ?_)
          show (decide (r ≠ Str.ofString "") && _) = false
          rw [decide_eq_false (fun z => z c)]
          rfl
        · rw [decide_eq_false (fun z : V.str r = V.str (Str.ofString "") => c (V.str.inj z))]
          refine iteT ⟨V.str r, rfl, _, rfl, -1, rfl, r, rfl, Nat.le_trans hrz b200, V.str p, rfl, rfl, _, rfl, ?_⟩
          rw [cut_init]
          have ec : decide (r ≠ Str.ofString "") = true := decide_eq_true c
          refine ite2 (fun c => ⟨V.str r, rfl, kA ?_⟩) (fun c => kB ?_)
          · show (decide (r ≠ Str.ofString "") && decide (initS r = p)) = true
            rw [ec, decide_eq_true (nm_eqS c)]
            rfl
          · show (decide (r ≠ Str.ofString "") && decide (initS r = p)) = false
            rw [ec, decide_eq_false (nm_neS c)]
            rfl
      · have s12 := sG.trans s2
        refine ⟨D, _, rfl, .inl (.inl (.inl hD)), ?_⟩
        rw [List.length_map]
        have ek : (B.filter fun r => decide (r ≠ Str.ofString "") && decide (initS r = p)).length = kidsN B p := rfl
        rw [ek]
        try dsimp only
        refine ⟨_, rfl, V.str p, rfl, rfl, _, rfl, ?_⟩
        have emin : (if ((kidsN B p : Nat) : Int) < 2 then ((kidsN B p : Nat) : Int) else 2) = ((min 2 (kidsN B p) : Nat) : Int) := by split <;> omega
        have snd : (B.take (i + 1)).foldl (fun m p => m * facP kr ko ws B p) 1 = (B.take i).foldl (fun m p => m * facP kr ko ws B p) 1 * facP kr ko ws B p := by
          rw [take_snoc hp, List.foldl_append]
          rfl
        have fl_le : ∀ (ks : List Kd) (m : Bool) (c : Int), (flS ks m c).length ≤ ks.length := fun ks m c => by
          unfold flS
          rw [List.length_map]
          exact List.length_filter_le _ _
        by_cases c : p = Str.ofString ""
        · rw [decide_eq_true (show V.str p = V.str (Str.ofString "") by rw [c])]
          refine iteT ⟨V.ref q1, rfl, V.str p, rfl, V.ref wa, rfl, wa, _, rfl, .inl (.inl (.inl (s12 _ _ hw1))), rfl, flat_strs _, ?_⟩
          rw [if_neg (by decide), inV_strs]
          refine ⟨V.int (kidsN B p : Nat), rfl, 2, (kidsN B p : Nat), rfl, q1, _, _, kr, rfl, L1'.mono s12, z1, fun G3 r3 s3 _ h3 => ⟨r3, _, rfl, .inl (.inl (.inl h3)), _, _, rfl, rfl, .inr ?_, ?_⟩⟩
          · rw [List.length_map]
            have := fl_le kr (decide (p ∈ ws)) (if ((kidsN B p : Nat) : Int) < 2 then ((kidsN B p : Nat) : Int) else 2)
            omega
          · refine ⟨some (.str p), some (.int (kidsN B p : Nat)), ?_, s12.trans s3⟩
            rw [List.length_map, emin, snd]
            have e : facP kr ko ws B p = (flS kr (decide (p ∈ ws)) ((min 2 (kidsN B p) : Nat) : Int)).length := by
              unfold facP
              rw [if_pos c]
            rw [e, Int.natCast_mul]
            rfl
        · rw [decide_eq_false (fun z : V.str p = V.str (Str.ofString "") => c (V.str.inj z))]
          refine iteF ⟨V.ref q2, rfl, V.str p, rfl, V.ref wa, rfl, wa, _, rfl, .inl (.inl (.inl (s12 _ _ hw1))), rfl, flat_strs _, ?_⟩
          rw [if_neg (by decide), inV_strs]
          refine ⟨V.int (kidsN B p : Nat), rfl, 2, (kidsN B p : Nat), rfl, q2, _, _, ko, rfl, KL2'.mono s12, z2, fun G3 r3 s3 _ h3 => ⟨r3, _, rfl, .inl (.inl (.inl h3)), _, _, rfl, rfl, .inr ?_, ?_⟩⟩
          · rw [List.length_map]
            have := fl_le ko (decide (p ∈ ws)) (if ((kidsN B p : Nat) : Int) < 2 then ((kidsN B p : Nat) : Int) else 2)
            omega
          · refine ⟨some (.str p), some (.int (kidsN B p : Nat)), ?_, s12.trans s3⟩
            rw [List.length_map, emin, snd]
            have e : facP kr ko ws B p = (flS ko (decide (p ∈ ws)) ((min 2 (kidsN B p) : Nat) : Int)).length := by
              unfold facP
              rw [if_neg c]
            rw [e, Int.natCast_mul]
            rfl
    · rintro σ G ⟨x5, x6, rfl, sG⟩
      rw [List.length_map, List.take_length]
      exact ⟨_, rfl, kk G sG⟩
end
end SK
namespace SK
open PySem PySem.Spec PyProof.Rows L2 LamX NdefX
open K0 (De DeAll XCl spX withX)
/-! ### exact rules, by the law's count -/
def prodL : List Nat → Nat
  | [] => 1
  | n :: l => n * prodL l
theorem foldl_mul {α : Type} (f : α → Nat) : ∀ (l : List α) (m : Nat), l.foldl (fun m p => m * f p) m = m * prodL (l.map f)
  | [], m => by simp [prodL]
  | a :: l, m => by
    rw [List.foldl_cons, foldl_mul f l, List.map_cons]
    show _ = m * (f a * prodL (l.map f))
    rw [Nat.mul_assoc]
theorem prodL_perm {l1 l2 : List Nat} (p : l1.Perm l2) : prodL l1 = prodL l2 := by
  induction p with
  | nil => rfl
  | cons x _ ih =>
    show x * prodL _ = x * prodL _
    rw [ih]
  | swap x y l =>
    show y * (x * prodL l) = x * (y * prodL l)
    rw [Nat.mul_left_comm]
  | trans _ _ i1 i2 => rw [i1, i2]
theorem cntL_perm {kr ko : List Kd} {ws P1 P2 : List Str} (p : P1.Perm P2) : cntL kr ko ws P1 = cntL kr ko ws P2 := by
  unfold cntL
  rw [foldl_mul, foldl_mul, Nat.one_mul, Nat.one_mul]
  have e : facP kr ko ws P1 = facP kr ko ws P2 := by
    funext q
    unfold facP kidsN
    rw [(p.filter _).length_eq]
  rw [e]
  exact prodL_perm (p.map _)
def begE (ws : List Str) : List Str := (begsOf 2 ws).eraseDups
theorem beg_facts : ∀ ws ∈ sets10, (begE ws).Nodup ∧ (∀ x ∈ begsOf 2 ws, x ∈ begE ws) ∧ (∀ y ∈ ws, y.cps.size ≤ 2) ∧ ws.length ≤ 6 ∧ ∀ y ∈ ws, ∀ c ∈ y.cps.toList, c ∈ ("abc" : Str).cps.toList := by decide +kernel
theorem beg_back : ∀ ws ∈ sets10, ∀ x ∈ begE ws, x = Str.ofString "" ∨ ∃ y ∈ ws, x.cps.toList <+: y.cps.toList := by decide +kernel
theorem begE_perm {ws bs : List Str} (hw : ws ∈ sets10) (nd : bs.Nodup) (hb : ∀ x, x ∈ bs ↔ isBeg ws x) : bs.Perm (begE ws) := by
  obtain ⟨h1, h2, h3, _, _⟩ := beg_facts ws hw
  exact (List.perm_ext_iff_of_nodup nd h1).mpr fun x => (hb x).trans ⟨fun h => h2 x (begs_mem h3 h), fun h => beg_back ws hw x h⟩
def cntV (kr ko : List Kd) (ws : List Str) : Nat := cntL kr ko ws (begE ws)
def sigE (ws : List Str) : List (Bool × Bool × Nat) := (begE ws).map fun p => (decide (p = Str.ofString ""), decide (p ∈ ws), min 2 (kidsN (begE ws) p))
def facQ (kr ko : List Kd) (q : Bool × Bool × Nat) : Nat := (flS (if q.1 = true then kr else ko) q.2.1 ((q.2.2 : Nat) : Int)).length
theorem cntV_sig (kr ko : List Kd) (ws : List Str) : cntV kr ko ws = prodL ((sigE ws).map (facQ kr ko)) := by
  unfold cntV cntL sigE
  rw [foldl_mul, Nat.one_mul, List.map_map]
  congr 1
  refine List.map_congr_left fun p _ => ?_
  show facP kr ko ws (begE ws) p = facQ kr ko (decide (p = Str.ofString ""), decide (p ∈ ws), min 2 (kidsN (begE ws) p))
  unfold facP facQ
  by_cases h : p = Str.ofString ""
  · rw [if_pos h, if_pos (decide_eq_true h)]
  · rw [if_neg h, if_neg (fun z => h (of_decide_eq_true z))]
theorem sig_all : sets10.map sigE = [[(true, false, 0)], [(true, true, 0)], [(true, false, 1), (false, true, 0)], [(true, true, 1), (false, true, 0)], [(true, false, 2), (false, true, 0), (false, true, 0)], [(true, true, 2), (false, true, 0), (false, true, 0)],
  [(true, false, 1), (false, false, 1), (false, true, 0)], [(true, false, 1), (false, true, 1), (false, true, 0)], [(true, false, 1), (false, false, 2), (false, true, 0), (false, true, 0)], [(true, false, 1), (false, true, 2), (false, true, 0), (false, true, 0)]] := by decide +kernel
def dueE (kr ko : List Kd) : Bool := (sets10.all fun ws => decide (cntV kr ko ws = 1)) && ((flS ko false 0).isEmpty && decide (flS kr false 0 = [false]))
theorem all_sig (kr ko : List Kd) : (sets10.all fun ws => decide (cntV kr ko ws = 1)) = ((sets10.map sigE).all fun q => decide (prodL (q.map (facQ kr ko)) = 1)) := by
  rw [List.all_map]
  congr 1
  funext ws
  show _ = decide (prodL ((sigE ws).map (facQ kr ko)) = 1)
  rw [cntV_sig]
theorem fl_bare (kr : List Kd) : flS kr false 0 = [false] ↔ ((flS kr false 0).length = 1 ∧ bareK ∈ kr) := by
  have mem : false ∈ flS kr false 0 ↔ bareK ∈ kr := by
    unfold flS
    rw [List.mem_map]
    constructor
    · rintro ⟨k, hk, e⟩
      obtain ⟨h1, h2⟩ := List.mem_filter.mp hk
      rw [Bool.and_eq_true, decide_eq_true_eq, decide_eq_true_eq] at h2
      obtain ⟨m, f, c⟩ := k
      obtain ⟨h2, h3⟩ := h2
      have h2 : m = false := h2
      have h3 : c = 0 := h3
      have e : f = false := e
      subst h2 h3 e
      exact h1
    · intro h
      exact ⟨bareK, List.mem_filter.mpr ⟨h, by decide⟩, rfl⟩
  constructor
  · intro h
    rw [h] at mem
    exact ⟨by rw [h]; rfl, mem.mp (by simp)⟩
  · rintro ⟨h1, h2⟩
    obtain ⟨x, hx⟩ := List.length_eq_one_iff.mp h1
    rw [hx] at mem ⊢
    have z := mem.mpr h2
    rw [List.mem_singleton.mp z]
theorem mul1 {m n : Nat} : m * n = 1 ↔ m = 1 ∧ n = 1 := by
  constructor
  · intro h
    have a : m ∣ 1 := ⟨n, h.symm⟩
    have b : n ∣ 1 := ⟨m, by rw [Nat.mul_comm]; exact h.symm⟩
    exact ⟨Nat.dvd_one.mp a, Nat.dvd_one.mp b⟩
  · rintro ⟨rfl, rfl⟩
    rfl
theorem map_strOf : ∀ ws : List Str, (ws.map PyData.str).map strOf = ws
  | [] => rfl
  | a :: l => by
    show a :: (l.map PyData.str).map strOf = _
    rw [map_strOf l]
theorem due_exact (kr ko : List Kd) : dueE kr ko = exactB kr ko := by
  have ie : (flS ko false 0).isEmpty = decide ((flS ko false 0).length = 0) := by cases flS ko false 0 <;> rfl
  rw [Bool.eq_iff_iff]
  unfold dueE exactB oneB
  rw [all_sig, sig_all, ie]
  simp only [List.all_cons, List.all_nil, List.map_cons, List.map_nil, prodL, facQ, if_true, if_false, Bool.false_eq_true, Bool.and_true, Bool.and_eq_true, decide_eq_true_eq, Nat.mul_one, mul1, fl_bare, Bool.true_or, Bool.false_or, Bool.not_true, Bool.or_eq_true, Bool.not_eq_true', decide_eq_false_iff_not]
  have c0 : ((0 : Nat) : Int) = 0 := rfl
  have c1 : ((1 : Nat) : Int) = 1 := rfl
  have c2 : ((2 : Nat) : Int) = 2 := rfl
  rw [c0, c1, c2]
  generalize (flS kr false 0).length = a0
  generalize (flS kr false 1).length = a1
  generalize (flS kr false 2).length = a2
  generalize (flS kr true 0).length = b0
  generalize (flS kr true 1).length = b1
  generalize (flS kr true 2).length = b2
  generalize (flS ko false 0).length = x0
  generalize (flS ko false 1).length = x1
  generalize (flS ko false 2).length = x2
  generalize (flS ko true 0).length = y0
  generalize (flS ko true 1).length = y1
  generalize (flS ko true 2).length = y2
  have d0 : ¬ (0 : Int) < 0 := by decide
  have d1 : (0 : Int) < 1 := by decide
  have d2 : (0 : Int) < 2 := by decide
  simp only [d0, d1, d2, not_true_eq_false, not_false_eq_true, false_or, true_or, and_true]
  clear ie
  constructor
  · intro h
    obtain ⟨h1, h2⟩ := h
    repeat' apply And.intro
    all_goals first | exact h2.1 | exact h2.2.1 | exact h2.2.2 | grind (splits := 30)
  · intro h
    grind (splits := 30)
theorem fl_perm {k1 k2 : List Kd} (p : k1.Perm k2) (m : Bool) (c : Int) : (flS k1 m c).length = (flS k2 m c).length := by
  unfold flS
  rw [List.length_map, List.length_map]
  exact (p.filter _).length_eq
theorem exact_perm {r1 r2 o1 o2 : List Kd} (p : r1.Perm r2) (q : o1.Perm o2) : exactB r1 o1 = exactB r2 o2 := by
  have ie : ∀ o : List Kd, (flS o false 0).isEmpty = decide ((flS o false 0).length = 0) := fun o => by cases flS o false 0 <;> rfl
  have e1 : oneB r1 o1 = oneB r2 o2 := by
    funext m c
    unfold oneB
    rw [fl_perm p, fl_perm q]
  unfold exactB
  rw [ie, ie, fl_perm q, e1, decide_eq_decide.mpr (p.mem_iff (a := bareK))]
theorem Al.set {K : PySem.W.Frag} {H0 H : Hp} {σ : St} {te : TE} {i : Nat} {u : TS} {D : Ends} {d : PyData} (h : Al K H0 σ te d) (s : Same H0 H) (k : ∀ H' v, Same H H' → De K H' v d → u D (σ.set i (some v)) H') : tSeq (tAsg te (gName i)) u D σ H := h H _ s k
def wsD (ws : List Str) : PyData := .list (ws.map PyData.str)
def spIe (K : PySem.W.Frag) : Sp := fun vs H Q _ => ∃ (q1 q2 : Addr) (kr ko : List Kd), vs = [.ref q1, .ref q2] ∧ LstK emp q1 kr H ∧ LstK emp q2 ko H ∧ kr.length ≤ 100 ∧ ko.length ≤ 100 ∧ ∀ H', Same H H' → Q (.bl (exactB kr ko)) H'
theorem fl_dp {K : PySem.W.Frag} {H : Hp} {a : Addr} {fl : List Bool} (h : H a = some (.lst (fl.map V.bl))) : Dp K H (.ref a) (.list (fl.map PyData.bool)) := by
  refine .lst (.inl (.inl h)) ?_
  clear h
  induction fl with
  | nil => exact .nil
  | cons b fl ih => exact .cons (.bl b) ih
theorem fl_lay : ∀ fl : List Bool, PyData.canLayAll0 (fl.map PyData.bool) = true ∧ PyData.depthAll (fl.map PyData.bool) ≤ 1
  | [] => ⟨by simp [PyData.canLayAll0], by simp [PyData.depthAll]⟩
  | b :: fl => by
    obtain ⟨h1, h2⟩ := fl_lay fl
    refine ⟨by simp only [List.map_cons, PyData.canLayAll0, PyData.canLay0, h1]; rfl, ?_⟩
    simp only [List.map_cons, PyData.depthAll, PyData.depth]
    omega
theorem fl_shaped (fl : List Bool) : SeqAt.shaped (.list (fl.map PyData.bool)) = true := by
  obtain ⟨h1, h2⟩ := fl_lay fl
  unfold SeqAt.shaped
  rw [Bool.and_eq_true, decide_eq_true_eq]
  refine ⟨by simp only [PyData.canLay0, h1], ?_⟩
  simp only [PyData.depth]
  omega
theorem fl_eqv : ∀ a b : List Bool, PyData.eqvAll (a.map PyData.bool) (b.map PyData.bool) = decide (a = b)
  | [], [] => by simp [PyData.eqvAll]
  | [], _ :: _ => by simp [PyData.eqvAll]
  | _ :: _, [] => by simp [PyData.eqvAll]
  | x :: xs, y :: ys => by
    simp only [List.map_cons, PyData.eqvAll, fl_eqv xs ys, PyData.eqv]
    cases x <;> cases y <;> by_cases h : xs = ys <;> simp [h]
theorem de_ws {K : PySem.W.Frag} {H : Hp} {v : V} {ws : List Str} (h : De K H v (wsD ws)) : ∃ a, v = .ref a ∧ H a = some (.lst (ws.map V.str)) := by
  have h : De K H v (.list (ws.map PyData.str)) := h
  cases h with
  | lst ha hd =>
    have z := de_strs (fun d hd => by obtain ⟨y, _, rfl⟩ := List.mem_map.mp hd; rfl) hd
    rw [map_strOf] at z
    rw [z] at ha
    exact ⟨_, rfl, ha⟩
section
variable {P : Program} {w : World} {K : PySem.W.Frag} {mg : Str → Option Value} {base : Heap} {f fLf fTr : Addr} {fd fdLf fdTr : FuncData}
abbrev NIe : List Str := ["root", "others", "sets", "words"]
theorem ok_ie (F : Fun K "_law_is_exact" "_law_is_exact" (top 54) f fd) (gAl : mg "all" = none)
    (gTr : mg "_law_trees_of" = some (.ref fTr)) (kTr : PySem.W.keepIn K (.ref fTr) = true) (GTr : FnOk P w K mg base CX0 3 fTr fdTr ["root", "others", "words"] (spTr K)) (bTr : Binds K fdTr ["root", "others", "words"] [])
    (gLf : mg "_law_flags" = some (.ref fLf)) (kLf : PySem.W.keepIn K (.ref fLf) = true) (GLf : FnOk P w K mg base CX0 1 fLf fdLf ["kinds", "mark", "children"] (spLf K)) (bLf : Binds K fdLf ["kinds", "mark", "children"] []) : FnOk P w K mg base CX0 4 f fd ["root", "others"] (spIe K) := by
  have S0 : FnScope NIe ["root", "others"] (defScope (top 54)) := ⟨rfl, rfl, rfl, by decide +kernel, rfl, by decide +kernel, by decide +kernel⟩
  have nd := S0.nd
  refine F.ok S0 (fun vs H Q E h => ?_) (fun cdv A outer s H vs Q E hr3 h => ?_)
  · obtain ⟨q1, q2, kr, ko, rfl, _⟩ := h
    rfl
  · obtain ⟨q1, q2, kr, ko, rfl, L1', KL2, z1, z2, kk⟩ := h
    have hr1 : Room 1 _ := hr3.mono (by decide)
    have hu64 := hr3.units
    have hu1 : _ < cLine := Nat.lt_of_le_of_lt (Nat.le_add_right _ 64) hr3.units
    refine ⟨_, (pss_cons (ps_set (i := 2) nd rfl (Or.inl rfl) (pe_lst (pa_cons (pe_lst pa_nil) (pa_cons (pe_lst (pa_cons pe_str pa_nil)) (pa_cons (pe_lst (pa_cons pe_str pa_nil)) (pa_cons (pe_lst (pa_cons pe_str (pa_cons pe_str pa_nil))) (pa_cons (pe_lst (pa_cons pe_str (pa_cons pe_str pa_nil))) (pa_cons (pe_lst (pa_cons pe_str (pa_cons pe_str (pa_cons pe_str pa_nil)))) (pa_cons (pe_lst (pa_cons pe_str pa_nil)) (pa_cons (pe_lst (pa_cons pe_str (pa_cons pe_str pa_nil))) (pa_cons (pe_lst (pa_cons pe_str (pa_cons pe_str pa_nil))) pa_nil)))))))))))
        (pss_cons (ps_if (pt_not (pt_val (pe_callB (r := rAll K) (cr_all rfl) (by rfl) gAl PyProof.Rows.boot_all (pa_cons (pe_lc (own := [("words", 3)]) (g := gName 3) (tt := tYes) (te := tOp rEq (tCall (spTr K) [] E0 (tCons (tVar 0) (tCons (tVar 1) (tCons (tVar 3) tNil)))) (tC (.int 1))) rfl nd (pi_list (pe_op op_cat (pv 2) (pe_lst (pa_cons (pe_lst (pa_cons pe_str (pa_cons pe_str (pa_cons pe_str pa_nil)))) pa_nil)))) (blkOk_by (N := NIe) (sc := defScope (top 54)) (by decide +kernel)) (fun _ _ _ _ _ => pg_name (i := 3) nd rfl (Or.inl rfl)) (fun _ _ _ _ _ => pts_nil) (fun _ _ _ _ _ => (pe_cmpR op_eq (pe_call GTr hr3 (by rfl) gTr kTr bTr .nil pass0 (pa_cons (pv 0) (pa_cons (pv 1) (pa_cons (pv 3) pa_nil)))) pe_int (nomark _)))) pa_nil)))) (pss_one (ps_ret pe_bl)) pss_nil)
        (pss_one (ps_ret (pe_and (pe_cmpR (op_eqE hu1) (pe_call GLf hr1 (by rfl) gLf kLf bLf .nil pass0 (pa_cons (pv 1) (pa_cons pe_bl (pa_cons pe_int pa_nil)))) (pe_lst pa_nil) (nomark _)) (pe_one (pe_cmpR (op_eqD hu64) (pe_call GLf hr1 (by rfl) gLf kLf bLf .nil pass0 (pa_cons (pv 0) (pa_cons pe_bl (pa_cons pe_int pa_nil)))) (pe_lst (pa_cons pe_bl pa_nil)) (nomark _)))))))), ?_⟩
    have kk : ∀ b, dueE kr ko = b → ∀ H', Same H H' → Q (.bl b) H' := fun b e H' s => by
      have z := kk H' s
      rw [← due_exact, e] at z
      exact z
    refine Al.set (K := K) (H0 := H) (d := .list ((sets10.take 9).map wsD)) (al_lst (al_cons (al_lst al_nil (by decide)) (al_cons (al_lst (al_cons al_str al_nil) (by decide)) (al_cons (al_lst (al_cons al_str al_nil) (by decide)) (al_cons (al_lst (al_cons al_str (al_cons al_str al_nil)) (by decide)) (al_cons (al_lst (al_cons al_str (al_cons al_str al_nil)) (by decide)) (al_cons (al_lst (al_cons al_str (al_cons al_str (al_cons al_str al_nil))) (by decide)) (al_cons (al_lst (al_cons al_str al_nil) (by decide)) (al_cons (al_lst (al_cons al_str (al_cons al_str al_nil)) (by decide)) (al_cons (al_lst (al_cons al_str (al_cons al_str al_nil)) (by decide)) al_nil))))))))) (by decide)) (Same.refl _) fun G0 v0 s0 hd0 => ?_
    refine al_cat (K := K) (H0 := G0) (ds := (sets10.take 9).map wsD) (es := [wsD ["a", "aa", "ab"]]) (al_var rfl hd0) (al_lst (al_cons (al_lst (al_cons al_str (al_cons al_str (al_cons al_str al_nil))) (by decide)) al_nil) (by decide)) (by decide) G0 _ (Same.refl _) fun G1 v1 s1 hd1 => ?_
    have ed : (sets10.take 9).map wsD ++ [wsD ["a", "aa", "ab"]] = sets10.map wsD := rfl
    rw [ed] at hd1
    cases hd1 with
    | @lst a xs _ ha hda =>
    have hxl : xs.length = sets10.length := by
      have z := deAll_len hda
      rwa [List.length_map] at z
    have e2 : (sets10.zip xs).map (fun p => p.2) = xs := List.map_snd_zip (by omega)
    have e1 : (sets10.zip xs).map (fun p => p.1) = sets10 := List.map_fst_zip (by omega)
    have s01 := s0.trans s1
    refine ⟨a, rfl, ⟨_, .inl (.inl ha)⟩, fun D nD => lcS_list (K := K) (ws := sets10.zip xs) (fun p => p.2) nD (fun p => V.bl (decide (cntV kr ko p.1 = 1))) (fun _ => true) (by rw [e2]; exact .inl (.inl ha)) (Nat.lt_of_le_of_lt (by rw [List.length_zip]; exact Nat.min_le_left _ _) (show sets10.length < sizeLine by decide)) (fun i p G hp sG A B kA kB => ?_) fun G sG hD => ?_⟩
    · obtain ⟨ws, v⟩ := p
      have hv : xs[i]? = some v := by
        have z := congrArg (·[i]?) e2
        simp only [List.getElem?_map, hp, Option.map_some] at z
        exact z.symm
      have hs : sets10[i]? = some ws := by
        have z := congrArg (·[i]?) e1
        simp only [List.getElem?_map, hp, Option.map_some] at z
        exact z.symm
      have hsm := List.mem_of_getElem? hs
      obtain ⟨d, hd, hde⟩ := deAll_at hda hv
      rw [List.getElem?_map, hs] at hd
      obtain rfl := Option.some.inj hd
      obtain ⟨wa, rfl, hwa⟩ := de_ws hde
      obtain ⟨_, _, b3, b4, b5⟩ := beg_facts ws hsm
      refine ⟨rfl, V.ref q1, rfl, V.ref q2, rfl, V.ref wa, rfl, q1, q2, wa, kr, ko, ws, rfl, (L1'.mono s01).mono sG, (KL2.mono s01).mono sG, z1, z2, sG _ _ hwa, fun y hy => ⟨⟨Nat.le_trans (b3 y hy) (by decide), b5 y hy⟩, Nat.le_trans (b3 y hy) (by decide)⟩, b4, fun G2 bs s2 hnd hbs => ⟨rfl, ?_⟩⟩
      have ec : cntL kr ko ws (sortW "abc" bs) = cntV kr ko ws := cntL_perm ((sortW_perm _ _).trans (begE_perm hsm hnd hbs))
      rw [ec]
      have ed : decide (V.int (cntV kr ko ws : Nat) = V.int 1) = decide (cntV kr ko ws = 1) := by
        rw [decide_eq_decide]
        exact ⟨fun z => by injection z with z; omega, fun z => by rw [z]; rfl⟩
      rw [ed]
      exact kA rfl G2 s2
    · rw [filt_true] at hD
      have eD : (sets10.zip xs).map (fun p => V.bl (decide (cntV kr ko p.1 = 1))) = (sets10.map fun ws => decide (cntV kr ko ws = 1)).map V.bl := by
        conv => rhs; rw [← e1, List.map_map, List.map_map]
        rfl
      rw [eD] at hD
      have s02 := s01.trans sG
      refine ⟨D, _, rfl, .inl (.inl hD), _, rfl, ?_⟩
      have eall : (sets10.map fun ws => decide (cntV kr ko ws = 1)).all id = sets10.all fun ws => decide (cntV kr ko ws = 1) := by
        rw [List.all_map]
        rfl
      rw [eall]
      cases c1 : (sets10.all fun ws => decide (cntV kr ko ws = 1)) with
      | false =>
        refine iteT (kk false ?_ G s02)
        unfold dueE
        rw [c1, Bool.false_and]
      | true =>
        refine iteF ⟨V.ref q2, rfl, q2, false, 0, ko, rfl, KL2.mono s02, z2, fun G2 r2 s2 _ h2 => ⟨Nat.zero_le _, fun u nu => ?_⟩⟩
        have s3 := upd_new (o := .lst []) nu
        have hu3 : upd G2 u (.lst []) u = some (.lst []) := upd_same
        have h2' := s3 _ _ h2
        generalize upd G2 u (.lst []) = G3 at s3 hu3 h2'
        have s03 := s02.trans (s2.trans s3)
        refine ⟨r2, u, _, rfl, rfl, .inl (.inl h2'), .inl (.inl hu3), _, rfl, ?_⟩
        have e0 : ((flS ko false 0).map V.bl).isEmpty = (flS ko false 0).isEmpty := by cases flS ko false 0 <;> rfl
        rw [e0]
        cases c2 : (flS ko false 0).isEmpty with
        | false =>
          refine iteF (kk false ?_ G3 s03)
          unfold dueE
          rw [c2, Bool.false_and, Bool.and_false]
        | true =>
          refine iteT ⟨V.ref q1, rfl, q1, false, 0, kr, rfl, L1'.mono s03, z1, fun G4 r4 s4 _ h4 => ⟨(by show 1 ≤ sizeLine; decide), fun u5 nu5 => ?_⟩⟩
          have s5 := upd_new (o := .lst [.bl false]) nu5
          have hu5 : upd G4 u5 (.lst [.bl false]) u5 = some (.lst ([false].map V.bl)) := upd_same
          have h4' := s5 _ _ h4
          generalize upd G4 u5 (.lst [.bl false]) = G5 at s5 hu5 h4'
          refine ⟨.list ((flS kr false 0).map PyData.bool), .list ([false].map PyData.bool), fl_dp h4', fl_dp hu5, fl_shaped _, fl_shaped _, ?_⟩
          refine kk _ ?_ G5 (s03.trans (s4.trans s5))
          unfold dueE
          rw [c1, c2, Bool.true_and, Bool.true_and]
          show _ = PyData.eqv (.list ((flS kr false 0).map PyData.bool)) (.list ([false].map PyData.bool))
          simp only [PyData.eqv]
          rw [fl_eqv]
end
end SK
namespace SK
open PySem PySem.Spec PyProof.Rows L2 LamX NdefX
open K0 (De DeAll XCl spX withX)
theorem FunT.okG {P : Program} {w : World} {K : PySem.W.Frag} {mg : Str → Option Value} {base : Heap} {x qual : Str} {st : Stmt} {f c : Addr} {fd : FuncData} {N ps : List Str} {k : Nat} {sp : Sp} (F : FunT K x qual st f fd c) (S : FnScope N ps (defScope st)) (len : ∀ vs H Q E, sp vs H Q E → vs.length = ps.length)
    (hbody : ∀ (A : Around) (outer : List Env) (s : Shared) (H : Hp) (vs : List V) (Q : VK) (E : XK), (A.deeper (envOfC qual (defScope st) s.heap.objs.size f (.ref c))).guards = some [] → Room k (A.deeper (envOfC qual (defScope st) s.heap.objs.size f (.ref c))) → sp vs H Q E →
      ∃ t, PSs (cxOf CX0 P w K mg base N qual (defScope st) f (.ref c) A outer s H E).nox (defBody st) t ∧ t { nx := fun _ H' => Q .non H', rt := Q } (start N vs) H) : FnG P w K mg base CX0 (k + 1) f fd ps sp := by
  obtain ⟨oc, od, kV, doc, pm, an, ct, osl, rfl, lk, hcd⟩ := F.ex
  refine ⟨len, fun A outer s H args us vs Q E hg hr e0 hb r hsp => run_ofS lk hcd S hr e0 hb r (len _ _ _ _ hsp) fun hr' => ?_⟩
  obtain ⟨t, h, q⟩ := hbody A outer s H vs Q E hg hr' hsp
  exact ⟨t, h.nox, q⟩
theorem FunT.bindsT {K : PySem.W.Frag} {x qual : Str} {st : Stmt} {f c : Addr} {fd : FuncData} {ps : List Str} (F : FunT K x qual st f fd c)
    (h : ∀ (kV doc pm : Value) (an : Option Addr) (cdv ct : Value) (us : List Value), us.length = ps.length → bindArgs (PySem.W.fnOf x qual (defArgs st) (defBody st) (defScope st) .none kV doc pm an cdv ct) ⟨us, []⟩ = pure (ps.zip us)) : Binds K fd ps [] := by
  obtain ⟨oc, od, kV, doc, pm, an, ct, osl, e, lk, hcd⟩ := F.ex
  exact Fun.binds (f := f) ⟨⟨oc, od, kV, doc, pm, an, .ref c, ct, osl, e, lk, hcd⟩, F.kp⟩ h
theorem Tabs.pen {T : List (Addr × Str)} {H H' : Hp} {p : Addr} {kvs : List (Key × V)} (t : Tabs T H) (hp : H p = some (.dK kvs)) (e : SameBut p H H') : Tabs T H' := fun q hq => by
  obtain ⟨ps, h1, h2, h3⟩ := t q hq
  refine ⟨ps, e _ _ (fun z => by rw [z, hp] at h1; cases h1) h1, h2, fun pos cv hc => ?_⟩
  obtain ⟨c, e1, e2⟩ := h3 pos cv hc
  refine ⟨c, e1, e _ _ (fun z => ?_) e2⟩
  rw [z, hp] at e2
  unfold CodeO at e2
  cases e2
/-- what is raised comes with as many slots as there are names -/
theorem takes_len {X : Cx} {W : WX} (tk : Takes X W) : Takes X (fun cls d σ H => σ.length = X.N.length → W cls d σ H) := fun e s x => by
  obtain ⟨a, B, sI, pins, σ', H', cls, d, e1, I, nb, up, sky, na, os, ag, w⟩ := x
  exact tk e s ⟨a, B, sI, pins, σ', H', cls, d, e1, I, nb, up, sky, na, os, ag, w I.len⟩
/-! ### how a call is met -/
structure Ex4 (P : Program) (w : World) (K : PySem.W.Frag) (mg : Str → Option Value) (base : Heap) (CX : Addr) (C : Cs) (CW tE : Addr) : Prop where
  gC : mg "NotExact" = some (.ref CX)
  ec : ExcC K CX
  dl : XR P w K mg base "BadLetters" C.l ["letters"]
  dw : XR P w K mg base "BadWord" CW ["number"]
  dm : XR P w K mg base "TooMany" C.m ["what", "many", "most"]
  gX : mg "TreesError" = some (.ref tE)
  xx : PySem.W.exmOne K (.ref CX) (.ref CX) = some true
  lx : PySem.W.exmOne K (.ref C.l) (.ref CX) = some false
  ll : PySem.W.exmOne K (.ref C.l) (.ref C.l) = some true
  wx : PySem.W.exmOne K (.ref CW) (.ref CX) = some false
  wl : PySem.W.exmOne K (.ref CW) (.ref C.l) = some false
  ww : PySem.W.exmOne K (.ref CW) (.ref CW) = some true
  mx : PySem.W.exmOne K (.ref C.m) (.ref CX) = some false
  ml : PySem.W.exmOne K (.ref C.m) (.ref C.l) = some false
  mw : PySem.W.exmOne K (.ref C.m) (.ref CW) = some false
  mm : PySem.W.exmOne K (.ref C.m) (.ref C.m) = some true
  kx : PySem.W.kitOne K (.ref CX) (.ref tE) = some true
def MetK (K : PySem.W.Frag) (CX : Addr) (C : Cs) (CW : Addr) (Q : VK) : XK := fun cls d H' =>
  (cls = .ref CX ∧ d = none ∧ ∀ p, H' p = none → Q (.ref p) (upd H' p (.tup [.str "not exact", .bl true]))) ∨
  (∃ (dx : Addr) (v : V) (dd : PyData), cls = .ref C.l ∧ d = some dx ∧ H' dx = some (.xd [("letters", v)]) ∧ De K H' v dd ∧ Small dd ∧ ∀ p, H' p = none → Q (.ref p) (upd H' p (.tup [.str "letters", .str dd.shown]))) ∨
  (∃ (dx : Addr) (i : Int), cls = .ref CW ∧ d = some dx ∧ H' dx = some (.xd [("number", .int i)]) ∧ ∀ p, H' p = none → Q (.ref p) (upd H' p (.tup [.str "word", .int i]))) ∨
  (∃ (dx : Addr) (n : Nat), cls = .ref C.m ∧ d = some dx ∧ H' dx = some (.xd [("most", .int 2000), ("many", .int n), ("what", .str "places")]) ∧ ∀ p, H' p = none → Q (.ref p) (upd H' p (.tup [.str "places", .int n, .int 2000])))
def TTmet (K : PySem.W.Frag) (CX : Addr) (C : Cs) (CW : Addr) : (XK → Hp → VK → Prop) → Hp → VK → Prop := fun tl H Q => tl (MetK K CX C CW Q) H (fun _ H' => ([] : List V).length ≤ sizeLine ∧ ∀ p, H' p = none → Q (.ref p) (upd H' p (.tup [])))
/-- isinstance(e, c), e the exception that the suite holds, without fields -/
def rIsN0 (K : PySem.W.Frag) (a : Addr) (cls : Value) (d : Option Addr) : List V → Hp → VK → Prop := fun xs H Q => ∃ D : Addr, cls = .ref D ∧ d = none ∧ ExcC K D ∧ rIsE K D a xs H Q
theorem call_isN0 {X : Cx} {a : Addr} {cls : Value} {d : Option Addr} {oe : Obj} {pn : List (Addr × Obj)} (hz : Zc cls d oe) (hf : ∃ vs, oe.data = .fields vs) : CallR (X.suite a ((a, oe) :: pn)) (.builtin "isinstance") (rIsN0 X.K a cls d) := by
  intro pins s σ H xs us Q I r h
  obtain ⟨D, rfl, rfl, C, h⟩ := h
  exact call_isE C hz hf pins s σ H xs us Q I r h
theorem scMet : FnScope ["call", "e"] ["call"] (defScope (top 50)) := ⟨rfl, rfl, rfl, by decide +kernel, rfl, by decide +kernel, by decide +kernel⟩
theorem met_gives {X : Cx} {g tE CX CW : Addr} {C : Cs} {cdg : Value} {q : Str} (X4 : Ex4 X.prog X.w X.K X.mg X.base CX C CW tE) (gR : X.mg "repr" = none) (gI : X.mg "isinstance" = none) (hsys : ∃ o, X.K.lookup sysModules = some o) (hg : X.A.guards = some []) (hr : Room 2 X.A) :
    GivesTo X ["call", "e"] "_law_met" (defScope (top 50)) g cdg (defBody (top 50)) "call" q (TTmet X.K CX C CW) := by
  intro f c' s H Q tl act hc h
  have hr2 : Room 1 (X.A.deeper (envOfC "_law_met" (defScope (top 50)) s.heap.objs.size g cdg)) := hr.deeper _
  have hu64 := hr2.units
  have hgd : (X.A.deeper (envOfC "_law_met" (defScope (top 50)) s.heap.objs.size g cdg)).guards = some [] := hg
  refine ⟨_, pss_cons (ps_try_asM (X := (cxOf C8.CX0 X.prog X.w X.K X.mg X.base ["call", "e"] "_law_met" (defScope (top 50)) g cdg X.A X.stack s H C8.E0).nox) (i := 1) (n := "e")
      (tb := fun W D σ H => ∃ Ech : XK, (∀ cls d σ' H', Ech cls d H' → σ'.length = 2 → W cls d σ' H') ∧ σ[0]? = some (some (.ref f)) ∧ H c' = some (CodeO c' q) ∧ tl Ech H fun _ H' => D.nx σ H')
      rfl rfl scMet.nd rfl rfl LamX.takes0 (fun W pn xe tk _ => ?_)
      (HdsAs.cons (c := .ref CX) ⟨rfl, by decide, .inl X4.gC⟩ (fun a oe cls d pn hz hf => pss_one (ps_ret (pe_tup (pa_cons pe_str
        (pa_cons (pe_callB (r := rIsN0 X.K a cls d) (call_isN0 hz hf) (by rfl) gI PyProof.Rows.boot_isinstance (pa_cons (pv 1) (pa_cons (pe_glob (v := V.ref tE) (by rfl) X4.gX rfl) pa_nil))) pa_nil)))))
      (HdsAs.cons (c := .ref C.l) ⟨rfl, by decide, .inl X4.dl.gC⟩ (fun a oe cls d pn hz hf => pss_one (ps_ret (pe_tup (pa_cons pe_str (pa_cons (pe_callB (r := rRepD X.K) (call_repD hgd hu64 hsys) (by rfl) gR PyProof.Rows.boot_repr (pa_cons (pe_xf (xf_of X4.dl.cl) (X4.dl.no _ (by simp)) hz hf (pv 1)) pa_nil)) pa_nil)))))
      (HdsAs.cons (c := .ref CW) ⟨rfl, by decide, .inl X4.dw.gC⟩ (fun a oe cls d pn hz hf => pss_one (ps_ret (pe_tup (pa_cons pe_str (pa_cons (pe_xf (xf_of X4.dw.cl) (X4.dw.no _ (by simp)) hz hf (pv 1)) pa_nil)))))
      (HdsAs.cons (c := .ref C.m) ⟨rfl, by decide, .inl X4.dm.gC⟩ (fun a oe cls d pn hz hf => pss_one (ps_ret (pe_tup (pa_cons (pe_xf (xf_of X4.dm.cl) (X4.dm.no _ (by simp)) hz hf (pv 1)) (pa_cons (pe_xf (xf_of X4.dm.cl) (X4.dm.no _ (by simp)) hz hf (pv 1)) (pa_cons (pe_xf (xf_of X4.dm.cl) (X4.dm.no _ (by simp)) hz hf (pv 1)) pa_nil)))))) HdsAs.nil)))))
    (pss_one (ps_ret (pe_tup pa_nil))), ?_⟩
  · refine ⟨fun pins s' σ H' D I h' => ?_⟩
    obtain ⟨Ech, hW, h1, h2, h3⟩ := h'
    exact (pss_one (ps_expr (act _ pn xe Ech _ _ (takes_len tk) hW))).run pins s' σ H' D I ⟨h1, h2, h3⟩
  · refine ⟨_, ?_, rfl, hc, h⟩
    intro cls d σ' H' hM hl
    have at1 : ∀ z : Addr, (List.set σ' 1 (some (V.ref z)))[1]? = some (some (V.ref z)) := fun z => by
      rw [List.getElem?_set_self]
      omega
    have b3 : (1000 : Nat) ≤ sizeLine := by decide
    rcases hM with ⟨rfl, rfl, kk⟩ | ⟨dx, v, dd, rfl, rfl, hdx, hd, hs, kk⟩ | ⟨dx, i, rfl, rfl, hdx, kk⟩ | ⟨dx, n, rfl, rfl, hdx, kk⟩
    · refine ⟨true, X4.xx, fun _ q nq => ?_, fun z => nomatch z⟩
      exact ⟨V.ref q, at1 q, CX, rfl, rfl, X4.ec, .ref tE, .ref tE, true, rfl, fun u z => z, X4.kx, (by show 2 ≤ sizeLine; omega), kk⟩
    · refine ⟨false, X4.lx, (fun z => nomatch z), fun _ => ⟨true, X4.ll, fun _ q nq => ?_, fun z => nomatch z⟩⟩
      exact ⟨V.ref q, at1 q, rfl, rfl, dx, _, v, rfl, hdx, by simp [List.lookup], v, dd, rfl, hd, hs.sh, hs.dp, Nat.le_trans hs.ln (by decide), (by show 2 ≤ sizeLine; omega), kk⟩
    · refine ⟨false, X4.wx, (fun z => nomatch z), fun _ => ⟨false, X4.wl, (fun z => nomatch z), fun _ => ⟨true, X4.ww, fun _ q nq => ?_, fun z => nomatch z⟩⟩⟩
      exact ⟨V.ref q, at1 q, rfl, rfl, dx, _, .int i, rfl, hdx, by simp [List.lookup], (by show 2 ≤ sizeLine; omega), kk⟩
    · refine ⟨false, X4.mx, (fun z => nomatch z), fun _ => ⟨false, X4.ml, (fun z => nomatch z), fun _ => ⟨false, X4.mw, (fun z => nomatch z), fun _ => ⟨true, X4.mm, fun _ q nq => ?_, fun z => nomatch z⟩⟩⟩⟩
      exact ⟨V.ref q, at1 q, rfl, rfl, dx, _, .str "places", rfl, hdx, lk3 2, V.ref q, at1 q, rfl, rfl, dx, _, .int n, rfl, hdx, lk3 1, V.ref q, at1 q, rfl, rfl, dx, _, .int 2000, rfl, hdx, lk3 0, (by show 3 ≤ sizeLine; omega), kk⟩
end SK
namespace SK
open PySem PySem.Spec PyProof.Rows L2 LamX NdefX
open K0 (De DeAll XCl spX withX)
/-! ### the tree that an exact rule gives -/
def KL (H : Hp) (q : Addr) (ks : List Kd) : Prop := ∃ ps : PK, H q = some (.lst (rfs ps)) ∧ KsAt H ps ∧ kds ps = ks
theorem KL.kx {H H' : Hp} {q : Addr} {ks : List Kd} (h : KL H q ks) (m : Kx H H') : KL H' q ks := by
  obtain ⟨ps, h1, h2, h3⟩ := h
  exact ⟨ps, m _ _ h1 (fun _ z => nomatch z) (fun _ _ _ z => nomatch z), fun p hp => m _ _ (h2 p hp) (fun _ z => nomatch z) (fun _ _ _ z => nomatch z), h3⟩
theorem LstK.kl {H1 G : Hp} {D : Addr} {ks : List Kd} (h : LstK H1 D ks G) : KL G D ks := by
  obtain ⟨ps, h1, h2, h3, h4⟩ := h
  exact ⟨ps, h1, h2, h3⟩
theorem RL.kl {H : Hp} {q : Addr} {ps : PK} (h : RL H q ps) : KL H q (kds ps) := ⟨ps, h.at_, h.ks, rfl⟩
theorem bl_small (b : Bool) : (PyData.bool b).showable = true ∧ (PyData.bool b).depth ≤ 8 ∧ (PyData.bool b).shown.length ≤ sizeLine := by
  have z : (PyData.bool b).shown.length ≤ 10 := by cases b <;> decide +kernel
  exact ⟨by cases b <;> rfl, by cases b <;> decide, Nat.le_trans z (by decide)⟩

theorem strs_shapedL {ws : List Str} (h : ∀ y ∈ ws, PyData.strOk y = true) : SeqAt.shaped (.list (ws.map PyData.str)) = true := by
  obtain ⟨h1, h2⟩ := strs_lay h
  unfold SeqAt.shaped
  rw [Bool.and_eq_true, decide_eq_true_eq]
  refine ⟨by simp only [PyData.canLay0, h1], ?_⟩
  simp only [PyData.depth]
  omega
theorem kdS_ex {kr ko : List Kd} {S : List Spot} {s : Spot} : kdS (exS kr ko S) (s.1, s.2.1, fgS kr ko S s) = (s.2.1, fgS kr ko S s, (kdS S s).2.2) := by
  unfold kdS
  rw [exS_plc]
theorem flS_mem {ks : List Kd} {m f : Bool} {c : Int} (h : f ∈ flS ks m c) : (m, f, c) ∈ ks := by
  unfold flS at h
  obtain ⟨k, hk, rfl⟩ := List.mem_map.mp h
  obtain ⟨h1, h2⟩ := List.mem_filter.mp hk
  rw [Bool.and_eq_true, decide_eq_true_eq, decide_eq_true_eq] at h2
  obtain ⟨rfl, rfl⟩ := h2
  exact h1
theorem ex_in {kr ko : List Kd} {ls : Str} {bs ws : List Str} (hE : exactB kr ko = true) (hb : ∀ x, x ∈ bs ↔ isBeg ws x) {s : Spot} (hs : s ∈ exS kr ko (ofS ls bs ws)) : kdS (exS kr ko (ofS ls bs ws)) s ∈ (if s.1 = Str.ofString "" then kr else ko) := by
  obtain ⟨s0, h0, rfl⟩ := List.mem_map.mp hs
  obtain ⟨f, h1, h2⟩ := of_flag hE hb h0
  rw [kdS_ex]
  refine flS_mem ?_
  show fgS kr ko (ofS ls bs ws) s0 ∈ flS (if s0.1 = Str.ofString "" then kr else ko) s0.2.1 _
  rw [h1, h2]
  simp
theorem ex_brk {kr ko : List Kd} {ls : Str} {bs ws : List Str} (hE : exactB kr ko = true) (hb : ∀ x, x ∈ bs ↔ isBeg ws x) : brk kr ko (exS kr ko (ofS ls bs ws)) = none := by
  unfold brk
  rw [List.find?_eq_none.mpr fun s hs => ?_]
  · rfl
  · unfold brkB
    rw [decide_eq_true (ex_in hE hb hs)]
    simp
theorem ex_mark {kr ko : List Kd} {ls : Str} {bs ws : List Str} {s : Spot} (hs : s ∈ exS kr ko (ofS ls bs ws)) : s.2.1 = decide (s.1 ∈ ws) := by
  obtain ⟨s0, h0, rfl⟩ := List.mem_map.mp hs
  obtain ⟨p, hp, rfl⟩ := List.mem_map.mp h0
  rfl
abbrev NIt : List Str := ["tree", "rule", "root", "others", "letters", "words", "places", "row", "rows"]
def spIt (K : PySem.W.Frag) (CT CR : Addr) : Sp := fun vs H Q _ => ∃ (t x : V) (q1 q2 b : Addr) (kr ko ks1 ks2 : List Kd) (ls : Str) (bs ws : List Str), vs = [t, x, .ref q1, .ref q2, .str ls, .ref b] ∧ RuleF K CR H x kr ko ∧ exactB kr ko = true ∧ KL H q1 ks1 ∧ KL H q2 ks2 ∧
  (∀ k, k ∈ ks1 ↔ k ∈ kr) ∧ (∀ k, k ∈ ks2 ↔ k ∈ ko) ∧ H b = some (.lst (ws.map V.str)) ∧ (∀ y ∈ ws, Short ls y) ∧ ws.length ≤ 6 ∧ bs.Nodup ∧ (∀ y, y ∈ bs ↔ isBeg ws y) ∧ OkL ls ∧ GoodS ls (exS kr ko (ofS ls bs ws)) ∧ TreeF K CT H t ls (exS kr ko (ofS ls bs ws)) ∧
  ∀ H', Same H H' → Q (.bl true) H'
section
variable {P : Program} {w : World} {K : PySem.W.Frag} {mg : Str → Option Value} {base : Heap} {f fBg fKl fKe CT CR : Addr} {fd fdBg fdKl fdKe : FuncData}
theorem ok_it (F : Fun K "_law_is_tree" "_law_is_tree" (top 55) f fd) (gRp : mg "repr" = none) (gLs : mg "list" = none) (hsys : ∃ o, K.lookup sysModules = some o) (RT : TreeK K CT) (RR : RuleK K CR)
    (gBg : mg "_law_beginnings" = some (.ref fBg)) (kBg : PySem.W.keepIn K (.ref fBg) = true) (GBg : FnOk P w K mg base CX0 2 fBg fdBg ["letters", "words"] (spBegX K)) (bBg : Binds K fdBg ["letters", "words"] [])
    (gKl : mg "_law_kind" = some (.ref fKl)) (kKl : PySem.W.keepIn K (.ref fKl) = true) (GKl : FnOk P w K mg base CX0 1 fKl fdKl ["rows", "place"] (spKindL K)) (bKl : Binds K fdKl ["rows", "place"] [])
    (MKe : Meth K CR "keeps" fKe) (GKe : FnOk P w K mg base (L2.CX P w) 6 fKe fdKe ["self", "tree"] (spKeeps K CT CR)) (bKe : Binds K fdKe ["self", "tree"] []) :
    FnG P w K mg base CX0 7 f fd ["tree", "rule", "root", "others", "letters", "words"] (spIt K CT CR) := by
  have S0 : FnScope NIt ["tree", "rule", "root", "others", "letters", "words"] (defScope (top 55)) := ⟨rfl, rfl, rfl, by decide +kernel, rfl, by decide +kernel, by decide +kernel⟩
  have nd := S0.nd
  refine FnG.ok F S0 (fun vs H Q E h => ?_) (fun cdv A outer s H vs Q E hg hr h => ?_)
  · obtain ⟨t, x, q1, q2, b, kr, ko, ks1, ks2, ls, bs, ws, rfl, _⟩ := h
    rfl
  · obtain ⟨t, x, q1, q2, b, kr, ko, ks1, ks2, ls, bs, ws, rfl, hR, hE, KL1, KL2, hk1, hk2, hb, hSh, hwl, ndb, hbs, hL, g, hT, kk⟩ := h
    have hu64 := hr.units
    have hr1 : Room 1 _ := hr.mono (by decide)
    have hr2 : Room 2 _ := hr.mono (by decide)
    have ps0 : Passes (L2.CX P w) (cxOf CX0 P w K mg base NIt "_law_is_tree" (defScope (top 55)) f cdv A outer s H E).nox (fun _ _ _ => False) := passes_call LamX.takes0 (fun _ _ _ _ h => h)
    refine ⟨_, (pss_cons (ps_set (i := 6) nd rfl (Or.inl rfl) (pe_call GBg hr2 (by rfl) gBg kBg bBg .nil pass0 (pa_cons (pv 4) (pa_cons (pv 5) pa_nil))))
        (pss_cons (ps_if (PW.pt (pw_or (pt_cmpR op_ne (pe_fld (pv 0) rfl) (pv 4) (nomark _)) (pw_or1 (pt_cmpR (r := rNeD K) (op_neD hu64) (pe_lc (own := [("row", 7)]) (g := gName 7) (tt := tYes) rfl nd (pi_tup (pe_fld (pv 0) rfl)) (blkOk_by (N := NIt) (sc := defScope (top 55)) (by decide +kernel)) (fun _ _ _ _ _ => pg_name (i := 7) nd rfl (Or.inl rfl)) (fun _ _ _ _ _ => pts_nil) (fun _ _ _ _ _ => (pe_ix (r := rIxT K) ix_tup (pv 7) pe_int (fun _ _ => rfl)))) (pv 6) (nomark _))))) (pss_one (ps_ret pe_bl)) pss_nil)
        (pss_cons (ps_set (i := 8) nd rfl (Or.inl rfl) (pe_callTy call_list_of (by rfl) gLs PyProof.Rows.boot_list (pa_cons (pe_fld (pv 0) rfl) pa_nil)))
        (pss_cons (ps_for PassesOwn.never rfl (pi_list (pv 8)) (pg_name (i := 7) nd rfl (Or.inl rfl)) (pss_cons (ps_if (pt_cmpR op_ne (pe_callB (r := rRepD K) (call_repD hg hu64 hsys) (by rfl) gRp PyProof.Rows.boot_repr (pa_cons (pe_ix (r := rIxT K) ix_tup (pv 7) pe_int (fun _ _ => rfl)) pa_nil)) (pe_callB (r := rRepD K) (call_repD hg hu64 hsys) (by rfl) gRp PyProof.Rows.boot_repr (pa_cons (pe_cmpR (r := rIn K false) op_in_seq (pe_ix (r := rIxT K) ix_tup (pv 7) pe_int (fun _ _ => rfl)) (pv 5) (by rfl)) pa_nil)) (nomark _)) (pss_one (ps_ret pe_bl)) pss_nil)
        (pss_one (ps_if (pt_cmpR (r := rInD K true) (op_notInD hu64) (pe_call GKl hr1 (by rfl) gKl kKl bKl .nil pass0 (pa_cons (pv 8) (pa_cons (pe_ix (r := rIxT K) ix_tup (pv 7) pe_int (fun _ _ => rfl)) pa_nil))) (pe_ifExp (pt_cmpR op_eq (pe_ix (r := rIxT K) ix_tup (pv 7) pe_int (fun _ _ => rfl)) pe_str (nomark _)) (pv 2) (pv 3)) (by rfl)) (pss_one (ps_ret pe_bl)) pss_nil))))
        (pss_one (ps_ret (pe_meth (pv 1) RR.cl MKe GKe hr bKe .nil ps0 (pa_cons (pv 0) pa_nil)))))))), ?_⟩
    have ho : ∀ y ∈ ws, OverL ls y := fun y hy => (hSh y hy).1
    refine ⟨V.str ls, rfl, V.ref b, rfl, ls, b, ws, rfl, .inl (.inl hb), hSh, hwl, fun G1 b1 bs2 s1 hb1 nd2 hbs2 hl2 => ?_⟩
    have eS : ofS ls bs ws = ofS ls bs2 ws := ofS_congr ndb nd2 hbs hbs2 ho
    have ePl : plc (exS kr ko (ofS ls bs ws)) = sortW ls bs2 := by
      rw [exS_plc, eS]
      exact plc_mk ws _
    have hin : ∀ s ∈ exS kr ko (ofS ls bs ws), kdS (exS kr ko (ofS ls bs ws)) s ∈ (if s.1 = Str.ofString "" then kr else ko) := fun s hs => ex_in hE hbs hs
    have hmk : ∀ s ∈ exS kr ko (ofS ls bs ws), s.2.1 = decide (s.1 ∈ ws) := fun s hs => ex_mark hs
    have hbr := ex_brk (ls := ls) (bs := bs) hE hbs
    generalize exS kr ko (ofS ls bs ws) = S at g hT ePl hin hmk hbr
    have hok : ∀ s ∈ S, PyData.strOk s.1 = true := fun s hs => strs_ok hL (g.ov _ (List.mem_map.mpr ⟨s, hs, rfl⟩))
    have hz := g.n
    have b2 : (5000 : Nat) < sizeLine := by decide
    have hT0 := hT
    obtain ⟨ta, dx, B, Tb, l, fs, kvs, kv2, rs, m, rfl, TP⟩ := hT
    have na : ∀ q ∈ six6, NoAttr K CT q := RT.na
    have hda := TP.r2
    have hxl : rs.length = S.length := by
      have z := deAll_len hda
      rwa [List.length_map] at z
    obtain ⟨e2, e1⟩ := zip_two hxl
    refine ⟨V.ref ta, rfl, ta, CT, dx, _, _, rfl, s1 _ _ TP.ins, RT.cl, na _ (by simp [six6]), TP.f4, V.str ls, rfl, rfl, _, rfl, neT rfl ?_⟩
    have szS : ∀ y ∈ plc S, y.cps.size ≤ 200 := fun y hy => (g.ov y hy).1
    refine ⟨V.ref ta, rfl, ta, CT, dx, _, _, rfl, s1 _ _ TP.ins, RT.cl, na _ (by simp [six6]), TP.f3, l, rfl, ⟨_, .inl (.inl (s1 _ _ TP.r1))⟩, fun D nD => lcF_tup (K := K) (ws := S.zip rs) (fun p => p.2) nD (fun p => V.str p.1.1) (fun _ => true) (by rw [e2]; exact .inl (.inl (s1 _ _ TP.r1))) (by rw [List.length_zip]; omega) (fun i p G hp sG A B kA kB => ?_) fun G2 s2 hD => ?_⟩
    · obtain ⟨s0, v⟩ := p
      obtain ⟨_, _, t, et, ht⟩ := zip_at hda hp
      have et : v = .ref t := et
      subst et
      exact ⟨rfl, V.ref t, rfl, t, _, 0, .str s0.1, rfl, rfl, .inl (.inl (sG _ _ (s1 _ _ ht))), rfl, kA rfl⟩
    have eD : ((S.zip rs).filter (fun _ => true)).map (fun p => V.str p.1.1) = (sortW ls bs2).map V.str := by
      rw [List.filter_eq_self.mpr fun _ _ => rfl, ← ePl]
      unfold plc
      rw [← e1, List.map_map, List.map_map, e1]
      rfl
    rw [eD] at hD
    have s12 := s1.trans s2
    have shk : SeqAt.shaped (.list ((sortW ls bs2).map PyData.str)) = true := strs_shapedL fun y hy => by
      rw [← ePl] at hy
      obtain ⟨s', hs', rfl⟩ := List.mem_map.mp hy
      exact hok s' hs'
    refine ⟨V.ref b1, rfl, _, _, .lst (.inl (.inl hD)) (dp_strs _), .lst (.inl (.inl (s2 _ _ hb1))) (dp_strs _), shk, shk, _, rfl, fls (eqv_self shk) ?_⟩
    refine ⟨V.ref ta, rfl, ta, CT, dx, _, _, rfl, s12 _ _ TP.ins, RT.cl, na _ (by simp [six6]), TP.f3, l, rs, rfl, .inr (.inl (.inl (s12 _ _ TP.r1))), fun r nr => ?_⟩
    have s3 := s12.trans (upd_new (o := .lst rs) nr)
    have hr3 : upd G2 r (.lst rs) r = some (.lst rs) := upd_same
    generalize upd G2 r (.lst rs) = G3 at s3 hr3
    have hda3 := de_monoAll s3 _ _ hda
    refine ⟨V.ref r, rfl, r, rfl, ⟨_, .inl (.inl hr3)⟩, for_it (walk_list (K := K) (xs := rs)) (fun i σ G => ∃ (x7 : Option V), σ = [some (.ref ta), some x, some (.ref q1), some (.ref q2), some (.str ls), some (.ref b), some (.ref b1), x7, some (.ref r)] ∧ Same G3 G)
      ⟨none, rfl, Same.refl _⟩ (fun i σ G _ q => ?_) ?_ ?_⟩
    · obtain ⟨_, _, sG⟩ := q
      exact .inl (.inl (sG _ _ hr3))
    · rintro i v σ G G' hi ⟨x7, rfl, sG⟩ ⟨rfl, hv⟩
      obtain ⟨s0, hs0⟩ : ∃ s0, S[i]? = some s0 := ⟨_, List.getElem?_eq_getElem (by omega)⟩
      have hm0 : s0 ∈ S := List.mem_of_getElem? hs0
      obtain ⟨d, hd, hde⟩ := deAll_at hda3 hv
      rw [List.getElem?_map, hs0] at hd
      obtain rfl := Option.some.inj hd
      obtain ⟨t, rfl, ht⟩ := de_row (s := s0) hde
      have ht := sG _ _ ht
      have s4 := s3.trans sG
      obtain ⟨y1, y2, y3⟩ := bl_small s0.2.1
      refine ⟨V.ref t, rfl, t, _, 1, .bl s0.2.1, rfl, rfl, .inl (.inl ht), rfl, .bl s0.2.1, .bool s0.2.1, rfl, .bl _, y1, y2, y3, V.ref t, rfl, t, _, 0, .str s0.1, rfl, rfl, .inl (.inl ht), rfl, V.ref b, rfl, b, ws.map V.str, rfl, .inl (.inl (.inl (s4 _ _ hb))), rfl, flat_strs ws, ?_⟩
      rw [inV_strs, if_neg Bool.false_ne_true]
      rw [← hmk s0 hm0]
      refine ⟨.bl s0.2.1, .bool s0.2.1, rfl, .bl _, y1, y2, y3, rfl, _, rfl, neT rfl ?_⟩
      refine ⟨V.ref r, rfl, V.ref t, rfl, t, _, 0, .str s0.1, rfl, rfl, .inl (.inl ht), rfl, r, rs, S, s0, rfl, sG _ _ hr3, de_monoAll s4 _ _ hda, g.nd, hm0, hz, szS, fun G5 r5 s5 hr5 => ?_⟩
      have s45 := s4.trans s5
      have inK : ∀ (q : Addr) (ks kx : List Kd), KL G5 q ks → (∀ k, k ∈ ks ↔ k ∈ kx) → (if s0.1 = Str.ofString "" then kr else ko) = kx → ∃ (p : Addr) (xs : List V) (ds : List PyData) (d : PyData), V.ref q = .ref p ∧ (SqL K G5 p xs ∨ SqT K G5 p xs) ∧ DpAll K G5 xs ds ∧ Dp K G5 (V.ref r5) d ∧ d.canLay0 = true ∧ PyData.canLayAll0 ds = true ∧ d.depth ≤ 32 ∧ (if true = true then !(ds.any fun e => PyData.eqv e d) else ds.any fun e => PyData.eqv e d) = false := fun q ks kx hK hm he => by
        obtain ⟨ps, z1, z2, z3⟩ := hK
        refine ⟨q, rfs ps, ks.map kdD, kdD (kdS S s0), rfl, .inl (.inl (.inl z1)), by rw [← z3]; exact z2.dp, hr5.dp, (kd_lay _).1, kds_lay _, Nat.le_trans (kd_lay _).2 (by decide), ?_⟩
        rw [if_pos rfl, kds_any, decide_eq_true ((hm _).mpr (he ▸ hin s0 hm0))]
        rfl
      refine ⟨V.ref t, rfl, t, _, 0, .str s0.1, rfl, rfl, .inl (.inl (s5 _ _ ht)), rfl, rfl, _, rfl, ?_⟩
      by_cases c : s0.1 = Str.ofString ""
      · rw [decide_eq_true (show V.str s0.1 = V.str (Str.ofString "") by rw [c])]
        obtain ⟨z1, z2, z3, z4, z5, z6, z7, z8, z9, z10, z11, z12⟩ := inK q1 ks1 kr (KL1.kx (Kx.of s45)) hk1 (if_pos c)
        refine iteT ⟨V.ref q1, rfl, z1, z2, z3, z4, z5, z6, z7, z8, z9, z10, z11, _, rfl, ?_⟩
        rw [z12]
        exact iteF ⟨_, rfl, sG.trans s5⟩
      · rw [decide_eq_false (fun z : V.str s0.1 = V.str (Str.ofString "") => c (V.str.inj z))]
        obtain ⟨z1, z2, z3, z4, z5, z6, z7, z8, z9, z10, z11, z12⟩ := inK q2 ks2 ko (KL2.kx (Kx.of s45)) hk2 (if_neg c)
        refine iteF ⟨V.ref q2, rfl, z1, z2, z3, z4, z5, z6, z7, z8, z9, z10, z11, _, rfl, ?_⟩
        rw [z12]
        exact iteF ⟨_, rfl, sG.trans s5⟩
    · rintro σ G ⟨x7, rfl, sG⟩
      have s4 := s3.trans sG
      have hRG := hR.kx (Kx.of s4)
      have hTG := hT0.kx g.root (Kx.of s4)
      obtain ⟨ra, rdx, rfs', r1, r2, rfl, hra, RP⟩ := id hRG
      refine ⟨V.ref ra, rfl, ra, rdx, rfs', rfl, hra, RP.no _ (by decide) (by decide), V.ref ta, rfl, .ref ra, .ref ta, kr, ko, ls, S, rfl, hRG, hTG, g, fun G6 s6 => ?_⟩
      rw [hbr]
      exact kk _ (s4.trans s6)
end
end SK
namespace SK
open PySem PySem.Spec PyProof.Rows L2 LamX NdefX ClX
open K0 (De DeAll XCl spX withX)
/-! ### trees of exact rules that are refused, or made -/
def mulQ (ls : Str) : Str := Txt.mul (cutS ls none (some 1)) 201
theorem six_mul : ∀ x ∈ six, okW x (.str (mulQ x)) = false ∧ (mulQ x).cps.size ≤ 1000 ∧ (cutS x none (some 1)).length ≤ 16 ∧ x.length ≤ 100 := by decide +kernel

theorem six_A : ∀ x ∈ six, okW x (.str "A") = false ∧ okW x (.str "a b") = false := by decide +kernel
def wrong5 : List PyData := [.none, .str "a", .str "aa", .str "aB", .list [.str "a", .str "b"]]
theorem wrong_facts : ∀ d ∈ wrong5, okLd d = false ∧ Small d ∧ PyData.strOk d.shown = true ∧ ∀ z, d = .str z → z.cps.all (· < 128) = true ∧ z.cps.size ≤ 1000 := by
  intro d hd
  simp only [wrong5, List.mem_cons, List.mem_nil_iff, or_false] at hd
  rcases hd with rfl | rfl | rfl | rfl | rfl
  all_goals refine ⟨by decide +kernel, ⟨by decide +kernel, by decide +kernel, by decide +kernel⟩, by decide +kernel, fun z e => ?_⟩
  all_goals first | (injection e with e; subst e; exact ⟨by decide +kernel, by decide +kernel⟩) | cases e
def twoD (x : Str) (d : PyData) : PyData := .tuple [.str x, d]
theorem let_shaped {d : PyData} (h : PyData.strOk d.shown = true) : SeqAt.shaped (twoD "letters" (.str d.shown)) = true := by
  have e : PyData.strOk (Str.ofString "letters") = true := by decide +kernel
  unfold SeqAt.shaped twoD
  rw [Bool.and_eq_true, decide_eq_true_eq]
  exact ⟨by simp [PyData.canLay0, PyData.canLayAll0, e, h], by simp [PyData.depth, PyData.depthAll]⟩
theorem word_shaped {n : Nat} : SeqAt.shaped (twoD "word" (.int n)) = true := by
  have e : PyData.strOk (Str.ofString "word") = true := by decide +kernel
  unfold SeqAt.shaped twoD
  rw [Bool.and_eq_true, decide_eq_true_eq]
  exact ⟨by simp [PyData.canLay0, PyData.canLayAll0, e], by simp [PyData.depth, PyData.depthAll]⟩

theorem deAll_strs {K : PySem.W.Frag} {H : Hp} : ∀ ws : List Str, DeAll K H (ws.map V.str) (ws.map PyData.str)
  | [] => .nil
  | w :: ws => .cons (.str w) (deAll_strs ws)

section
variable {K : PySem.W.Frag} {CT CR CW CX a : Addr} {C : Cs} {T : List (Addr × Str)} {H : Hp} {σ : St} {Q : VK} {E : XK} {x : V} {kr ko : List Kd}
theorem to_fine {ls : Str} {ws : List Str} (hR : RuleF K CR H x kr ko) (z1 : kr.length ≤ 100) (z2 : ko.length ≤ 100) (hE : exactB kr ko = true) (hL : okLb ls = true) (hasc : ls.cps.all (· < 128) = true ∧ ls.cps.size ≤ 1000) (hr : Rows H a (ws.map V.str)) (ho : ∀ y ∈ ws, OverL ls y) (hnd : ws.Nodup)
    (hn : ws.length ≤ 1000) (hnob : 1 ≤ nob ws ∧ nob ws ≤ 2000) (hcap : ∀ bs : List Str, bs.Nodup → (∀ x ∈ bs, isBeg ws x) → bs.length ≤ 2000) (hT : Tabs T H)
    (kk : ∀ (H' : Hp) (t : Addr) (bs : List Str), ExtN H H' → Tabs T H' → bs.Nodup → (∀ y, y ∈ bs ↔ isBeg ws y) → GoodS ls (ofS ls bs ws) → TreeF K CT H' (.ref t) ls (exS kr ko (ofS ls bs ws)) → Q (.ref t) H') : tNil σ H fun xs H2 => spTo K CT CR C CW CX T (x :: ((.str ls :: .ref a :: xs) ++ [])) H2 Q E := by
  show spTo K CT CR C CW CX T [x, .str ls, .ref a] H Q E
  have fine := wscan_fine ho hnd
  refine ⟨x, kr, ko, .str ls, .str ls, a, ws.map V.str, ws.map PyData.str, rfl, hR, z1, z2, .str ls, fun z e => ?_, hr, deAll_strs ws, fit_strs fun y hy => Nat.le_trans (ho y hy).1 (by decide), by rw [List.length_map]; exact hn, hT, fun z => ?_, fun _ z => ?_, fun _ _ i z => ?_, fun _ _ _ z => ?_, fun _ _ _ _ => ⟨?_, ?_⟩⟩
  · injection e with e
    subst e
    exact hasc
  · rw [hE] at z
    cases z
  · have z : okLb ls = false := z
    rw [hL] at z
    cases z
  · have z : wscan ls [] 0 (ws.map PyData.str) = some i := z
    rw [fine] at z
    cases z
  · rw [map_strOf] at z
    exact absurd hnob z
  · rw [map_strOf]
    exact hcap
  · rw [map_strOf]
    exact kk
theorem to_many {ls : Str} {ws : List Str} (hR : RuleF K CR H x kr ko) (z1 : kr.length ≤ 100) (z2 : ko.length ≤ 100) (hE : exactB kr ko = true) (hL : okLb ls = true) (hasc : ls.cps.all (· < 128) = true ∧ ls.cps.size ≤ 1000) (hr : Rows H a (ws.map V.str)) (ho : ∀ y ∈ ws, OverL ls y) (hnd : ws.Nodup)
    (hn : ws.length ≤ 1000) (hnob : ¬ (1 ≤ nob ws ∧ nob ws ≤ 2000)) (hT : Tabs T H) (t : ThrownN E C.m H [("most", .int 2000), ("many", .int (nob ws : Nat)), ("what", .str "places")] T) : tNil σ H fun xs H2 => spTo K CT CR C CW CX T (x :: ((.str ls :: .ref a :: xs) ++ [])) H2 Q E := by
  show spTo K CT CR C CW CX T [x, .str ls, .ref a] H Q E
  have fine := wscan_fine ho hnd
  refine ⟨x, kr, ko, .str ls, .str ls, a, ws.map V.str, ws.map PyData.str, rfl, hR, z1, z2, .str ls, fun z e => ?_, hr, deAll_strs ws, fit_strs fun y hy => Nat.le_trans (ho y hy).1 (by decide), by rw [List.length_map]; exact hn, hT, fun z => ?_, fun _ z => ?_, fun _ _ i z => ?_, fun _ _ _ _ => ?_, fun _ _ _ z => ?_⟩
  · injection e with e
    subst e
    exact hasc
  · rw [hE] at z
    cases z
  · have z : okLb ls = false := z
    rw [hL] at z
    cases z
  · have z : wscan ls [] 0 (ws.map PyData.str) = some i := z
    rw [fine] at z
    cases z
  · rw [map_strOf]
    exact t
  · rw [map_strOf] at z
    exact absurd z hnob
theorem to_bad {ls : Str} {xs : List V} {ds : List PyData} {i : Nat} (hR : RuleF K CR H x kr ko) (z1 : kr.length ≤ 100) (z2 : ko.length ≤ 100) (hE : exactB kr ko = true) (hL : okLb ls = true) (hasc : ls.cps.all (· < 128) = true ∧ ls.cps.size ≤ 1000) (hr : Rows H a xs) (hd : DeAll K H xs ds) (hf : TxtFit ds)
    (hn : xs.length ≤ 1000) (hT : Tabs T H) (hs : wscan ls [] 0 ds = some i) (t : ThrownN E CW H [("number", .int i)] T) : tNil σ H fun xs H2 => spTo K CT CR C CW CX T (x :: ((.str ls :: .ref a :: xs) ++ [])) H2 Q E := by
  show spTo K CT CR C CW CX T [x, .str ls, .ref a] H Q E
  refine ⟨x, kr, ko, .str ls, .str ls, a, xs, ds, rfl, hR, z1, z2, .str ls, fun z e => ?_, hr, hd, hf, hn, hT, fun z => ?_, fun _ z => ?_, fun _ _ j z => ?_, fun _ _ z => ?_, fun _ _ z => ?_⟩
  · injection e with e
    subst e
    exact hasc
  · rw [hE] at z
    cases z
  · have z : okLb ls = false := z
    rw [hL] at z
    cases z
  · have z : wscan ls [] 0 ds = some j := z
    rw [hs] at z
    injection z with z
    subst z
    exact t
  · have z : wscan ls [] 0 ds = none := z
    rw [hs] at z
    cases z
  · have z : wscan ls [] 0 ds = none := z
    rw [hs] at z
    cases z
theorem to_lets {vL : V} {L : PyData} {xs : List V} {ds : List PyData} (hR : RuleF K CR H x kr ko) (z1 : kr.length ≤ 100) (z2 : ko.length ≤ 100) (hE : exactB kr ko = true) (hv : De K H vL L) (hL : okLd L = false) (hasc : ∀ z, L = .str z → z.cps.all (· < 128) = true ∧ z.cps.size ≤ 1000) (hr : Rows H a xs) (hd : DeAll K H xs ds) (hf : TxtFit ds)
    (hn : xs.length ≤ 1000) (hT : Tabs T H) (t : ThrownN E C.l H [("letters", vL)] T) : tNil σ H fun xs H2 => spTo K CT CR C CW CX T (x :: ((vL :: .ref a :: xs) ++ [])) H2 Q E := by
  show spTo K CT CR C CW CX T [x, vL, .ref a] H Q E
  refine ⟨x, kr, ko, vL, L, a, xs, ds, rfl, hR, z1, z2, hv, hasc, hr, hd, hf, hn, hT, fun z => ?_, fun _ _ => t, fun _ z => ?_, fun _ z => ?_, fun _ z => ?_⟩
  · rw [hE] at z
    cases z
  all_goals
    rw [hL] at z
    cases z
theorem to_not {vL : V} {L : PyData} {xs : List V} {ds : List PyData} (hR : RuleF K CR H x kr ko) (z1 : kr.length ≤ 100) (z2 : ko.length ≤ 100) (hE : exactB kr ko = false) (hv : De K H vL L) (hasc : ∀ z, L = .str z → z.cps.all (· < 128) = true ∧ z.cps.size ≤ 1000) (hr : Rows H a xs) (hd : DeAll K H xs ds) (hf : TxtFit ds)
    (hn : xs.length ≤ 1000) (hT : Tabs T H) (t : ∀ H', Same H H' → E (.ref CX) none H') : tNil σ H fun xs H2 => spTo K CT CR C CW CX T (x :: ((vL :: .ref a :: xs) ++ [])) H2 Q E := by
  show spTo K CT CR C CW CX T [x, vL, .ref a] H Q E
  refine ⟨x, kr, ko, vL, L, a, xs, ds, rfl, hR, z1, z2, hv, hasc, hr, hd, hf, hn, hT, fun _ => t, fun z => ?_, fun z => ?_, fun z => ?_, fun z => ?_⟩
  all_goals
    rw [hE] at z
    cases z
end
theorem al_mulS {K : PySem.W.Frag} {H0 : Hp} {σ : St} {te : TE} {z : Str} {n : Int} (h : Al K H0 σ te (.str z)) (hz : z.length ≤ 16) (h0 : 0 ≤ n) (h1 : n ≤ 1000) : Al K H0 σ (tOp rMulS te (tC (.int n))) (.str (Txt.mul z n)) := fun H R s k => by
  refine h H _ s fun H1 v s1 hd => ?_
  cases hd
  exact ⟨z, n, rfl, rfl, hz, h0, h1, k H1 _ s1 (.str _)⟩
theorem al_sl {K : PySem.W.Frag} {H0 : Hp} {σ : St} {i : Nat} {z : Str} {j : Int} (h : σ[i]? = some (some (.str z))) (hz : z.length ≤ sizeLine) : Al K H0 σ (tSl rSlS (tVar i) tNoPart (tPart (tC (.int j)))) (.str (cutS z none (some j))) := fun H R _ k => ⟨.str z, h, j, rfl, z, rfl, hz, k H _ (Same.refl _) (.str _)⟩
theorem al_cutHi {K : PySem.W.Frag} {H0 : Hp} {σ : St} {i j : Nat} {b : Addr} {ws : List Str} {n : Nat} (h : σ[i]? = some (some (.ref b))) (hj : σ[j]? = some (some (.int (n : Nat)))) (hb : H0 b = some (.lst (ws.map V.str))) : Al K H0 σ (tSl (rSlL K) (tVar i) tNoPart (tPart (tVar j))) (.list ((ws.take n).map PyData.str)) := fun H R s k => by
  refine ⟨.ref b, h, .int n, hj, (n : Int), rfl, b, ws.map V.str, rfl, .inl (.inl (s _ _ hb)), fun q nq => ?_⟩
  rw [cutV_take, ← List.map_take]
  exact k _ _ (upd_new nq) (.lst upd_same (deAll_strs _))
theorem al_cutLo {K : PySem.W.Frag} {H0 : Hp} {σ : St} {i j : Nat} {b : Addr} {ws : List Str} {n : Nat} (h : σ[i]? = some (some (.ref b))) (hj : σ[j]? = some (some (.int (n : Nat)))) (hb : H0 b = some (.lst (ws.map V.str))) (hn : n ≤ ws.length) : Al K H0 σ (tSl (rSlL K) (tVar i) (tPart (tVar j)) tNoPart) (.list ((ws.drop n).map PyData.str)) := fun H R s k => by
  refine ⟨.ref b, h, .int n, hj, (n : Int), rfl, b, ws.map V.str, rfl, .inl (.inl (s _ _ hb)), fun q nq => ?_⟩
  rw [cutV_drop _ _ (by rw [List.length_map]; exact hn), ← List.map_drop]
  exact k _ _ (upd_new nq) (.lst upd_same (deAll_strs _))

abbrev NRe : List Str := ["pen", "rule", "letters", "words", "at", "odd", "wrong"]
def odd7 (ls : Str) (d : PyData) : List PyData := [.none, .int 7, .str "A", .str (mulQ ls), .list [], d, .bool true]
def spRe (K : PySem.W.Frag) (CR : Addr) (T : List (Addr × Str)) : Sp := fun vs H Q _ => ∃ (p l b : Addr) (ns : List Int) (k lf : Int) (x : V) (kr ko : List Kd) (ls : Str) (ws : List Str), vs = [.ref p, x, .str ls, .ref b] ∧ PenAt H p l ns k lf ∧ ns.length ≤ 63 ∧ 0 ≤ k ∧ k ≤ 80000 ∧ 0 ≤ lf ∧ RuleF K CR H x kr ko ∧ kr.length ≤ 100 ∧ ko.length ≤ 100 ∧ exactB kr ko = true ∧
  ls ∈ six ∧ H b = some (.lst (ws.map V.str)) ∧ (∀ y ∈ ws, OverL ls y) ∧ (∀ y ∈ ws, y.cps.size ≤ 4) ∧ ws.length ≤ 6 ∧ ws.Nodup ∧ Tabs T H ∧ ∀ (H' : Hp) (k' lf' : Int), k' ≤ k + 10 → 0 ≤ k' → 0 ≤ lf' → Kx H H' → PenAt H' p l ns k' lf' → Tabs T H' → Q (.bl true) H'
section
variable {P : Program} {w : World} {K : PySem.W.Frag} {mg : Str → Option Value} {base : Heap} {f c Pt fD fPk fM fTo CT CR CX CW tE : Addr} {fd fdD fdPk fdM fdTo : FuncData} {C : Cs} {T : List (Addr × Str)}
theorem ok_re (F : FunT K "_law_are_refused" "_law_are_refused" (top 56) f fd c) (TB : TabB base mg c Pt) (hmT : (Pt, ("_law_are_refused" : Str) ++ ".<locals>." ++ "<lambda>") ∈ T) (hu : ∀ p ∈ T, p.1 = Pt → p.2 = ("_law_are_refused" : Str) ++ ".<locals>." ++ "<lambda>")
    (RR : RuleK K CR) (X4 : Ex4 P w K mg base CX C CW tE) (gRp : mg "repr" = none) (gIs : mg "isinstance" = none) (hsys : ∃ o, K.lookup sysModules = some o) (gN : mg "len" = none)
    (MTo : Meth K CR "tree_of" fTo) (GTo : FnOk P w K mg base (L2.CX P w) 9 fTo fdTo ["self", "letters", "words"] (spTo K CT CR C CW CX T)) (bTo : Binds K fdTo ["self", "letters", "words"] [])
    (gD : mg "_law_draw" = some (.ref fD)) (kD : PySem.W.keepIn K (.ref fD) = true) (GD : FnOk P w K mg base CX0 1 fD fdD ["pen", "many"] spDraw) (bD : Binds K fdD ["pen", "many"] [])
    (gPk : mg "_law_pick" = some (.ref fPk)) (kPk : PySem.W.keepIn K (.ref fPk) = true) (GPk : FnOk P w K mg base CX0 2 fPk fdPk ["pen", "items"] spPick) (bPk : Binds K fdPk ["pen", "items"] [])
    (gM : mg "_law_met" = some (.ref fM)) (FM : Fun K "_law_met" "_law_met" (top 50) fM fdM) (bM : Binds K fdM ["call"] []) :
    FnG P w K mg base CX0 12 f fd ["pen", "rule", "letters", "words"] (spRe K CR T) := by
  have S0 : FnScope NRe ["pen", "rule", "letters", "words"] (defScope (top 56)) := ⟨rfl, rfl, rfl, by decide +kernel, rfl, by decide +kernel, by decide +kernel⟩
  have nd := S0.nd
  obtain ⟨ocM, odM, kVM, docM, pmM, anM, cdvM, ctM, oslM, rfl, lkM, hcdM⟩ := FM.ex
  refine FunT.okG F S0 (fun vs H Q E h => ?_) (fun A outer s H vs Q E hg hr h => ?_)
  · obtain ⟨p, l, b, ns, k, lf, x, kr, ko, ls, ws, rfl, _⟩ := h
    rfl
  · obtain ⟨p, l, b, ns, k, lf, x, kr, ko, ls, ws, rfl, P0, hn, i0, i1, i2, hR, z1, z2, hE, h6, hb, ho, h4, hwl, hnd, hT, kk⟩ := h
    have hu64 := hr.units
    have hr1 : Room 1 _ := hr.mono (by decide)
    have hr2 : Room 2 _ := hr.mono (by decide)
    refine ⟨_, (pss_cons (ps_set (i := 4) nd rfl (Or.inr rfl) (pe_call GD hr1 (by rfl) gD kD bD .nil pass0 (pa_cons (pv 0) (pa_cons (pe_op op_add (pe_callB call_len_seq (by rfl) gN PySem.boot_len (pa_cons (pv 3) pa_nil)) pe_int) pa_nil))))
        (pss_cons (ps_set (i := 5) nd rfl (Or.inr rfl) (pe_call GPk hr2 (by rfl) gPk kPk bPk .nil pass0 (pa_cons (pv 0) (pa_cons (pe_lst (pa_cons pe_non (pa_cons pe_int (pa_cons pe_str (pa_cons (pe_op op_mulS (pe_slice sl_str (pv 2) po_none (po_some pe_int)) pe_int) (pa_cons (pe_lst pa_nil) (pa_cons (pe_ifExp (pt_cmpR op_gt (pv 4) pe_int (nomark _)) (pe_ix ix_seq (pv 3) pe_int (fun _ _ => rfl)) pe_str) (pa_cons pe_bl pa_nil)))))))) pa_nil))))
        (pss_cons (ps_if (pt_cmpR (op_neD hu64) (pe_lamcall (T := T) (a := "call") (Ng := ["call", "e"]) (k := 9) (t := fun E => tMeth CR "tree_of" (spTo K CT CR C CW CX T) [] E (tVar 1) (tCons (tVar 2) (tCons (tOp rCat (tOp rCat (tSl (rSlL K) (tVar 3) tNoPart (tPart (tVar 4))) (tLst (tCons (tVar 5) tNil))) (tSl (rSlL K) (tVar 3) (tPart (tVar 4)) tNoPart)) tNil)))
              (by rfl) gM FM.kp lkM hcdM bM scMet rfl (.inl rfl) (met_gives X4 gRp gIs hsys hg hr2) TB rfl hmT hu hr (lamS_by (show lamSB (defScope (top 56)) _ = true by decide +kernel)) rfl (fun _ _ _ _ _ => rfl)
              (fun A outer s H E f c' hrk => pe_meth (pv 1) RR.cl MTo GTo hrk bTo .nil (passes_call (takes_of rfl rfl rfl rfl) (fun _ _ _ _ h => h)) (pa_cons (pv 2) (pa_cons (pe_op op_cat (pe_op op_cat (pe_slice sl_list (pv 3) po_none (po_some (pv 4))) (pe_lst (pa_cons (pv 5) pa_nil))) (pe_slice sl_list (pv 3) (po_some (pv 4)) po_none)) pa_nil)))) (pe_tup (pa_cons pe_str (pa_cons (pv 4) pa_nil))) (nomark _)) (pss_one (ps_ret pe_bl)) pss_nil)
        (pss_cons (ps_set (i := 6) nd rfl (Or.inr rfl) (pe_call GPk hr2 (by rfl) gPk kPk bPk .nil pass0 (pa_cons (pv 0) (pa_cons (pe_lst (pa_cons pe_non (pa_cons pe_str (pa_cons pe_str (pa_cons pe_str (pa_cons (pe_lst (pa_cons pe_str (pa_cons pe_str pa_nil))) pa_nil)))))) pa_nil))))
        (pss_cons (ps_if (pt_cmpR (op_neD hu64) (pe_lamcall (T := T) (a := "call") (Ng := ["call", "e"]) (k := 9) (t := fun E => tMeth CR "tree_of" (spTo K CT CR C CW CX T) [] E (tVar 1) (tCons (tVar 6) (tCons (tLst (tCons (tVar 5) tNil)) tNil)))
              (by rfl) gM FM.kp lkM hcdM bM scMet rfl (.inl rfl) (met_gives X4 gRp gIs hsys hg hr2) TB rfl hmT hu hr (lamS_by (show lamSB (defScope (top 56)) _ = true by decide +kernel)) rfl (fun _ _ _ _ _ => rfl)
              (fun A outer s H E f c' hrk => pe_meth (pv 1) RR.cl MTo GTo hrk bTo .nil (passes_call (takes_of rfl rfl rfl rfl) (fun _ _ _ _ h => h)) (pa_cons (pv 6) (pa_cons (pe_lst (pa_cons (pv 5) pa_nil)) pa_nil)))) (pe_tup (pa_cons pe_str (pa_cons (pe_callB (r := rRepD K) (call_repD hg hu64 hsys) (by rfl) gRp PyProof.Rows.boot_repr (pa_cons (pv 6) pa_nil)) pa_nil))) (nomark _)) (pss_one (ps_ret pe_bl)) pss_nil)
        (pss_one (ps_ret pe_bl))))))), ?_⟩
    have hL := six_okL h6
    have hLb := six_ok ls h6
    have hasc := six_asc ls h6
    have h26 := hL.hi
    obtain ⟨hm1, hm2, hm3, hm4⟩ := six_mul ls h6
    obtain ⟨hA1, hA2⟩ := six_A ls h6
    have b2 : (5000 : Nat) < sizeLine := by decide
    have hls : ls.length ≤ sizeLine := by omega
    refine ⟨V.ref p, rfl, V.ref b, rfl, b, ws.map V.str, rfl, .inl (.inl (.inl hb)), ((ws.map V.str).length : Int), 1, rfl, rfl, p, l, ns, k, lf, _, rfl, P0, hn, i0, by omega, i2, by omega, ?_, fun G1 k1 lf1 d g1 g2 g3 g4 g5 s1 P1 => ?_⟩
    · rw [List.length_map]
      omega
    obtain ⟨at_, rfl⟩ : ∃ at_ : Nat, d = (at_ : Int) := ⟨d.toNat, (Int.toNat_of_nonneg g4).symm⟩
    rw [List.length_map] at g5
    have hat : at_ ≤ ws.length := by omega
    have K1 := Kx.but P0 s1
    have T1 := Tabs.pen hT P0.dc s1
    have nbp : b ≠ p := ne_of hb P0.dc (by intro z; cases z)
    have hb1 := s1 _ _ nbp hb
    obtain ⟨last, hlast⟩ : ∃ last : PyData, last = if 0 < at_ then .str (ws.headD "") else .str "a b" := ⟨_, rfl⟩
    refine ⟨V.ref p, rfl, ?_⟩
    refine al_lst (K := K) (H0 := G1) (ds := odd7 ls last) (al_cons al_non (al_cons al_int (al_cons al_str (al_cons (al_mulS (al_sl (i := 2) (z := ls) rfl hls) hm3 (by decide) (by decide)) (al_cons (al_lst al_nil (by decide)) (al_cons (fun H R s kq => ?_) (al_cons al_bl al_nil))))))) (by show 7 ≤ 1000; decide) G1 _ (Same.refl _) fun G2 v2 s2 hd2 => ?_
    · refine ⟨V.int at_, rfl, (at_ : Int), 0, rfl, rfl, _, rfl, ite2 (fun cc => ?_) (fun cc => ?_)⟩
      · have cc := of_decide_eq_true cc
        have hpos : 0 < at_ := by omega
        obtain ⟨w0, wr, rfl⟩ : ∃ w0 wr, ws = w0 :: wr := by
          cases ws with
          | nil => simp at hat; omega
          | cons w0 wr => exact ⟨w0, wr, rfl⟩
        rw [if_pos hpos] at hlast
        refine ⟨V.ref b, rfl, .inl ⟨b, (w0 :: wr).map V.str, _, V.str w0, rfl, rfl, .inl (.inl (s _ _ hb1)), atI_nat (j := 0) rfl, kq H _ (Same.refl _) ?_⟩⟩
        rw [hlast]
        exact .str w0
      · have hpos : ¬ 0 < at_ := fun z => cc (decide_eq_true (by omega))
        rw [if_neg hpos] at hlast
        refine kq H _ (Same.refl _) ?_
        rw [hlast]
        exact .str _
    cases hd2 with
    | @lst a2 xs2 _ ha2 hds2 =>
    have hx7 : xs2.length = 7 := deAll_len hds2
    have P2 : PenAt G2 p l ns k1 lf1 := ⟨s2 _ _ P1.dc, s2 _ _ P1.ls⟩
    have hb2 := s2 _ _ hb1
    refine ⟨p, l, .ref a2, ns, k1, lf1, xs2, rfl, P2, hn, g2, by omega, g3, .inl ⟨a2, rfl, ha2⟩, by omega, by omega, fun G3 k3 lf3 y e1 e2 e3 hy s3 P3 => ?_⟩
    obtain ⟨d, hdm, hde⟩ := deAll_mem hds2 hy
    have hde3 := de_kx (Kx.but P2 s3) hde
    have hb3 := s3 _ _ nbp hb2
    have K3 : Kx H G3 := K1.trans ((Kx.of s2).trans (Kx.but P2 s3))
    have T3 := Tabs.pen (T1.ext s2) P2.dc s3
    have hbad : ¬ (okW ls d = true ∧ strOf d ∉ ws.take at_) := by
      rintro ⟨y1, y2⟩
      simp only [odd7, List.mem_cons, List.mem_nil_iff, or_false] at hdm
      rcases hdm with rfl | rfl | rfl | rfl | rfl | rfl | rfl
      · cases y1
      · cases y1
      · rw [hA1] at y1
        cases y1
      · rw [hm1] at y1
        cases y1
      · cases y1
      · rw [hlast] at y1 y2
        by_cases hpos : 0 < at_
        · rw [if_pos hpos] at y2
          refine y2 ?_
          show ws.headD "" ∈ ws.take at_
          cases ws with
          | nil => simp at hat; omega
          | cons w0 wr =>
            obtain ⟨m, rfl⟩ : ∃ m, at_ = m + 1 := ⟨at_ - 1, by omega⟩
            simp
        · rw [if_neg hpos, hA2] at y1
          cases y1
      · cases y1
    have hfit : ∀ x, d = .str x → x.cps.size ≤ 1000 := by
      intro x e
      subst e
      simp only [odd7, List.mem_cons, List.mem_nil_iff, or_false] at hdm
      rcases hdm with e | e | e | e | e | e | e
      · cases e
      · cases e
      · injection e with e
        rw [e]
        decide
      · injection e with e
        rw [e]
        exact hm2
      · cases e
      · rw [hlast] at e
        by_cases hpos : 0 < at_
        · rw [if_pos hpos] at e
          injection e with e
          rw [e]
          cases ws with
          | nil => decide
          | cons w0 wr => exact Nat.le_trans (h4 w0 (by simp)) (by decide)
        · rw [if_neg hpos] at e
          injection e with e
          rw [e]
          decide
      · cases e
    try dsimp only
    refine ⟨T3, fun G4 e4 T4 => ?_⟩
    have hde4 := de_ext e4 hde3
    have hb4 := e4 _ _ hb3 fun _ z => nomatch z
    have hR4 := hR.kx (K3.trans (Kx.ext e4))
    obtain ⟨ra, rdx, fs, r1, r2, rfl, hra, RP⟩ := id hR4
    refine ⟨V.ref ra, rfl, ra, rdx, fs, rfl, hra, RP.no _ (by decide) (by decide), V.str ls, rfl, ?_⟩
    refine al_cat (K := K) (H0 := G4) (al_cat (al_cutHi (i := 3) (j := 4) (b := b) (ws := ws) (n := at_) rfl rfl hb4) (al_lst (al_cons (al_var (i := 5) rfl hde4) al_nil) (by show 1 ≤ 1000; decide)) ?_) (al_cutLo (i := 3) (j := 4) (b := b) (ws := ws) (n := at_) rfl rfl hb4 hat) ?_ G4 _ (Same.refl _) fun G5 v5 s5 hd5 => ?_
    · rw [List.length_map, List.length_take]
      show _ + 1 ≤ 1000
      omega
    · rw [List.length_append, List.length_map, List.length_map, List.length_take, List.length_drop]
      show _ + 1 + _ ≤ 1000
      omega
    have K4 := K3.trans (Kx.ext e4)
    have ed : ((ws.take at_).map PyData.str ++ [d]) ++ (ws.drop at_).map PyData.str = (ws.take at_).map PyData.str ++ d :: (ws.drop at_).map PyData.str := by simp
    rw [ed] at hd5
    have hot : ∀ y ∈ ws.take at_, OverL ls y := fun y hy => ho y (List.mem_of_mem_take hy)
    have hsc := wscan_bad (rest := (ws.drop at_).map PyData.str) hot (hnd.sublist (List.take_sublist _ _)) hbad
    have hlt : (ws.take at_).length = at_ := by
      rw [List.length_take]
      omega
    rw [hlt] at hsc
    have hft : TxtFit ((ws.take at_).map PyData.str ++ d :: (ws.drop at_).map PyData.str) := fun x hx => by
      rcases List.mem_append.mp hx with hx | hx
      · obtain ⟨y, hy, e⟩ := List.mem_map.mp hx
        injection e with e
        exact e ▸ Nat.le_trans (h4 y (List.mem_of_mem_take hy)) (by decide)
      · rcases List.mem_cons.mp hx with e | hx
        · exact hfit x e.symm
        · obtain ⟨y, hy, e⟩ := List.mem_map.mp hx
          injection e with e
          exact e ▸ Nat.le_trans (h4 y (List.mem_of_mem_drop hy)) (by decide)
    have hlen5 : ((ws.take at_).map PyData.str ++ d :: (ws.drop at_).map PyData.str).length ≤ 1000 := by
      rw [List.length_append, List.length_cons, List.length_map, List.length_map, List.length_take, List.length_drop]
      show _ + (_ + 1) ≤ 1000
      omega
    generalize (ws.take at_).map PyData.str ++ d :: (ws.drop at_).map PyData.str = dd at hd5 hsc hft hlen5
    cases hd5 with
    | @lst a5 xs5 _ ha5 hds5 =>
    have hR5 := hR4.kx (Kx.of s5)
    refine to_bad (x := .ref ra) hR5 z1 z2 hE hLb hasc (.inl ha5) hds5 hft (by rw [deAll_len hds5]; exact hlen5) (T4.ext s5) (i := at_) hsc fun H' dx' e6 T6 hx => .inr (.inr (.inl ⟨dx', (at_ : Int), rfl, rfl, hx, fun r nr => ?_⟩))
    have s7 := upd_new (o := .tup [.str "word", .int at_]) nr
    have hr7 : upd H' r (.tup [.str "word", .int at_]) r = some (.tup [.str "word", .int at_]) := upd_same
    generalize upd H' r (.tup [.str "word", .int at_]) = G7 at s7 hr7
    refine ⟨V.int at_, rfl, (by show 2 ≤ sizeLine; decide), fun u nu => ?_⟩
    have s8 := upd_new (o := .tup [.str "word", .int at_]) nu
    have hu8 : upd G7 u (.tup [.str "word", .int at_]) u = some (.tup [.str "word", .int at_]) := upd_same
    have hr8 := s8 _ _ hr7
    generalize upd G7 u (.tup [.str "word", .int at_]) = G8 at s8 hu8 hr8
    have wsh := word_shaped (n := at_)
    have dpw : ∀ {u : Addr}, G8 u = some (.tup [.str "word", .int at_]) → Dp K G8 (.ref u) (twoD "word" (.int at_)) := fun {u} hu => .tup (.inl (.inl hu)) (.cons (.str _) (.cons (.int _) .nil))
    refine ⟨twoD "word" (.int at_), twoD "word" (.int at_), dpw hr8, dpw hu8, wsh, wsh, _, rfl, fls (eqv_self wsh) ?_⟩
    have e38 : ExtN G3 G8 := e4.trans ((ExtN.of s5).trans (e6.trans (ExtN.of (s7.trans s8))))
    have K8 := K3.trans (Kx.ext e38)
    have T8 := T6.ext (s7.trans s8)
    have P8 : PenAt G8 p l ns k3 lf3 := ⟨e38 _ _ P3.dc (fun _ z => nomatch z), e38 _ _ P3.ls (fun _ z => nomatch z)⟩
    have hde8 := de_ext e38 hde3
    -- wrong letters
    refine ⟨V.ref p, rfl, (al_lst (K := K) (H0 := G8) (ds := wrong5) (al_cons al_non (al_cons al_str (al_cons al_str (al_cons al_str (al_cons (al_lst (al_cons al_str (al_cons al_str al_nil)) (by decide)) al_nil))))) (by decide)) G8 _ (Same.refl _) fun G9 v9 s9 hd9 => ?_⟩
    cases hd9 with
    | @lst a9 xs9 _ ha9 hds9 =>
    have hx5 : xs9.length = 5 := deAll_len hds9
    have P9 : PenAt G9 p l ns k3 lf3 := ⟨s9 _ _ P8.dc, s9 _ _ P8.ls⟩
    refine ⟨p, l, .ref a9, ns, k3, lf3, xs9, rfl, P9, hn, e2, by omega, e3, .inl ⟨a9, rfl, ha9⟩, by omega, by omega, fun G10 k10 lf10 y2 i1' i2' i3' hy2 s10 P10 => ?_⟩
    obtain ⟨L, hLm, hLe⟩ := deAll_mem hds9 hy2
    obtain ⟨f1, f2, f3, f4⟩ := wrong_facts L hLm
    have hLe10 := de_kx (Kx.but P9 s10) hLe
    have hde10 := de_kx (Kx.but P9 s10) (de_mono s9 _ _ hde8)
    have K10 := K8.trans ((Kx.of s9).trans (Kx.but P9 s10))
    have T10 := Tabs.pen (T8.ext s9) P9.dc s10
    refine ⟨T10, fun G11 e11 T11 => ?_⟩
    have hde11 := de_ext e11 hde10
    have hLe11 := de_ext e11 hLe10
    have hR11 := hR.kx (K10.trans (Kx.ext e11))
    obtain ⟨ra', rdx', fs', r1', r2', er, hra', RP'⟩ := id hR11
    injection er with er
    subst er
    refine ⟨V.ref ra, rfl, ra, rdx', fs', rfl, hra', RP'.no _ (by decide) (by decide), y2, rfl, y, rfl, (by show 1 ≤ sizeLine; decide), fun q nq => ?_⟩
    have s12 := upd_new (o := .lst [y]) nq
    have hq12 : upd G11 q (.lst [y]) q = some (.lst [y]) := upd_same
    generalize upd G11 q (.lst [y]) = G12 at s12 hq12
    have hLe12 := de_mono s12 _ _ hLe11
    have hft1 : TxtFit [d] := fun x hx => hfit x (List.mem_singleton.mp hx).symm
    refine to_lets (x := .ref ra) (hR11.kx (Kx.of s12)) z1 z2 hE hLe12 f1 f4 (.inl hq12) (.cons (de_mono s12 _ _ hde11) .nil) hft1 (by show 1 ≤ 1000; decide) (T11.ext s12) fun H' dx' e13 T13 hx => .inr (.inl ⟨dx', y2, L, rfl, rfl, hx, de_ext e13 hLe12, f2, fun r nr => ?_⟩)
    have s14 := upd_new (o := .tup [.str "letters", .str L.shown]) nr
    have hr14 : upd H' r (.tup [.str "letters", .str L.shown]) r = some (.tup [.str "letters", .str L.shown]) := upd_same
    generalize upd H' r (.tup [.str "letters", .str L.shown]) = G14 at s14 hr14
    refine ⟨y2, rfl, y2, L, rfl, de_mono s14 _ _ (de_ext e13 hLe12), f2.sh, f2.dp, Nat.le_trans f2.ln (by decide), (by show 2 ≤ sizeLine; decide), fun u2 nu2 => ?_⟩
    have s15 := upd_new (o := .tup [.str "letters", .str L.shown]) nu2
    have hu15 : upd G14 u2 (.tup [.str "letters", .str L.shown]) u2 = some (.tup [.str "letters", .str L.shown]) := upd_same
    have hr15 := s15 _ _ hr14
    generalize upd G14 u2 (.tup [.str "letters", .str L.shown]) = G15 at s15 hu15 hr15
    have lsh := let_shaped f3
    have dpl : ∀ {u : Addr}, G15 u = some (.tup [.str "letters", .str L.shown]) → Dp K G15 (.ref u) (twoD "letters" (.str L.shown)) := fun {u} hu => .tup (.inl (.inl hu)) (.cons (.str _) (.cons (.str _) .nil))
    refine ⟨twoD "letters" (.str L.shown), twoD "letters" (.str L.shown), dpl hr15, dpl hu15, lsh, lsh, _, rfl, fls (eqv_self lsh) ?_⟩
    have e15 : ExtN G10 G15 := e11.trans ((ExtN.of s12).trans (e13.trans (ExtN.of (s14.trans s15))))
    exact kk G15 k10 lf10 (by omega) i2' i3' (K10.trans (Kx.ext e15)) ⟨e15 _ _ P10.dc (fun _ z => nomatch z), e15 _ _ P10.ls (fun _ z => nomatch z)⟩ (T13.ext (s14.trans s15))
end
end SK
namespace SK
open PySem PySem.Spec PyProof.Rows L2 LamX NdefX ClX
open K0 (De DeAll XCl spX withX)
/-! ### long words -/
def hd : Nat → List (List Nat)
  | 0 => [[]]
  | n + 1 => (hd n).map (· ++ [97]) ++ (hd n).map (· ++ [98])
def toS (l : List Nat) : Str := ⟨l.toArray⟩
theorem toS_list (l : List Nat) : (toS l).cps.toList = l := by
  unfold toS
  simp
def aaa : List Nat := [97, 97, 97]
def bh (few : Nat) : List (List Nat) := ((hd 3).take few).drop 1
def kq (more : Nat) (h : List Nat) : Nat := if h = aaa then more else 0
def runL (more : Nat) (d : List Nat × Bool) : List Nat := if d.2 = true then List.replicate (150 + kq more d.1) 98 else List.replicate 190 97
def wq (more : Nat) (d : List Nat × Bool) : List Nat := d.1 ++ runL more d
def dsU (few : Nat) : List (List Nat × Bool) := (hd 3).map (fun h => (h, false)) ++ ((bh few).map (fun h => (h, true)) ++ [(aaa, true)])
def longW (few more : Nat) : List Str := (dsU few).map fun d => toS (wq more d)
def shD (few : Nat) : List (List Nat × Bool) := ([[97, 97, 97], [97, 97, 98], [97, 98, 97], [97, 98, 98], [98, 97, 97], [98, 97, 98], [98, 98, 97], [98, 98, 98]] : List (List Nat)).flatMap fun h => (h, false) :: (if h ∈ aaa :: bh few then [(h, true)] else [])
abbrev F34 : List Nat := [3, 4]
theorem sh_perm : ∀ few ∈ F34, (shD few).Perm (dsU few) := by decide +kernel
theorem sort_pw : ∀ few ∈ F34, ∀ more < 32, ((shD few).map (wq more)).Pairwise fun a b => a ≤ b := by decide +kernel
theorem nob_sort : ∀ few ∈ F34, ∀ more < 32, nobL "" ((shD few).map fun d => toS (wq more d)) 1 = 15 + 8 * 190 + few * 150 + more := by decide +kernel
theorem long_nd' : ∀ few ∈ F34, ∀ more < 32, ((dsU few).map (wq more)).Nodup := by decide +kernel
theorem long_n : ∀ few ∈ F34, (dsU few).length = 8 + few := by decide +kernel
theorem ds_chars : ∀ few ∈ F34, ∀ d ∈ dsU few, d.1.length = 3 ∧ (∀ c ∈ d.1, c = 97 ∨ c = 98) ∧ ∀ n < 4, d.1.take n ∈ hd n := by decide +kernel
theorem srt_eq {ws zs : List Str} (hp : zs.Perm ws) (pw : zs.Pairwise fun a b => a.cps.toList ≤ b.cps.toList) : srt ws = zs := by
  have e : srt ws = ws.mergeSort fun a b => decide (a.cps.toList ≤ b.cps.toList) := by
    unfold srt
    rw [PySem.W.dataLe_str (fun b : Str => b)]
  have z := List.pairwise_mergeSort (le := fun a b : Str => decide (a.cps.toList ≤ b.cps.toList)) (fun a b c h1 h2 => decide_eq_true (List.le_trans (of_decide_eq_true h1) (of_decide_eq_true h2)))
    (fun a b => by
      rw [Bool.or_eq_true, decide_eq_true_eq, decide_eq_true_eq]
      exact List.le_total _ _) ws
  rw [e]
  exact List.Perm.eq_of_pairwise (le := fun a b : Str => a.cps.toList ≤ b.cps.toList) (fun a b _ _ h1 h2 => str_ext (List.le_antisymm h1 h2)) (z.imp fun h => of_decide_eq_true h) pw ((List.mergeSort_perm _ _).trans hp.symm)
theorem nob_long {few more : Nat} (hf : few ∈ F34) (h : more < 32) : nob (longW few more) = 15 + 8 * 190 + few * 150 + more := by
  have e : srt (longW few more) = (shD few).map fun d => toS (wq more d) := srt_eq ((sh_perm few hf).map _) (by
    have z := sort_pw few hf more h
    rw [List.pairwise_map] at z ⊢
    exact z.imp fun q => by rw [toS_list, toS_list]; exact q)
  unfold nob
  rw [e]
  exact nob_sort few hf more h
theorem long_nd {few more : Nat} (hf : few ∈ F34) (h : more < 32) : (longW few more).Nodup := by
  have z := long_nd' few hf more h
  unfold longW
  rw [List.nodup_iff_pairwise_ne, List.pairwise_map] at z ⊢
  exact z.imp fun q e => q (by
    have e2 := congrArg (fun s : Str => s.cps.toList) e
    simp only [toS_list] at e2
    exact e2)
theorem run_len {more : Nat} {d : List Nat × Bool} (h : more < 32) : (runL more d).length ≤ 190 := by
  have k : kq more d.1 ≤ more := by
    unfold kq
    split <;> omega
  unfold runL
  split <;> rw [List.length_replicate] <;> omega
theorem wq_len {more : Nat} {d : List Nat × Bool} (h3 : d.1.length = 3) (h : more < 32) : (wq more d).length = 3 + (runL more d).length ∧ (wq more d).length ≤ 193 := by
  have z := run_len (d := d) h
  unfold wq
  rw [List.length_append, h3]
  omega
theorem ab_list : ("ab" : Str).cps.toList = [97, 98] := by decide +kernel
theorem long_over {few more : Nat} (hf : few ∈ F34) (h : more < 32) : ∀ y ∈ longW few more, OverL "ab" y := fun y hy => by
  obtain ⟨d, hm, rfl⟩ := List.mem_map.mp hy
  obtain ⟨c1, c2, _⟩ := ds_chars few hf d hm
  refine ⟨?_, fun c hc => ?_⟩
  · have z := (wq_len c1 h).2
    show (wq more d).toArray.size ≤ 200
    rw [List.size_toArray]
    omega
  · rw [toS_list] at hc
    rw [ab_list]
    unfold wq runL at hc
    rcases List.mem_append.mp hc with hc | hc
    · rcases c2 c hc with e | e <;> simp [e]
    · split at hc
      · simp [(List.mem_replicate.mp hc).2]
      · simp [(List.mem_replicate.mp hc).2]
/-- all beginnings of the long words -/
def begW (few more : Nat) : List Str := ((hd 0 ++ hd 1 ++ hd 2 ++ hd 3).map toS) ++ (dsU few).flatMap fun d => (List.range (runL more d).length).map fun k => toS ((wq more d).take (4 + k))
theorem begW_sum : ∀ few ∈ F34, ∀ more < 32, ((dsU few).map fun d => (runL more d).length).sum = 8 * 190 + few * 150 + more := by decide +kernel
theorem begW_len {few more : Nat} (hf : few ∈ F34) (h : more < 32) : (begW few more).length = 15 + 8 * 190 + few * 150 + more := by
  unfold begW
  rw [List.length_append, List.length_map, List.length_flatMap]
  have e : ((dsU few).map fun d => ((List.range (runL more d).length).map fun k => toS ((wq more d).take (4 + k))).length) = (dsU few).map fun d => (runL more d).length := List.map_congr_left fun y _ => by rw [List.length_map, List.length_range]
  rw [e, begW_sum few hf more h]
  have z : (hd 0 ++ hd 1 ++ hd 2 ++ hd 3).length = 15 := by decide +kernel
  omega
theorem begW_mem {few more : Nat} (hf : few ∈ F34) (h : more < 32) {x : Str} (hx : isBeg (longW few more) x) : x ∈ begW few more := by
  have low : ∀ n < 4, ∀ l ∈ hd n, toS l ∈ begW few more := fun n hn l hl => by
    refine List.mem_append_left _ (List.mem_map.mpr ⟨l, ?_, rfl⟩)
    match n, hn with
    | 0, _ => simp [hl]
    | 1, _ => simp [hl]
    | 2, _ => simp [hl]
    | 3, _ => simp [hl]
  rcases hx with rfl | ⟨y, hy, hp⟩
  · exact low 0 (by decide) [] (by simp [hd])
  · obtain ⟨d, hm, rfl⟩ := List.mem_map.mp hy
    obtain ⟨c1, c2, c3⟩ := ds_chars few hf d hm
    rw [toS_list] at hp
    have et := List.prefix_iff_eq_take.mp hp
    have hle := hp.length_le
    have ex : x = toS ((wq more d).take x.cps.toList.length) := str_ext (by rw [toS_list]; exact et)
    obtain ⟨z1, z2⟩ := wq_len (d := d) c1 h
    by_cases hn : x.cps.toList.length < 4
    · have e2 : (wq more d).take x.cps.toList.length = d.1.take x.cps.toList.length := by
        unfold wq
        rw [List.take_append_of_le_length (by rw [c1]; omega)]
      rw [ex, e2]
      exact low _ hn _ (c3 _ hn)
    · refine List.mem_append_right _ (List.mem_flatMap.mpr ⟨d, hm, List.mem_map.mpr ⟨x.cps.toList.length - 4, ?_, ?_⟩⟩)
      · rw [List.mem_range]
        omega
      · have e3 : 4 + (x.cps.toList.length - 4) = x.cps.toList.length := by omega
        rw [e3]
        exact ex.symm
theorem long_caps {few more : Nat} (hf : few ∈ F34) (h : more < 32) (hn : 15 + 8 * 190 + few * 150 + more ≤ 2000) : ∀ bs : List Str, bs.Nodup → (∀ x ∈ bs, isBeg (longW few more) x) → bs.length ≤ 2000 := fun bs nd hb => by
  have z := List.Nodup.length_le_of_subset nd (l₂ := begW few more) fun x hx => begW_mem hf h (hb x hx)
  rw [begW_len hf h] at z
  omega
theorem mul_a : (Txt.mul "a" 190).cps.toList = List.replicate 190 97 := by decide +kernel
theorem mul_b : ∀ n < 182, (Txt.mul "b" (n : Nat)).cps.toList = List.replicate n 98 := by decide +kernel
theorem mul_b150 : (Txt.mul "b" 150).cps.toList = List.replicate 150 98 := mul_b 150 (by decide)
theorem app_list (x y : Str) : (x ++ y).cps.toList = x.cps.toList ++ y.cps.toList := by
  show (x.cps ++ y.cps).toList = _
  simp
def wA (h : List Nat) : Str := toS h ++ Txt.mul "a" 190
def wB (h : List Nat) : Str := toS h ++ Txt.mul "b" 150
theorem long_a {more : Nat} (h : List Nat) : wA h = toS (wq more (h, false)) := str_ext (by
  unfold wA
  rw [app_list, toS_list, toS_list, mul_a]
  rfl)
theorem bh_ne : ∀ few ∈ F34, ∀ h ∈ bh few, h ≠ aaa := by decide +kernel
theorem long_b {few more : Nat} (hf : few ∈ F34) (h : List Nat) (hh : h ∈ bh few) : wB h = toS (wq more (h, true)) := str_ext (by
  unfold wB
  rw [app_list, toS_list, toS_list, mul_b150]
  have e : kq more h = 0 := if_neg (bh_ne few hf h hh)
  show _ = h ++ (if true = true then List.replicate (150 + kq more h) 98 else List.replicate 190 97)
  rw [e]
  rfl)
theorem long_l {more : Nat} (h : more < 32) : toS aaa ++ Txt.mul "b" ((150 + more : Nat) : Int) = toS (wq more (aaa, true)) := str_ext (by
  rw [app_list, toS_list, toS_list, mul_b (150 + more) (by omega)]
  have e : kq more aaa = more := if_pos rfl
  show _ = aaa ++ (if true = true then List.replicate (150 + kq more aaa) 98 else List.replicate 190 97)
  rw [e]
  rfl)
theorem map3 {α β : Type} (f : α × Bool → β) (A B : List α) (c : α × Bool) (gA gB : α → β) (z : β) (h1 : ∀ a ∈ A, gA a = f (a, false)) (h2 : ∀ b ∈ B, gB b = f (b, true)) (h3 : z = f c) :
    (A.map gA ++ B.map gB) ++ [z] = ((A.map fun h => (h, false)) ++ ((B.map fun h => (h, true)) ++ [c])).map f := by
  rw [List.map_append, List.map_append, List.map_map, List.map_map, List.map_congr_left h1, List.map_congr_left h2, h3, List.append_assoc]
  rfl
theorem long_eq {few more : Nat} (hf : few ∈ F34) (h : more < 32) : ((hd 3).map wA ++ (bh few).map wB) ++ [toS aaa ++ Txt.mul "b" ((150 + more : Nat) : Int)] = longW few more :=
  map3 (fun d => toS (wq more d)) (hd 3) (bh few) (aaa, true) wA wB _ (fun d _ => long_a d) (fun d hd => long_b hf d hd) (long_l h)
end SK
namespace SK
open PySem PySem.Spec PyProof.Rows L2 LamX NdefX ClX
open K0 (De DeAll XCl spX withX)
/-! ### long words, told -/
theorem Al.set1 {K : PySem.W.Frag} {H0 H : Hp} {σ : St} {te : TE} {i : Nat} {D : Ends} {d : PyData} (h : Al K H0 σ te d) (s : Same H0 H) (k : ∀ H' v, Same H H' → De K H' v d → D.nx (σ.set i (some v)) H') : tAsg te (gName i) D σ H := h H _ s k
theorem cutV_mid (xs : List V) (n : Nat) (h : n ≤ xs.length) (h1 : 1 ≤ n) : cutV xs (some (1 : Int)) (some (n : Int)) = (xs.take n).drop 1 := by
  have e1 : HT.sIx xs.length 0 (some (1 : Int)) = 1 := by
    have z := HT.sIx_nat (xs.length) 0 1
    have z : HT.sIx xs.length 0 (some (1 : Int)) = min 1 xs.length := z
    rw [z]
    omega
  unfold cutV
  rw [e1, HT.sIx_nat, Nat.min_eq_left h, List.drop_take]
theorem ab_ok : okLb ("ab" : Str) = true := by decide +kernel
theorem ab_asc : ("ab" : Str).cps.all (· < 128) = true ∧ ("ab" : Str).cps.size ≤ 1000 := by decide +kernel
def duePs (n : Nat) : PyData := .tuple [.str "places", .int n, .int 2000]
theorem places_shaped {n : Nat} : SeqAt.shaped (duePs n) = true := by
  have e : PyData.strOk (Str.ofString "places") = true := by decide +kernel
  unfold SeqAt.shaped duePs
  rw [Bool.and_eq_true, decide_eq_true_eq]
  exact ⟨by simp [PyData.canLay0, PyData.canLayAll0, e], by simp [PyData.depth, PyData.depthAll]⟩
theorem none_shaped : SeqAt.shaped (.tuple []) = true := by decide +kernel
theorem hd_facts : (∀ i < 4, (hd i).length ≤ 8) ∧ (∀ i < 4, ∀ h ∈ hd i, h.length ≤ 3) := by decide +kernel
theorem bh_facts : ∀ few ∈ F34, (bh few).length ≤ 8 ∧ (∀ h ∈ bh few, h.length ≤ 3) ∧ few ≤ (hd 3).length ∧ 3 ≤ few ∧ few ≤ 4 := by decide +kernel
theorem hd_first : (hd 3)[0]? = some aaa := by decide +kernel
theorem toS_len (h : List Nat) : (toS h).length = h.length := by
  show h.toArray.size = _
  simp
theorem len_a : (Txt.mul "a" 190).length = 190 := by
  have z := congrArg List.length mul_a
  rw [List.length_replicate, Array.length_toList] at z
  exact z
theorem len_b {n : Nat} (h : n < 182) : (Txt.mul "b" (n : Nat)).length = n := by
  have z := congrArg List.length (mul_b n h)
  rw [List.length_replicate, Array.length_toList] at z
  exact z
abbrev NLg : List Str := ["pen", "rule", "heads", "few", "turn", "more", "many", "due", "words", "head"]
def spLg (K : PySem.W.Frag) (CR : Addr) (T : List (Addr × Str)) : Sp := fun vs H Q _ => ∃ (p l : Addr) (ns : List Int) (k lf : Int) (x : V) (kr ko : List Kd), vs = [.ref p, x] ∧ PenAt H p l ns k lf ∧ ns.length ≤ 63 ∧ 0 ≤ k ∧ k ≤ 80000 ∧ 0 ≤ lf ∧ RuleF K CR H x kr ko ∧ kr.length ≤ 100 ∧ ko.length ≤ 100 ∧ exactB kr ko = true ∧ Tabs T H ∧ ∀ H', Q (.bl true) H'
section
variable {P : Program} {w : World} {K : PySem.W.Frag} {mg : Str → Option Value} {base : Heap} {f c Pt fD fPk fM fTo CT CR CX CW tE : Addr} {fd fdD fdPk fdM fdTo : FuncData} {C : Cs} {T : List (Addr × Str)}
theorem ok_lg (F : FunT K "_law_long" "_law_long" (top 57) f fd c) (TB : TabB base mg c Pt) (hmT : (Pt, ("_law_long" : Str) ++ ".<locals>." ++ "<lambda>") ∈ T) (hu : ∀ p ∈ T, p.1 = Pt → p.2 = ("_law_long" : Str) ++ ".<locals>." ++ "<lambda>")
    (RR : RuleK K CR) (X4 : Ex4 P w K mg base CX C CW tE) (gRp : mg "repr" = none) (gIs : mg "isinstance" = none) (hsys : ∃ o, K.lookup sysModules = some o) (gN : mg "len" = none) (gRg : mg "range" = none)
    (MTo : Meth K CR "tree_of" fTo) (GTo : FnOk P w K mg base (L2.CX P w) 9 fTo fdTo ["self", "letters", "words"] (spTo K CT CR C CW CX T)) (bTo : Binds K fdTo ["self", "letters", "words"] [])
    (gD : mg "_law_draw" = some (.ref fD)) (kD : PySem.W.keepIn K (.ref fD) = true) (GD : FnOk P w K mg base CX0 1 fD fdD ["pen", "many"] spDraw) (bD : Binds K fdD ["pen", "many"] [])
    (gPk : mg "_law_pick" = some (.ref fPk)) (kPk : PySem.W.keepIn K (.ref fPk) = true) (GPk : FnOk P w K mg base CX0 2 fPk fdPk ["pen", "items"] spPick) (bPk : Binds K fdPk ["pen", "items"] [])
    (gM : mg "_law_met" = some (.ref fM)) (FM : Fun K "_law_met" "_law_met" (top 50) fM fdM) (bM : Binds K fdM ["call"] []) :
    FnG P w K mg base CX0 12 f fd ["pen", "rule"] (spLg K CR T) := by
  have S0 : FnScope NLg ["pen", "rule"] (defScope (top 57)) := ⟨rfl, rfl, rfl, by decide +kernel, rfl, by decide +kernel, by decide +kernel⟩
  have nd := S0.nd
  obtain ⟨ocM, odM, kVM, docM, pmM, anM, cdvM, ctM, oslM, rfl, lkM, hcdM⟩ := FM.ex
  refine FunT.okG F S0 (fun vs H Q E h => ?_) (fun A outer s H vs Q E hg hr h => ?_)
  · obtain ⟨p, l, ns, k, lf, x, kr, ko, rfl, _⟩ := h
    rfl
  · obtain ⟨p, l, ns, k, lf, x, kr, ko, rfl, P0, hn, i0, i1, i2, hR, z1, z2, hE, hT, kk⟩ := h
    have hu64 := hr.units
    have hr1 : Room 1 _ := hr.mono (by decide)
    have hr2 : Room 2 _ := hr.mono (by decide)
    refine ⟨_, (pss_cons (ps_par (i := 2) (j := 3) rfl nd rfl rfl (by decide) rfl rfl (pa_cons (pe_lst (pa_cons pe_str pa_nil)) (pa_cons (pe_op op_add pe_int (pe_call GD hr1 (by rfl) gD kD bD .nil pass0 (pa_cons (pv 0) (pa_cons pe_int pa_nil)))) pa_nil)) rfl)
        (pss_cons (ps_for PassesOwn.never rfl (pi_range1 (by rfl) gRg (pa_cons pe_int pa_nil)) (pg_name (i := 4) nd rfl (Or.inl rfl)) (pss_one (ps_set (i := 2) nd rfl (Or.inl rfl) (pe_op op_cat (pe_lc (own := [("head", 9)]) (g := gName 9) (tt := tYes) rfl nd (pi_list (pv 2)) (blkOk_by (N := NLg) (sc := defScope (top 57)) (by decide +kernel)) (fun _ _ _ _ _ => pg_name (i := 9) nd rfl (Or.inl rfl)) (fun _ _ _ _ _ => pts_nil) (fun _ _ _ _ _ => (pe_op op_add_str (pv 9) pe_str))) (pe_lc (own := [("head", 9)]) (g := gName 9) (tt := tYes) rfl nd (pi_list (pv 2)) (blkOk_by (N := NLg) (sc := defScope (top 57)) (by decide +kernel)) (fun _ _ _ _ _ => pg_name (i := 9) nd rfl (Or.inl rfl)) (fun _ _ _ _ _ => pts_nil) (fun _ _ _ _ _ => (pe_op op_add_str (pv 9) pe_str)))))))
        (pss_cons (ps_asg (pe_tup (pa_cons (pe_lc (own := [("head", 9)]) (g := gName 9) (tt := tYes) rfl nd (pi_list (pv 2)) (blkOk_by (N := NLg) (sc := defScope (top 57)) (by decide +kernel)) (fun _ _ _ _ _ => pg_name (i := 9) nd rfl (Or.inl rfl)) (fun _ _ _ _ _ => pts_nil) (fun _ _ _ _ _ => (pe_op op_add_str (pv 9) (pe_op op_mulS pe_str pe_int)))) (pa_cons (pe_call GPk hr2 (by rfl) gPk kPk bPk .nil pass0 (pa_cons (pv 0) (pa_cons (pe_lst (pa_cons pe_int (pa_cons pe_int (pa_cons (pe_call GD hr1 (by rfl) gD kD bD .nil pass0 (pa_cons (pv 0) (pa_cons pe_int pa_nil))) pa_nil)))) pa_nil))) pa_nil))) (pg_tup rfl (pgs_cons (pg_name (i := 8) nd rfl (Or.inr rfl)) (pgs_cons (pg_name (i := 5) nd rfl (Or.inl rfl)) pgs_nil))))
        (pss_cons (ps_set (i := 8) nd rfl (Or.inr rfl) (pe_op op_cat (pe_op op_cat (pv 8) (pe_lc (own := [("head", 9)]) (g := gName 9) (tt := tYes) rfl nd (pi_list (pe_slice sl_list (pv 2) (po_some pe_int) (po_some (pv 3)))) (blkOk_by (N := NLg) (sc := defScope (top 57)) (by decide +kernel)) (fun _ _ _ _ _ => pg_name (i := 9) nd rfl (Or.inl rfl)) (fun _ _ _ _ _ => pts_nil) (fun _ _ _ _ _ => (pe_op op_add_str (pv 9) (pe_op op_mulS pe_str pe_int))))) (pe_lst (pa_cons (pe_op op_add_str (pe_ix ix_seq (pv 2) pe_int (fun _ _ => rfl)) (pe_op op_mulS pe_str (pe_op op_add pe_int (pv 5)))) pa_nil))))
        (pss_cons (ps_set (i := 6) nd rfl (Or.inl rfl) (pe_op op_add (pe_op op_add (pe_op op_add pe_int (pe_op op_mul pe_int pe_int)) (pe_op op_mul (pv 3) pe_int)) (pv 5)))
        (pss_cons (ps_set (i := 7) nd rfl (Or.inl rfl) (pe_ifExp (pt_cmpR op_le (pv 6) pe_int (nomark _)) (pe_tup pa_nil) (pe_tup (pa_cons pe_str (pa_cons (pv 6) (pa_cons pe_int pa_nil))))))
        (pss_cons (ps_if (pt_cmpR (op_neD hu64) (pe_lamcall (T := T) (a := "call") (Ng := ["call", "e"]) (k := 9) (t := fun E => tMeth CR "tree_of" (spTo K CT CR C CW CX T) [] E (tVar 1) (tCons (tC (.str "ab")) (tCons (tOp rCat (tVar 8) (tLst (tCons (tC .non) tNil))) tNil)))
              (by rfl) gM FM.kp lkM hcdM bM scMet rfl (.inl rfl) (met_gives X4 gRp gIs hsys hg hr2) TB rfl hmT hu hr (lamS_by (show lamSB (defScope (top 57)) _ = true by decide +kernel)) rfl (fun _ _ _ _ _ => rfl)
              (fun A outer s H E f c' hrk => pe_meth (pv 1) RR.cl MTo GTo hrk bTo .nil (passes_call (takes_of rfl rfl rfl rfl) (fun _ _ _ _ h => h)) (pa_cons pe_str (pa_cons (pe_op op_cat (pv 8) (pe_lst (pa_cons pe_non pa_nil))) pa_nil)))) (pe_tup (pa_cons pe_str (pa_cons (pe_callB call_len_seq (by rfl) gN PySem.boot_len (pa_cons (pv 8) pa_nil)) pa_nil))) (nomark _)) (pss_one (ps_ret pe_bl)) pss_nil)
        (pss_one (ps_ret (pe_cmpR (op_eqD hu64) (pe_lamcall (T := T) (a := "call") (Ng := ["call", "e"]) (k := 9) (t := fun E => tMeth CR "tree_of" (spTo K CT CR C CW CX T) [] E (tVar 1) (tCons (tC (.str "ab")) (tCons (tVar 8) tNil)))
              (by rfl) gM FM.kp lkM hcdM bM scMet rfl (.inl rfl) (met_gives X4 gRp gIs hsys hg hr2) TB rfl hmT hu hr (lamS_by (show lamSB (defScope (top 57)) _ = true by decide +kernel)) rfl (fun _ _ _ _ _ => rfl)
              (fun A outer s H E f c' hrk => pe_meth (pv 1) RR.cl MTo GTo hrk bTo .nil (passes_call (takes_of rfl rfl rfl rfl) (fun _ _ _ _ h => h)) (pa_cons pe_str (pa_cons (pv 8) pa_nil)))) (pv 7) (nomark _))))))))))), ?_⟩
    have b2 : (5000 : Nat) < sizeLine := by decide
    obtain ⟨hdl, hdz⟩ := hd_facts
    refine ⟨(by show 1 ≤ sizeLine; decide), fun b nb => ?_⟩
    have s0 := upd_new (o := .lst [.str ""]) nb
    have hb0 : upd H b (.lst [.str ""]) b = some (.lst [.str ""]) := upd_same
    generalize upd H b (.lst [.str ""]) = G0 at s0 hb0
    refine ⟨V.ref p, rfl, p, l, ns, k, lf, 2, rfl, ⟨s0 _ _ P0.dc, s0 _ _ P0.ls⟩, hn, i0, by omega, i2, by decide, by decide, fun G1 k1 lf1 d g1 g2 g3 g4 g5 s1 P1 => ?_⟩
    obtain ⟨few, hf, ef⟩ : ∃ few : Nat, few ∈ F34 ∧ 3 + d = (few : Int) := by
      have : d = 0 ∨ d = 1 := by omega
      rcases this with rfl | rfl
      · exact ⟨3, by decide, rfl⟩
      · exact ⟨4, by decide, rfl⟩
    refine ⟨3, d, rfl, rfl, ?_⟩
    have nbp : b ≠ p := ne_of hb0 (s0 _ _ P0.dc) (by intro z; cases z)
    have hb1 := s1 _ _ nbp hb0
    have K1 : Kx H G1 := (Kx.of s0).trans (Kx.but ⟨s0 _ _ P0.dc, s0 _ _ P0.ls⟩ s1)
    have T1 := Tabs.pen (hT.ext s0) (s0 _ _ P0.dc) s1
    refine ⟨_, _, rfl, ?_⟩
    refine ⟨3, rfl, by decide, by decide, for_it walk_range (fun i σ G => ∃ (x4 : Option V) (b : Addr), σ = [some (.ref p), some x, some (.ref b), some (.int few), x4, none, none, none, none, none] ∧ Same G1 G ∧ G b = some (.lst (((hd i).map toS).map V.str)))
      ⟨none, b, by rw [← ef]; rfl, Same.refl _, hb1⟩ (fun _ _ _ _ _ => trivial) ?_ ?_⟩
    · rintro i x' σ G G' hi ⟨x4, b1, rfl, sG, hb1⟩ ⟨rfl, rfl⟩
      have hi4 : i < 3 := hi
      have hl16 := hdl i (by omega)
      have lcEnd : ∀ (y : Str) (cc : Nat), y.cps.toList = [cc] → (((hd i).map toS).filter (fun _ => true)).map (fun z => V.str (z ++ y)) = (((hd i).map (· ++ [cc])).map toS).map V.str := fun y cc hy => by
        rw [filt_true, List.map_map, List.map_map, List.map_map]
        refine List.map_congr_left fun h _ => congrArg V.str (str_ext ?_)
        show (toS h ++ y).cps.toList = (toS (h ++ [cc])).cps.toList
        rw [app_list, toS_list, toS_list, hy]
      have bnd : ∀ (y : Str), y.length = 1 → ∀ z ∈ (hd i).map toS, z.length + y.length ≤ sizeLine := fun y hy z hz => by
        obtain ⟨h, hh, rfl⟩ := List.mem_map.mp hz
        have q := hdz i (by omega) h hh
        have e := toS_len h
        omega
      refine Al.set1 (K := K) (H0 := G') (d := .list (((hd (i + 1)).map toS).map PyData.str)) (by
        have e : ((hd (i + 1)).map toS).map PyData.str = (((hd i).map (· ++ [97])).map toS).map PyData.str ++ (((hd i).map (· ++ [98])).map toS).map PyData.str := by
          show ((((hd i).map (· ++ [97]) ++ (hd i).map (· ++ [98])).map toS).map PyData.str) = _
          rw [List.map_append, List.map_append]
        rw [e]
        refine al_cat (fun H R s kq => ?_) (fun H R s kq => ?_) (by simp only [List.length_map]; omega)
        · refine ⟨V.ref b1, rfl, b1, rfl, ⟨_, .inl (.inl (s _ _ hb1))⟩, fun D1 nD1 => lcF_list (K := K) (ws := (hd i).map toS) V.str nD1 (fun y => V.str (y ++ (Str.ofString "a"))) (fun _ => true) (.inl (.inl (s _ _ hb1))) (by rw [List.length_map]; omega) (fun j y G hy sG A B kA kB => ?_) fun G sG hD1 => ?_⟩
          · exact ⟨rfl, V.str y, rfl, y, Str.ofString "a", rfl, rfl, bnd _ (by decide) y (List.mem_of_getElem? hy), kA rfl⟩
          · rw [lcEnd _ 97 (by decide +kernel)] at hD1
            exact kq G (.ref D1) sG (.lst hD1 (deAll_strs _))
        · refine ⟨V.ref b1, rfl, b1, rfl, ⟨_, .inl (.inl (s _ _ hb1))⟩, fun D1 nD1 => lcF_list (K := K) (ws := (hd i).map toS) V.str nD1 (fun y => V.str (y ++ (Str.ofString "b"))) (fun _ => true) (.inl (.inl (s _ _ hb1))) (by rw [List.length_map]; omega) (fun j y G hy sG A B kA kB => ?_) fun G sG hD1 => ?_⟩
          · exact ⟨rfl, V.str y, rfl, y, Str.ofString "b", rfl, rfl, bnd _ (by decide) y (List.mem_of_getElem? hy), kA rfl⟩
          · rw [lcEnd _ 98 (by decide +kernel)] at hD1
            exact kq G (.ref D1) sG (.lst hD1 (deAll_strs _))) (Same.refl _) fun G3 v s3 hd3 => ?_
      cases hd3 with
      | @lst a3 xs3 _ ha3 hds3 =>
      have ev := de_strs (fun d hd => by obtain ⟨y, _, rfl⟩ := List.mem_map.mp hd; rfl) hds3
      rw [map_strOf] at ev
      subst ev
      exact ⟨_, a3, rfl, sG.trans s3, ha3⟩
    rintro σ G3 ⟨x4, b1, rfl, s3, hb3⟩
    have hb3 : G3 b1 = some (.lst (((hd 3).map toS).map V.str)) := hb3
    have hl3 := hdl 3 (by decide)
    obtain ⟨bl8, bz3, fl8, f3, f4⟩ := bh_facts few hf
    have P3 : PenAt G3 p l ns k1 lf1 := ⟨s3 _ _ P1.dc, s3 _ _ P1.ls⟩
    have K3 := K1.trans (Kx.of s3)
    have T3 := T1.ext s3
    have lA := len_a
    refine ⟨V.ref b1, rfl, b1, rfl, ⟨_, .inl (.inl hb3)⟩, fun D nD => lcF_list (K := K) (ws := (hd 3).map toS) V.str nD (fun y => V.str (y ++ Txt.mul "a" 190)) (fun _ => true) (.inl (.inl hb3)) (by rw [List.length_map]; omega) (fun j y G hy sG A B kA kB => ?_) fun G4 s4 hD => ?_⟩
    · obtain ⟨h, hh, rfl⟩ := List.mem_map.mp (List.mem_of_getElem? hy)
      have z := toS_len h
      have z2 := hdz 3 (by decide) h hh
      exact ⟨rfl, V.str (toS h), rfl, Str.ofString "a", 190, rfl, rfl, by decide, by decide, by decide, toS h, Txt.mul "a" 190, rfl, rfl, by omega, kA rfl⟩
    have eW : (((hd 3).map toS).filter (fun _ => true)).map (fun y => V.str (y ++ Txt.mul "a" 190)) = ((hd 3).map wA).map V.str := by
      rw [filt_true, List.map_map, List.map_map]
      rfl
    rw [eW] at hD
    have P4 : PenAt G4 p l ns k1 lf1 := ⟨s4 _ _ P3.dc, s4 _ _ P3.ls⟩
    refine ⟨V.ref p, rfl, V.ref p, rfl, p, l, ns, k1, lf1, 32, rfl, P4, hn, g2, by omega, g3, by decide, by decide, fun G5 k5 lf5 m m1 m2 m3 m4 m5 s5 P5 => ?_⟩
    have K5 := K3.trans ((Kx.of s4).trans (Kx.but P4 s5))
    have T5 := Tabs.pen (T3.ext s4) P4.dc s5
    have nDp : D ≠ p := ne_of hD P4.dc (by intro z; cases z)
    have nb1p : b1 ≠ p := ne_of hb3 P3.dc (by intro z; cases z)
    have hD5 := s5 _ _ nDp hD
    have hb5 := s5 _ _ nb1p (s4 _ _ hb3)
    refine ⟨(by show 3 ≤ sizeLine; decide), fun q nq => ?_⟩
    have s6 := upd_new (o := .lst [.int 15, .int 16, .int m]) nq
    have hq6 : upd G5 q (.lst [.int 15, .int 16, .int m]) q = some (.lst [.int 15, .int 16, .int m]) := upd_same
    generalize upd G5 q (.lst [.int 15, .int 16, .int m]) = G6 at s6 hq6
    have P6 : PenAt G6 p l ns k5 lf5 := ⟨s6 _ _ P5.dc, s6 _ _ P5.ls⟩
    refine ⟨p, l, .ref q, ns, k5, lf5, [.int 15, .int 16, .int m], rfl, P6, hn, m2, by omega, m3, .inl ⟨q, rfl, hq6⟩, (by show 0 < 3; decide), (by show 3 ≤ 1000; decide), fun G7 k7 lf7 y e1 e2 e3 hy s7 P7 => ?_⟩
    obtain ⟨more, hm, rfl⟩ : ∃ more : Nat, more < 32 ∧ y = .int (more : Int) := by
      simp only [List.mem_cons, List.mem_nil_iff, or_false] at hy
      rcases hy with rfl | rfl | rfl
      · exact ⟨15, by decide, rfl⟩
      · exact ⟨16, by decide, rfl⟩
      · exact ⟨m.toNat, by omega, by rw [Int.toNat_of_nonneg m4]⟩
    have K7 := K5.trans ((Kx.of s6).trans (Kx.but P6 s7))
    have T7 := Tabs.pen (T5.ext s6) P6.dc s7
    have hD7 := s7 _ _ nDp (s6 _ _ hD5)
    have hb7 := s7 _ _ nb1p (s6 _ _ hb5)
    refine ⟨(by show 2 ≤ sizeLine; decide), fun ut nut => ?_⟩
    have s8 := upd_new (o := .tup [.ref D, .int more]) nut
    have hut : upd G7 ut (.tup [.ref D, .int more]) ut = some (.tup [.ref D, .int more]) := upd_same
    generalize upd G7 ut (.tup [.ref D, .int more]) = G8 at s8 hut
    refine ⟨ut, _, rfl, .inl (.inl hut), rfl, _, _, rfl, _, _, rfl, rfl, ?_⟩
    have K8 := K7.trans (Kx.of s8)
    have T8 := T7.ext s8
    have hD8 := s8 _ _ hD7
    have hb8 := s8 _ _ hb7
    have e150 : (150 + (more : Int)) = ((150 + more : Nat) : Int) := by omega
    have lB := len_b (n := 150 + more) (by omega)
    have lB0 : (Txt.mul "b" 150).length = 150 := len_b (n := 150) (by decide)
    have hlong := long_eq hf hm
    have eM : (15 + 8 * 190 + (few : Int) * 150 + (more : Int)) = ((15 + 8 * 190 + few * 150 + more : Nat) : Int) := by omega
    try dsimp only
    refine Al.set (K := K) (H0 := G8) (d := .list ((longW few more).map PyData.str)) (by
      rw [← hlong, List.map_append, List.map_append]
      refine al_cat (al_cat (al_var (i := 8) rfl (.lst hD8 (deAll_strs _))) (fun H R s kq => ?_) (by rw [List.length_map, List.length_map, List.length_map, List.length_map]; omega)) (al_lst (al_cons (fun H R s kq => ?_) al_nil) (by show 1 ≤ 1000; decide)) (by
        rw [List.length_append, List.length_map, List.length_map, List.length_map, List.length_map]
        show _ + _ + 1 ≤ 1000
        omega)
      · refine ⟨V.ref b1, rfl, 1, rfl, V.int few, rfl, (few : Int), rfl, b1, ((hd 3).map toS).map V.str, rfl, .inl (.inl (s _ _ hb8)), fun q nq => ?_⟩
        rw [cutV_mid _ _ (by rw [List.length_map, List.length_map]; exact fl8) (by omega), ← List.map_take, ← List.map_take, ← List.map_drop, ← List.map_drop]
        have sq := upd_new (o := .lst (((bh few).map toS).map V.str)) nq
        have hq : upd H q (.lst (((bh few).map toS).map V.str)) q = some (.lst (((bh few).map toS).map V.str)) := upd_same
        show ∃ a, V.ref q = .ref a ∧ _
        refine ⟨q, rfl, ⟨_, .inl (.inl hq)⟩, fun D2 nD2 => lcF_list (K := K) (ws := (bh few).map toS) V.str nD2 (fun y => V.str (y ++ Txt.mul "b" 150)) (fun _ => true) (.inl (.inl hq)) (by rw [List.length_map]; omega) (fun j y G hy sG A B kA kB => ?_) fun G sG hD2 => ?_⟩
        · obtain ⟨h, hh, rfl⟩ := List.mem_map.mp (List.mem_of_getElem? hy)
          have z := toS_len h
          have z2 := bz3 h hh
          exact ⟨rfl, V.str (toS h), rfl, Str.ofString "b", 150, rfl, rfl, by decide, by decide, by decide, toS h, Txt.mul "b" 150, rfl, rfl, by omega, kA rfl⟩
        · have eB : (((bh few).map toS).filter (fun _ => true)).map (fun y => V.str (y ++ Txt.mul "b" 150)) = ((bh few).map wB).map V.str := by
            rw [filt_true, List.map_map, List.map_map]
            rfl
          rw [eB] at hD2
          exact kq G (.ref D2) (sq.trans sG) (.lst hD2 (deAll_strs _))
      · have hix : (((hd 3).map toS).map V.str)[0]? = some (V.str (toS aaa)) := by
          rw [List.getElem?_map, List.getElem?_map, hd_first]
          rfl
        refine ⟨V.ref b1, rfl, .inl ⟨b1, ((hd 3).map toS).map V.str, _, V.str (toS aaa), rfl, rfl, .inl (.inl (s _ _ hb8)), atI_nat (j := 0) hix, V.int more, rfl, 150, _, rfl, rfl, Str.ofString "b", _, rfl, rfl, by decide, by omega, by omega, toS aaa, Txt.mul "b" (150 + (more : Int)), rfl, rfl, ?_, kq H _ (Same.refl _) ?_⟩⟩
        · have z : (toS aaa).length = 3 := by decide +kernel
          rw [e150, z, lB]
          omega
        · rw [e150]
          exact .str _) (Same.refl _) fun G9 v9 s9 hd9 => ?_
    cases hd9 with
    | @lst a9 xs9 _ ha9 hds9 =>
    have ev := de_strs (fun d hd => by obtain ⟨y, _, rfl⟩ := List.mem_map.mp hd; rfl) hds9
    rw [map_strOf] at ev
    subst ev
    have K9 := K8.trans (Kx.of s9)
    have T9 := T8.ext s9
    have ho := long_over hf hm
    have hnd := long_nd hf hm
    have hll : (longW few more).length = 8 + few := by
      unfold longW
      rw [List.length_map]
      exact long_n few hf
    have hnb := nob_long hf hm
    have hcp := long_caps hf hm
    have f34 : 3 ≤ few ∧ few ≤ 4 := ⟨f3, f4⟩
    generalize longW few more = ws at ha9 hds9 ho hnd hll hnb hcp
    generalize hN : 15 + 8 * 190 + few * 150 + more = N at eM hnb hcp
    refine ⟨8, 190, rfl, rfl, .inl ⟨by decide, by decide⟩, 15, _, rfl, rfl, V.int few, rfl, (few : Int), 150, rfl, rfl, .inl ⟨by omega, by omega⟩, _, _, rfl, rfl, V.int more, rfl, _, _, rfl, rfl, ?_⟩
    obtain ⟨dueD, hdue⟩ : ∃ dueD : PyData, dueD = if N ≤ 2000 then .tuple [] else duePs N := ⟨_, rfl⟩
    try dsimp only
    refine Al.set (K := K) (H0 := G9) (d := dueD) (fun H R s kq => ?_) (Same.refl _) fun G10 v10 s10 hd10 => ?_
    · refine ⟨V.int (15 + 8 * 190 + (few : Int) * 150 + (more : Int)), rfl, _, 2000, rfl, rfl, _, rfl, ite2 (fun cc => ?_) (fun cc => ?_)⟩
      · have cc := of_decide_eq_true cc
        have e : dueD = .tuple [] := by rw [hdue, if_pos (by omega)]
        refine ⟨Nat.zero_le _, fun q nq => kq _ _ (upd_new nq) ?_⟩
        rw [e]
        exact .tup upd_same .nil
      · have cc : ¬ N ≤ 2000 := fun z => cc (decide_eq_true (by omega))
        have e : dueD = duePs N := by rw [hdue, if_neg cc]
        refine ⟨V.int (15 + 8 * 190 + (few : Int) * 150 + (more : Int)), rfl, (by show 3 ≤ sizeLine; decide), fun q nq => kq _ _ (upd_new nq) ?_⟩
        rw [e]
        have z : ∀ (Hz : Hp) (i : Int), i = ((N : Nat) : Int) → De K Hz (V.int i) (.int ((N : Nat) : Int)) := fun Hz i h => h ▸ .int _
        exact .tup upd_same (.cons (.str _) (.cons (z _ _ eM) (.cons (.int _) .nil)))
    have ha10 := s10 _ _ ha9
    have K10 := K9.trans (Kx.of s10)
    have T10 := T9.ext s10
    have hfitL : TxtFit (ws.map PyData.str) := fit_strs fun y hy => Nat.le_trans (ho y hy).1 (by decide)
    -- one word more that is none
    refine ⟨T10, fun G11 e11 T11 => ?_⟩
    have ha11 := e11 _ _ ha10 fun _ z => nomatch z
    have hR11 := hR.kx (K10.trans (Kx.ext e11))
    obtain ⟨ra, rdx, fs, r1, r2, rfl, hra, RP⟩ := id hR11
    refine ⟨V.ref ra, rfl, ra, rdx, fs, rfl, hra, RP.no _ (by decide) (by decide), ?_⟩
    refine al_cat (K := K) (H0 := G11) (al_var (i := 8) (d := .list (ws.map PyData.str)) rfl (.lst ha11 (deAll_strs _))) (al_lst (al_cons al_non al_nil) (by show 1 ≤ 1000; decide)) (by rw [List.length_map, hll]; show _ + 1 ≤ 1000; omega) G11 _ (Same.refl _) fun G12 v12 s12 hd12 => ?_
    have hlen : (ws.map PyData.str ++ [PyData.none]).length = 8 + few + 1 := by
      rw [List.length_append, List.length_map, hll]
      rfl
    have hsc : wscan "ab" [] 0 (ws.map PyData.str ++ [PyData.none]) = some ws.length := wscan_bad ho hnd (fun z => by cases z.1)
    have hft : TxtFit (ws.map PyData.str ++ [PyData.none]) := fun x hx => by
      rcases List.mem_append.mp hx with hx | hx
      · exact hfitL x hx
      · simp at hx
    generalize ws.map PyData.str ++ [PyData.none] = dd at hd12 hlen hsc hft
    cases hd12 with
    | @lst a12 xs12 _ ha12 hds12 =>
    refine to_bad (x := .ref ra) (ls := "ab") (hR11.kx (Kx.of s12)) z1 z2 hE ab_ok ab_asc (.inl ha12) hds12 hft (by rw [deAll_len hds12, hlen]; omega) (T11.ext s12) (i := ws.length) hsc fun H' dx' e13 T13 hx => .inr (.inr (.inl ⟨dx', ((ws.length : Nat) : Int), rfl, rfl, hx, fun r nr => ?_⟩))
    have s14 := upd_new (o := .tup [.str "word", .int ((ws.length : Nat) : Int)]) nr
    have hr14 : upd H' r (.tup [.str "word", .int ((ws.length : Nat) : Int)]) r = some (.tup [.str "word", .int ((ws.length : Nat) : Int)]) := upd_same
    generalize upd H' r (.tup [.str "word", .int ((ws.length : Nat) : Int)]) = G14 at s14 hr14
    have e114 : ExtN G10 G14 := e11.trans ((ExtN.of s12).trans (e13.trans (ExtN.of s14)))
    refine ⟨V.ref a9, rfl, a9, ws.map V.str, rfl, .inl (.inl (.inl (e114 _ _ ha10 fun _ z => nomatch z))), (by show 2 ≤ sizeLine; decide), fun u nu => ?_⟩
    rw [List.length_map]
    have s15 := upd_new (o := .tup [.str "word", .int ((ws.length : Nat) : Int)]) nu
    have hu15 : upd G14 u (.tup [.str "word", .int ((ws.length : Nat) : Int)]) u = some (.tup [.str "word", .int ((ws.length : Nat) : Int)]) := upd_same
    have hr15 := s15 _ _ hr14
    generalize upd G14 u (.tup [.str "word", .int ((ws.length : Nat) : Int)]) = G15 at s15 hu15 hr15
    have wsh := word_shaped (n := ws.length)
    have dpw : ∀ {u : Addr}, G15 u = some (.tup [.str "word", .int ((ws.length : Nat) : Int)]) → Dp K G15 (.ref u) (twoD "word" (.int ((ws.length : Nat) : Int))) := fun {u} hu => .tup (.inl (.inl hu)) (.cons (.str _) (.cons (.int _) .nil))
    refine ⟨twoD "word" (.int ((ws.length : Nat) : Int)), twoD "word" (.int ((ws.length : Nat) : Int)), dpw hr15, dpw hu15, wsh, wsh, _, rfl, fls (eqv_self wsh) ?_⟩
    have e1015 : ExtN G10 G15 := e114.trans (ExtN.of s15)
    have T15 := (T13.ext s14).ext s15
    -- as many places as there can be, and more
    refine ⟨T15, fun G16 e16 T16 => ?_⟩
    have e1016 := e1015.trans e16
    have ha16 := e1016 _ _ ha10 fun _ z => nomatch z
    have hd16 : De K G16 v10 dueD := de_ext e1016 hd10
    have hR16 := hR.kx (K10.trans (Kx.ext e1016))
    obtain ⟨ra', rdx', fs', r1', r2', er, hra', RP'⟩ := id hR16
    injection er with er
    subst er
    refine ⟨V.ref ra, rfl, ra, rdx', fs', rfl, hra', RP'.no _ (by decide) (by decide), V.ref a9, rfl, ?_⟩
    have b3 : ∀ (G : Hp), De K G v10 (.tuple []) → Dp K G v10 (.tuple []) := fun G h => by
      cases h with
      | tup ha hd =>
        cases hd
        exact .tup (.inl (.inl ha)) .nil
    have b4 : ∀ (G : Hp) (n : Nat), De K G v10 (duePs n) → Dp K G v10 (duePs n) := fun G n h => by
      have h : De K G v10 (.tuple [.str "places", .int n, .int 2000]) := h
      cases h with
      | tup ha hd =>
        cases hd with
        | cons h1 hd =>
          cases hd with
          | cons h2 hd =>
            cases hd with
            | cons h3 hd =>
              cases hd
              cases h1
              cases h2
              cases h3
              exact .tup (.inl (.inl ha)) (.cons (.str _) (.cons (.int _) (.cons (.int _) .nil)))
    by_cases hmc : N ≤ 2000
    · have e : dueD = .tuple [] := by rw [hdue, if_pos hmc]
      rw [e] at hd16
      refine to_fine (x := .ref ra) (ls := "ab") hR16 z1 z2 hE ab_ok ab_asc (.inl ha16) ho hnd (by omega) (by omega) (hcp hmc) T16 fun H' x bs e17 T17 _ _ _ _ => ⟨Nat.zero_le _, fun r nr => ?_⟩
      have s18 := upd_new (o := .tup []) nr
      have hr18 : upd H' r (.tup []) r = some (.tup []) := upd_same
      generalize upd H' r (.tup []) = G20 at s18 hr18
      refine ⟨v10, rfl, .tuple [], .tuple [], .tup (.inl (.inl hr18)) .nil, b3 _ (de_mono s18 _ _ (de_ext e17 hd16)), none_shaped, none_shaped, ?_⟩
      rw [eqv_self none_shaped]
      exact kk _
    · have e : dueD = duePs N := by rw [hdue, if_neg hmc]
      rw [e] at hd16
      refine to_many (x := .ref ra) (ls := "ab") hR16 z1 z2 hE ab_ok ab_asc (.inl ha16) ho hnd (by omega) (by omega) T16 fun H' dx' e17 T17 hx => .inr (.inr (.inr ⟨dx', nob ws, rfl, rfl, hx, fun r nr => ?_⟩))
      rw [hnb]
      have s18 := upd_new (o := .tup [.str "places", .int ((N : Nat) : Int), .int 2000]) nr
      have hr18 : upd H' r (.tup [.str "places", .int ((N : Nat) : Int), .int 2000]) r = some (.tup [.str "places", .int ((N : Nat) : Int), .int 2000]) := upd_same
      generalize upd H' r (.tup [.str "places", .int ((N : Nat) : Int), .int 2000]) = G20 at s18 hr18
      have psh := places_shaped (n := N)
      refine ⟨v10, rfl, duePs N, duePs N, .tup (.inl (.inl hr18)) (.cons (.str _) (.cons (.int _) (.cons (.int _) .nil))), b4 _ _ (de_mono s18 _ _ (de_ext e17 hd16)), psh, psh, ?_⟩
      rw [eqv_self psh]
      exact kk _
end
end SK
namespace SK
open PySem PySem.Spec PyProof.Rows L2 LamX NdefX ClX
open K0 (De DeAll XCl spX withX)
/-! ### the law -/
theorem srtKd_mem {ks : List Kd} : (srtKd ks).Perm ks := List.mergeSort_perm _ _
theorem kdD_kOf (ks : List Kd) : (ks.map kdD).map kOf = ks := by
  rw [List.map_map]
  exact List.map_id'' (fun _ => rfl) ks
theorem RL.lst {H : Hp} {q : Addr} {ps : PK} (h : RL H q ps) : LstK emp q (kds ps) H := ⟨ps, h.at_, h.ks, rfl, fun _ _ e => nomatch e⟩
theorem ofS_rev (ls : Str) (bs ws : List Str) : ofS ls bs ws.reverse = ofS ls bs ws := by
  unfold ofS
  refine List.map_congr_left fun p _ => ?_
  unfold mkS
  simp only [List.mem_reverse]
theorem beg_rev {ws : List Str} {x : Str} : isBeg ws.reverse x ↔ isBeg ws x := by
  unfold isBeg
  simp only [List.mem_reverse]
theorem kn_exact : ∀ n ∈ four, exactB (knR n) (knO n) = decide (n ∈ (["plain", "joined"] : List Str)) ∧ (knR n).length ≤ 100 ∧ (knO n).length ≤ 100 := by decide +kernel
theorem kn_exactS {n : Str} (h : n ∈ four) : exactB (srtKd (knR n)) (srtKd (knO n)) = decide (n ∈ (["plain", "joined"] : List Str)) ∧ (srtKd (knR n)).length ≤ 100 ∧ (srtKd (knO n)).length ≤ 100 := by
  obtain ⟨h1, h2, h3⟩ := kn_exact n h
  refine ⟨?_, by rw [srtKd_mem.length_eq]; exact h2, by rw [srtKd_mem.length_eq]; exact h3⟩
  rw [← h1]
  exact exact_perm srtKd_mem srtKd_mem
def notD : PyData := .tuple [.str "not exact", .bool true]
theorem not_shaped : SeqAt.shaped notD = true := by decide +kernel
abbrev NLw : List Str := ["script", "pen", "turn", "root", "others", "due", "letters", "words", "handed", "tree", "exact", "rule", "name"]
def spLaw (K : PySem.W.Frag) (T : List (Addr × Str)) : Sp := fun vs H Q _ => ∃ (a : Addr) (ns : List Int), vs = [.ref a] ∧ SqL K H a (ns.map V.int) ∧ ns.length ≤ 63 ∧ Tabs T H ∧ ∀ H', Q (.bl true) H'
section
variable {P : Program} {w : World} {K : PySem.W.Frag} {mg : Str → Option Value} {base : Heap} {f c Pt fI fE fPen fNe fIe fSix fSw fIt fRe fLg fPk fKn fM fTo fEx CT CR CX CW CK CB tE : Addr} {fd fdI fdE fdPen fdNe fdIe fdSix fdSw fdIt fdRe fdLg fdPk fdKn fdM fdTo fdEx : FuncData} {C : Cs} {T : List (Addr × Str)}
theorem ok_law (F : FunT K "law" "law" (top 58) f fd c) (TB : TabB base mg c Pt) (hmT : (Pt, ("law" : Str) ++ ".<locals>." ++ "<lambda>") ∈ T) (hu : ∀ p ∈ T, p.1 = Pt → p.2 = ("law" : Str) ++ ".<locals>." ++ "<lambda>")
    (X4 : Ex4 P w K mg base CX C CW tE) (gRp : mg "repr" = none) (gIs : mg "isinstance" = none) (hsys : ∃ o, K.lookup sysModules = some o) (gRg : mg "range" = none) (gLs : mg "list" = none) (gTu : mg "tuple" = none) (RT : TreeK K CT) (RR : RuleK K CR)
    (gR : mg "Rule" = some (.ref CR)) (M : Mk K CR fI) (GI : FnOk P w K mg base (L2.CX P w) 4 fI fdI ["self", "root", "others"] (spInitRG K CR CK)) (bI : Binds K fdI ["self", "root", "others"] [])
    (ME : Has K CT "__eq__" fE) (GE : FnOk P w K mg base (L2.CX P w) 1 fE fdE ["self", "other"] (spEqT K CT)) (bE : Binds K fdE ["self", "other"] [])
    (MTo : Meth K CR "tree_of" fTo) (GTo : FnOk P w K mg base (L2.CX P w) 9 fTo fdTo ["self", "letters", "words"] (spTo K CT CR C CW CX T)) (bTo : Binds K fdTo ["self", "letters", "words"] [])
    (MEx : Meth K CR "is_exact" fEx) (GEx : FnOk P w K mg base CX0 2 fEx fdEx ["self"] (spEx K CR)) (bEx : Binds K fdEx ["self"] [])
    (gPen : mg "_law_pen_of" = some (.ref fPen)) (kPen : PySem.W.keepIn K (.ref fPen) = true) (GPen : FnOk P w K mg base CX0 1 fPen fdPen ["script"] (spPen K)) (bPen : Binds K fdPen ["script"] [])
    (gNe : mg "_law_near_exact" = some (.ref fNe)) (kNe : PySem.W.keepIn K (.ref fNe) = true) (GNe : FnOk P w K mg base CX0 3 fNe fdNe ["pen"] spNe) (bNe : Binds K fdNe ["pen"] [])
    (gIe : mg "_law_is_exact" = some (.ref fIe)) (kIe : PySem.W.keepIn K (.ref fIe) = true) (GIe : FnOk P w K mg base CX0 4 fIe fdIe ["root", "others"] (spIe K)) (bIe : Binds K fdIe ["root", "others"] [])
    (gSix : mg "_law_letters_of" = some (.ref fSix)) (kSix : PySem.W.keepIn K (.ref fSix) = true) (GSix : FnOk P w K mg base CX0 3 fSix fdSix ["pen"] spSix) (bSix : Binds K fdSix ["pen"] [])
    (gSw : mg "_law_some_words" = some (.ref fSw)) (kSw : PySem.W.keepIn K (.ref fSw) = true) (GSw : FnOk P w K mg base CX0 3 fSw fdSw ["pen", "letters", "many", "longest"] spSomeG) (bSw : Binds K fdSw ["pen", "letters", "many", "longest"] [])
    (gIt : mg "_law_is_tree" = some (.ref fIt)) (kIt : PySem.W.keepIn K (.ref fIt) = true) (GIt : FnG P w K mg base CX0 7 fIt fdIt ["tree", "rule", "root", "others", "letters", "words"] (spIt K CT CR)) (bIt : Binds K fdIt ["tree", "rule", "root", "others", "letters", "words"] [])
    (gRe : mg "_law_are_refused" = some (.ref fRe)) (kRe : PySem.W.keepIn K (.ref fRe) = true) (GRe : FnG P w K mg base CX0 12 fRe fdRe ["pen", "rule", "letters", "words"] (spRe K CR T)) (bRe : Binds K fdRe ["pen", "rule", "letters", "words"] [])
    (gLg : mg "_law_long" = some (.ref fLg)) (kLg : PySem.W.keepIn K (.ref fLg) = true) (GLg : FnG P w K mg base CX0 12 fLg fdLg ["pen", "rule"] (spLg K CR T)) (bLg : Binds K fdLg ["pen", "rule"] [])
    (gPk : mg "_law_pick" = some (.ref fPk)) (kPk : PySem.W.keepIn K (.ref fPk) = true) (GPk : FnOk P w K mg base CX0 2 fPk fdPk ["pen", "items"] spPick) (bPk : Binds K fdPk ["pen", "items"] [])
    (gKn : mg "known_rule" = some (.ref fKn)) (kKn : PySem.W.keepIn K (.ref fKn) = true) (GKn : FnOk P w K mg base (L2.CX P w) 6 fKn fdKn ["name"] (spKn K CR CB)) (bKn : Binds K fdKn ["name"] [])
    (gM : mg "_law_met" = some (.ref fM)) (FM : Fun K "_law_met" "_law_met" (top 50) fM fdM) (bM : Binds K fdM ["call"] []) : FnG P w K mg base CX0 13 f fd ["script"] (spLaw K T) := by
  have S0 : FnScope NLw ["script"] (defScope (top 58)) := ⟨rfl, rfl, rfl, by decide +kernel, rfl, by decide +kernel, by decide +kernel⟩
  have nd := S0.nd
  obtain ⟨ocM, odM, kVM, docM, pmM, anM, cdvM, ctM, oslM, rfl, lkM, hcdM⟩ := FM.ex
  refine FunT.okG F S0 (fun vs H Q E h => ?_) (fun A outer s H vs Q E hg hr h => ?_)
  · obtain ⟨a, ns, rfl, _⟩ := h
    rfl
  · obtain ⟨a, ns, rfl, hS, hn, hTab, kk⟩ := h
    have hu64 := hr.units
    have hr1 : Room 1 _ := hr.mono (by decide)
    have hr2 : Room 2 _ := hr.mono (by decide)
    have hr3 : Room 3 _ := hr.mono (by decide)
    have hr4 : Room 4 _ := hr.mono (by decide)
    have hr5 : Room 5 _ := hr.mono (by decide)
    have hr6 : Room 6 _ := hr.mono (by decide)
    have hr7 : Room 7 _ := hr.mono (by decide)
    have hr9 : Room 9 _ := hr.mono (by decide)
    have hr11 : Room 11 _ := hr.mono (by decide)
    have ps0 : Passes (L2.CX P w) (cxOf CX0 P w K mg base NLw "law" (defScope (top 58)) f (.ref c) A outer s H E).nox (fun _ _ _ => False) := passes_call LamX.takes0 (fun _ _ _ _ h => h)
    refine ⟨_, (pss_cons (ps_set (i := 1) nd rfl (Or.inl rfl) (pe_call GPen hr1 (by rfl) gPen kPen bPen .nil pass0 (pa_cons (pv 0) pa_nil)))
        (pss_cons (ps_for PassesOwn.never rfl (pi_range1 (by rfl) gRg (pa_cons pe_int pa_nil)) (pg_name (i := 2) nd rfl (Or.inl rfl)) (pss_cons (ps_asg (pe_call GNe hr3 (by rfl) gNe kNe bNe .nil pass0 (pa_cons (pv 1) pa_nil)) (pg_tup rfl (pgs_cons (pg_name (i := 3) nd rfl (Or.inl rfl)) (pgs_cons (pg_name (i := 4) nd rfl (Or.inl rfl)) pgs_nil))))
        (pss_cons (ps_asg (pe_tup (pa_cons (pe_make M GI hr5 (by rfl) gR bI .nil ps0 (pa_cons (pv 3) (pa_cons (pv 4) pa_nil))) (pa_cons (pe_call GIe hr4 (by rfl) gIe kIe bIe .nil pass0 (pa_cons (pv 3) (pa_cons (pv 4) pa_nil))) pa_nil))) (pg_tup rfl (pgs_cons (pg_name (i := 11) nd rfl (Or.inr rfl)) (pgs_cons (pg_name (i := 5) nd rfl (Or.inl rfl)) pgs_nil))))
        (pss_cons (ps_set (i := 6) nd rfl (Or.inl rfl) (pe_call GSix hr3 (by rfl) gSix kSix bSix .nil pass0 (pa_cons (pv 1) pa_nil)))
        (pss_cons (ps_set (i := 7) nd rfl (Or.inl rfl) (pe_call GSw hr3 (by rfl) gSw kSw bSw .nil pass0 (pa_cons (pv 1) (pa_cons (pv 6) (pa_cons pe_int (pa_cons pe_int pa_nil))))))
        (pss_cons (ps_if (pt_cmpR op_ne (pe_callB (r := rRepD K) (call_repD hg hu64 hsys) (by rfl) gRp PyProof.Rows.boot_repr (pa_cons (pe_meth0 (pv 11) RR.cl MEx GEx hr2 bEx .nil pass0) pa_nil)) (pe_callB (r := rRepD K) (call_repD hg hu64 hsys) (by rfl) gRp PyProof.Rows.boot_repr (pa_cons (pv 5) pa_nil)) (nomark _)) (pss_one (ps_ret pe_bl)) pss_nil)
        (pss_one (ps_if (pt_val (pv 5)) (pss_cons (ps_set (i := 8) nd rfl (Or.inl rfl) (pe_callTy call_list_of (by rfl) gLs PyProof.Rows.boot_list (pa_cons (pv 7) pa_nil)))
        (pss_cons (ps_set (i := 9) nd rfl (Or.inl rfl) (pe_meth (pv 11) RR.cl MTo GTo hr9 bTo .nil ps0 (pa_cons (pv 6) (pa_cons (pv 8) pa_nil))))
        (pss_cons (ps_expr (pe_bm0 PySem.F.plainAttrs_list PySem.F.slot_list_clear PySem.F.type_list_clear mt_clear (pv 8)))
        (pss_cons (ps_if (pt_not (pt_val (pe_callG GIt hg hr7 (by rfl) gIt kIt bIt pass0 (pa_cons (pv 9) (pa_cons (pv 11) (pa_cons (pv 3) (pa_cons (pv 4) (pa_cons (pv 6) (pa_cons (pv 7) pa_nil))))))))) (pss_one (ps_ret pe_bl)) pss_nil)
        (pss_one (ps_if (PW.pt (pw_or (pt_cmpR (op_ownNe RT.own RT.ne RT.oo ME GE hr2 bE ps0) (pe_meth (pv 11) RR.cl MTo GTo hr9 bTo .nil ps0 (pa_cons (pv 6) (pa_cons (pe_callTy call_tuple_of (by rfl) gTu PyProof.Rows.boot_tuple (pa_cons (pe_revL (pv 7)) pa_nil)) pa_nil))) (pv 9) (nomark _)) (pw_or1 (pt_not (pt_val (pe_callG GRe hg hr (by rfl) gRe kRe bRe pass0 (pa_cons (pv 1) (pa_cons (pv 11) (pa_cons (pv 6) (pa_cons (pv 7) pa_nil)))))))))) (pss_one (ps_ret pe_bl)) pss_nil)))))) (pss_one (ps_if (pt_cmpR (op_neD hu64) (pe_lamcall (T := T) (a := "call") (Ng := ["call", "e"]) (k := 9) (t := fun E => tMeth CR "tree_of" (spTo K CT CR C CW CX T) [] E (tVar 11) (tCons (tC .non) (tCons (tLst (tCons (tC .non) tNil)) tNil)))
              (by rfl) gM FM.kp lkM hcdM bM scMet rfl (.inl rfl) (met_gives X4 gRp gIs hsys hg hr2) TB rfl hmT hu hr11 (lamS_by (show lamSB (defScope (top 58)) _ = true by decide +kernel)) rfl (fun _ _ _ _ _ => rfl)
              (fun A outer s H E f c' hrk => pe_meth (pv 11) RR.cl MTo GTo hrk bTo .nil (passes_call (takes_of rfl rfl rfl rfl) (fun _ _ _ _ h => h)) (pa_cons pe_non (pa_cons (pe_lst (pa_cons pe_non pa_nil)) pa_nil)))) (pe_tup (pa_cons pe_str (pa_cons pe_bl pa_nil))) (nomark _)) (pss_one (ps_ret pe_bl)) pss_nil))))))))))
        (pss_cons (ps_if (pt_not (pt_val (pe_callG GLg hg hr (by rfl) gLg kLg bLg pass0 (pa_cons (pv 1) (pa_cons (pe_call GKn hr6 (by rfl) gKn kKn bKn .nil (passes_call LamX.takes0 (fun _ _ _ _ h => h)) (pa_cons (pe_call GPk hr2 (by rfl) gPk kPk bPk .nil pass0 (pa_cons (pv 1) (pa_cons (pe_lst (pa_cons pe_str (pa_cons pe_str pa_nil))) pa_nil))) pa_nil)) pa_nil))))) (pss_one (ps_ret pe_bl)) pss_nil)
        (pss_cons (ps_setLc (i := 10) (own := [("name", 12)]) (g := gName 12) rfl nd rfl rfl (sw_true rfl rfl rfl (by decide +kernel)) (pi_list (pe_lst (pa_cons pe_str (pa_cons pe_str (pa_cons pe_str (pa_cons pe_str pa_nil)))))) (blkOk_by (N := NLw) (sc := defScope (top 58)) (by decide +kernel)) (fun _ _ _ _ _ => pg_name (i := 12) nd rfl (Or.inl rfl)) (fun _ _ _ _ _ => (pts_one (pt_val (pe_meth0 (pe_call GKn hr6 (by rfl) gKn kKn bKn .nil (passes_call LamX.takes0 (fun _ _ _ _ h => h)) (pa_cons (pv 12) pa_nil)) RR.cl MEx GEx hr2 bEx .nil pass0)))) (fun _ _ _ _ _ => (pv 12)))
        (pss_one (ps_ret (pe_cmpR (op_eqD hu64) (pv 10) (pe_lst (pa_cons pe_str (pa_cons pe_str pa_nil))) (nomark _)))))))), ?_⟩
    refine ⟨V.ref a, rfl, a, ns, rfl, hS, hn, fun H1 p l s1 P1 => ?_⟩
    have T1 := hTab.ext s1
    have plain_ok : ∀ n ∈ (["plain", "joined"] : List Str), n ∈ four := by decide +kernel
    have kn_no : ∀ {n : Str} {X : Prop}, n ∈ four → knD (.str n) = false → X := fun {n X} h z => by
      have z : decide (n ∈ four) = false := z
      rw [decide_eq_true h] at z
      cases z
    refine ⟨4, rfl, by decide, by decide, for_it walk_range (fun i σ G => ∃ (x2 x3 x4 x5 x6 x7 x8 x9 x11 : Option V) (k1 lf1 : Int), σ = [some (.ref a), some (.ref p), x2, x3, x4, x5, x6, x7, x8, x9, none, x11, none] ∧ k1 ≤ 2100 * i ∧ 0 ≤ k1 ∧ 0 ≤ lf1 ∧ PenAt G p l ns k1 lf1 ∧ Tabs T G)
      ⟨none, none, none, none, none, none, none, none, none, 0, 0, rfl, by omega, Int.le_refl _, Int.le_refl _, P1, T1⟩ (fun _ _ _ _ _ => trivial) ?_ ?_⟩
    · rintro i x σ G G2 hi ⟨x2, x3, x4, x5, x6, x7, x8, x9, x11, k1, lf1, rfl, f1, f2, f3, PG, TG⟩ ⟨rfl, rfl⟩
      have hi' : i < 4 := hi
      refine ⟨V.ref p, rfl, p, l, ns, k1, lf1, rfl, PG, hn, f2, by omega, f3, fun G5 k5 lf5 r q1 q2 ps1 ps2 g1 g2 g3 sb5 P5 hr5t Rr5 Ro5 => ?_⟩
      have T5 := Tabs.pen TG PG.dc sb5
      have n1 := Rr5.n
      have n2 := Ro5.n
      have rl1 : (rfs ps1).length = ps1.length := List.length_map _
      have rl2 : (rfs ps2).length = ps2.length := List.length_map _
      have kl1 : (kds ps1).length = ps1.length := List.length_map _
      have kl2 : (kds ps2).length = ps2.length := List.length_map _
      refine ⟨r, _, rfl, .inl (.inl hr5t), rfl, _, _, rfl, _, _, rfl, rfl, ?_⟩
      -- the rule
      refine ⟨V.ref q1, rfl, V.ref q2, rfl, ?_⟩
      refine mk_ruleG (.inl Rr5.at_) (kinds_de Rr5.ks) (by omega) (.inl Ro5.at_) (kinds_de Ro5.ks) (by omega) (fun i e => ?_) (fun _ i e => ?_) (fun _ _ G6 ra s6 hR6 => ?_)
      · rw [kscan_kds Rr5.ok Rr5.nd] at e
        cases e
      · rw [kscan_kds Ro5.ok Ro5.nd] at e
        cases e
      rw [kdD_kOf, kdD_kOf] at hR6
      obtain ⟨kr, hkr⟩ : ∃ kr, kr = srtKd (kds ps1) := ⟨_, rfl⟩
      obtain ⟨ko, hko⟩ : ∃ ko, ko = srtKd (kds ps2) := ⟨_, rfl⟩
      rw [← hkr, ← hko] at hR6
      have zk1 : kr.length ≤ 100 := by
        rw [hkr, srtKd_mem.length_eq]
        omega
      have zk2 : ko.length ≤ 100 := by
        rw [hko, srtKd_mem.length_eq]
        omega
      have hk1 : ∀ k, k ∈ kds ps1 ↔ k ∈ kr := fun k => by
        rw [hkr]
        exact srtKd_mem.mem_iff.symm
      have hk2 : ∀ k, k ∈ kds ps2 ↔ k ∈ ko := fun k => by
        rw [hko]
        exact srtKd_mem.mem_iff.symm
      obtain ⟨e, he⟩ : ∃ e, exactB kr ko = e := ⟨_, rfl⟩
      have ex : exactB (kds ps1) (kds ps2) = e := by
        rw [← he, hkr, hko]
        exact (exact_perm srtKd_mem srtKd_mem).symm
      have Rr6 := Rr5.kx (Kx.of s6)
      have Ro6 := Ro5.kx (Kx.of s6)
      refine ⟨V.ref q1, rfl, V.ref q2, rfl, q1, q2, kds ps1, kds ps2, rfl, Rr6.lst, Ro6.lst, by omega, by omega, fun G7 s7 => ?_⟩
      rw [ex]
      refine ⟨(by show 2 ≤ sizeLine; decide), fun ut nut => ?_⟩
      have s8 := upd_new (o := .tup [.ref ra, .bl e]) nut
      have hut : upd G7 ut (.tup [.ref ra, .bl e]) ut = some (.tup [.ref ra, .bl e]) := upd_same
      generalize upd G7 ut (.tup [.ref ra, .bl e]) = G8 at s8 hut
      refine ⟨ut, _, rfl, .inl (.inl hut), rfl, _, _, rfl, _, _, rfl, rfl, ?_⟩
      have s58 := s6.trans (s7.trans s8)
      have P8 : PenAt G8 p l ns k5 lf5 := ⟨s58 _ _ P5.dc, s58 _ _ P5.ls⟩
      have T8 := T5.ext s58
      have hR8 := hR6.kx (Kx.of (s7.trans s8))
      have Rr8 := Rr5.kx (Kx.of s58)
      have Ro8 := Ro5.kx (Kx.of s58)
      refine ⟨V.ref p, rfl, p, l, ns, k5, lf5, rfl, P8, hn, g2, by omega, g3, fun G9 k9 lf9 ls j1 j2 j3 h6 s9 P9 => ?_⟩
      have K9 := Kx.but P8 s9
      have T9 := Tabs.pen T8 P8.dc s9
      have hL := six_okL h6
      have hLb := six_ok ls h6
      have hasc := six_asc ls h6
      have hlo := hL.lo
      have h26 := hL.hi
      refine ⟨V.ref p, rfl, V.str ls, rfl, p, l, ns, k9, lf9, ls, 6, 4, rfl, by decide, by decide, by decide, by decide, P9, hn, j2, by omega, j3, by omega, h26, fun G10 k10 lf10 b ws e1 e2 e3 hW hwl hnd s10 P10 hb nb => ?_⟩
      have ho : ∀ y ∈ ws, OverL ls y := fun y hy => (hW y hy).1
      have h4 : ∀ y ∈ ws, y.cps.size ≤ 4 := fun y hy => by have := (hW y hy).2; omega
      have hwl' : ws.length ≤ 6 := by omega
      have hnob : 1 ≤ nob ws ∧ nob ws ≤ 2000 := by
        have z := nob_le h4
        omega
      have hcap := caps h4 (by omega)
      have K10 := K9.trans (Kx.but P9 s10)
      have T10 := Tabs.pen T9 P9.dc s10
      have hR10 := hR8.kx K10
      have Rr10 := Rr8.kx K10
      have Ro10 := Ro8.kx K10
      obtain ⟨ra', rdx, fs, r1, r2, er, hra, RP⟩ := id hR10
      injection er with er
      subst er
      refine ⟨V.ref ra, rfl, ra, rdx, fs, rfl, hra, RP.no _ (by decide) (by decide), .ref ra, kr, ko, rfl, hR10, zk1, zk2, fun G11 s11 => ?_⟩
      rw [he]
      obtain ⟨y1, y2, y3⟩ := bl_small e
      refine ⟨.bl e, .bool e, rfl, .bl _, y1, y2, y3, .bl e, rfl, .bl e, .bool e, rfl, .bl _, y1, y2, y3, rfl, _, rfl, neT rfl ?_⟩
      have P11 : PenAt G11 p l ns k10 lf10 := ⟨s11 _ _ P10.dc, s11 _ _ P10.ls⟩
      have T11 := T10.ext s11
      have hR11 := hR10.kx (Kx.of s11)
      have Rr11 := Rr10.kx (Kx.of s11)
      have Ro11 := Ro10.kx (Kx.of s11)
      have hb11 := s11 _ _ hb
      refine ⟨.bl e, rfl, e, rfl, ?_⟩
      cases e with
      | true =>
        refine iteT ?_
        refine ⟨V.ref b, rfl, b, ws.map V.str, rfl, .inl (.inl (.inl hb11)), fun h nh => ?_⟩
        have nbh : b ≠ h := fun z => by
          rw [← z, hb11] at nh
          cases nh
        have npn : p ≠ h := fun z => by
          rw [← z, P11.dc] at nh
          cases nh
        have nln : l ≠ h := fun z => by
          rw [← z, P11.ls] at nh
          cases nh
        have s12 := upd_new (o := .lst (ws.map V.str)) nh
        have hh12 : upd G11 h (.lst (ws.map V.str)) h = some (.lst (ws.map V.str)) := upd_same
        generalize upd G11 h (.lst (ws.map V.str)) = G12 at s12 hh12
        have hR12 := hR11.kx (Kx.of s12)
        obtain ⟨ra2, rdx2, fs2, r12, r22, er2, hra2, RP2⟩ := id hR12
        injection er2 with er2
        subst er2
        refine ⟨V.ref ra, rfl, ra, rdx2, fs2, rfl, hra2, RP2.no _ (by decide) (by decide), V.str ls, rfl, V.ref h, rfl, ?_⟩
        refine to_fine (x := .ref ra) hR12 zk1 zk2 he hLb hasc (.inl hh12) ho hnd (by omega) hnob hcap (T11.ext s12) fun G13 t bs e13 T13 ndb hbs g hTr13 => ?_
        have e1113 : ExtN G11 G13 := (ExtN.of s12).trans e13
        have hh13 := e13 _ _ hh12 fun ps z => nomatch z
        have gx : GoodS ls (exS kr ko (ofS ls bs ws)) := good_plc g (exS_plc kr ko _)
        have hok : StrsOk (exS kr ko (ofS ls bs ws)) := fun s' hs' => strs_ok hL (gx.ov _ (List.mem_map.mpr ⟨s', hs', rfl⟩))
        refine ⟨V.ref h, rfl, .inl ⟨rfl, _, .inl (.inl hh13)⟩, h, _, rfl, rfl, hh13, ?_⟩
        have K14 : Kx G11 (upd G13 h (.lst [])) := fun q o hq t np => by
          have nqh : q ≠ h := fun z => by
            rw [z, nh] at hq
            cases hq
          rw [upd_ne nqh]
          exact e1113 _ _ hq t
        have hTr14 : TreeF K CT (upd G13 h (.lst [])) (.ref t) ls (exS kr ko (ofS ls bs ws)) := hTr13.ky gx.root fun q o hq _ _ nl => by
          have nqh : q ≠ h := fun z => by
            rw [z, hh13] at hq
            exact nl _ (Option.some.inj hq).symm
          rw [upd_ne nqh]
          exact hq
        have T14 : Tabs T (upd G13 h (.lst [])) := fun q hq => by
          obtain ⟨ps, h1, h2, h3⟩ := T13 q hq
          refine ⟨ps, ?_, h2, fun pos cv hc => ?_⟩
          · rw [upd_ne (fun z => by rw [z, hh13] at h1; cases h1)]
            exact h1
          · obtain ⟨c', e1, e2⟩ := h3 pos cv hc
            refine ⟨c', e1, ?_⟩
            rw [upd_ne (fun z => by rw [z, hh13] at e2; unfold CodeO at e2; cases e2)]
            exact e2
        have P14 : PenAt (upd G13 h (.lst [])) p l ns k10 lf10 := ⟨by rw [upd_ne npn]; exact e1113 _ _ P11.dc (fun ps z => nomatch z), by rw [upd_ne nln]; exact e1113 _ _ P11.ls (fun ps z => nomatch z)⟩
        generalize upd G13 h (.lst []) = G14 at K14 hTr14 T14 P14
        have hb14 := K14 _ _ hb11 (fun _ z => nomatch z) (fun _ _ _ z => nomatch z)
        have hR14 := hR11.kx K14
        refine ⟨V.ref t, rfl, V.ref ra, rfl, V.ref q1, rfl, V.ref q2, rfl, V.str ls, rfl, V.ref b, rfl, .ref t, .ref ra, q1, q2, b, kr, ko, kds ps1, kds ps2, ls, bs, ws, rfl, hR14, he, (Rr11.kx K14).kl, (Ro11.kx K14).kl, hk1, hk2, hb14, fun y hy => ⟨ho y hy, h4 y hy⟩, hwl', ndb, hbs, hL, gx, hTr14, fun G15 s15 => ⟨true, rfl, iteF ?_⟩⟩
        have hR15 := hR14.kx (Kx.of s15)
        have hb15 := s15 _ _ hb14
        obtain ⟨ra3, rdx3, fs3, r13, r23, er3, hra3, RP3⟩ := id hR15
        injection er3 with er3
        subst er3
        refine ⟨V.ref ra, rfl, ra, rdx3, fs3, rfl, hra3, RP3.no _ (by decide) (by decide), V.str ls, rfl, V.ref b, rfl, b, ws.map V.str, rfl, .inl (.inl hb15), fun q nq => ?_⟩
        have erv : (ws.map V.str).reverse = ws.reverse.map V.str := List.map_reverse.symm
        rw [erv]
        refine ⟨q, _, rfl, .inl ⟨.inl (.inl upd_same), fun u nu => ?_⟩⟩
        have s16 := upd_new (o := .lst (ws.reverse.map V.str)) nq
        generalize upd G15 q (.lst (ws.reverse.map V.str)) = G16 at s16 nu
        have s17 := upd_new (o := .tup (ws.reverse.map V.str)) nu
        have hu17 : upd G16 u (.tup (ws.reverse.map V.str)) u = some (.tup (ws.reverse.map V.str)) := upd_same
        generalize upd G16 u (.tup (ws.reverse.map V.str)) = G17 at s17 hu17
        have s1417 := s15.trans (s16.trans s17)
        have h4r : ∀ y ∈ ws.reverse, y.cps.size ≤ 4 := fun y hy => h4 y (List.mem_reverse.mp hy)
        have hlr : ws.reverse.length ≤ 6 := by
          rw [List.length_reverse]
          exact hwl'
        have hnobr : 1 ≤ nob ws.reverse ∧ nob ws.reverse ≤ 2000 := by
          have z := nob_le h4r
          omega
        refine to_fine (x := .ref ra) (ws := ws.reverse) (hR14.kx (Kx.of s1417)) zk1 zk2 he hLb hasc (.inr hu17) (fun y hy => ho y (List.mem_reverse.mp hy)) ((List.reverse_perm ws).nodup_iff.mpr hnd) (by omega) hnobr (caps h4r (by omega)) (T14.ext s1417) fun G18 t2 bs3 e18 T18 ndb3 hbs3 g3 hTr18 => ?_
        have K18 : Kx G14 G18 := (Kx.of s1417).trans (Kx.ext e18)
        rw [ofS_rev, ofS_congr ndb3 ndb (fun y => (hbs3 y).trans beg_rev) hbs ho] at hTr18
        have hTr0 := hTr14.kx gx.root K18
        have insT : ∀ {G : Hp} {y : V} {S' : List Spot}, TreeF K CT G y ls S' → Ins CT G y := fun {G y S'} h => by
          obtain ⟨a', dx', _, _, _, fs', _, _, _, _, e, T'⟩ := h
          exact ⟨a', dx', fs', e, T'.ins⟩
        refine ⟨V.ref t, rfl, insT hTr18, insT hTr0, .ref t2, .ref t, ls, exS kr ko (ofS ls bs ws), rfl, hTr18, hok, .inl ⟨ls, exS kr ko (ofS ls bs ws), hTr0, hok, _, rfl, _, rfl, ?_⟩⟩
        rw [decide_eq_true (show ls = ls ∧ exS kr ko (ofS ls bs ws) = exS kr ko (ofS ls bs ws) from ⟨rfl, rfl⟩)]
        refine iteF ?_
        have hb18 := K18 _ _ hb14 (fun _ z => nomatch z) (fun _ _ _ z => nomatch z)
        have P18 : PenAt G18 p l ns k10 lf10 := ⟨e18 _ _ (s1417 _ _ P14.dc) (fun _ z => nomatch z), e18 _ _ (s1417 _ _ P14.ls) (fun _ z => nomatch z)⟩
        refine ⟨V.ref p, rfl, V.ref ra, rfl, V.str ls, rfl, V.ref b, rfl, p, l, b, ns, k10, lf10, .ref ra, kr, ko, ls, ws, rfl, P18, hn, e2, by omega, e3, hR14.kx K18, zk1, zk2, he, h6, hb18, ho, h4, hwl', hnd, T18, fun G19 k19 lf19 m1 m2 m3 K19 P19 T19 => ⟨true, rfl, iteF ?_⟩⟩
        exact ⟨_, _, _, _, _, _, _, _, _, k19, lf19, rfl, by omega, m2, m3, P19, T19⟩
      | false =>
        refine iteF ?_
        refine ⟨T11, fun G12 e12 T12 => ?_⟩
        have hR12 := hR11.kx (Kx.ext e12)
        obtain ⟨ra2, rdx2, fs2, r12, r22, er2, hra2, RP2⟩ := id hR12
        injection er2 with er2
        subst er2
        refine ⟨V.ref ra, rfl, ra, rdx2, fs2, rfl, hra2, RP2.no _ (by decide) (by decide), (by show 1 ≤ sizeLine; decide), fun q nq => ?_⟩
        have s13 := upd_new (o := .lst [.non]) nq
        have hq13 : upd G12 q (.lst [.non]) q = some (.lst [.non]) := upd_same
        generalize upd G12 q (.lst [.non]) = G13 at s13 hq13
        refine to_not (x := .ref ra) (vL := .non) (L := .none) (ds := [.none]) (hR12.kx (Kx.of s13)) zk1 zk2 he .non (fun z e => nomatch e) (.inl hq13) (.cons .non .nil) (fun x hx => by simp at hx) (by show 1 ≤ 1000; decide) (T12.ext s13) fun H' s14 => .inl ⟨rfl, rfl, fun r nr => ?_⟩
        have s15 := upd_new (o := .tup [.str "not exact", .bl true]) nr
        have hr15 : upd H' r (.tup [.str "not exact", .bl true]) r = some (.tup [.str "not exact", .bl true]) := upd_same
        generalize upd H' r (.tup [.str "not exact", .bl true]) = G15 at s15 hr15
        refine ⟨(by show 2 ≤ sizeLine; decide), fun u nu => ?_⟩
        have s16 := upd_new (o := .tup [.str "not exact", .bl true]) nu
        have hu16 : upd G15 u (.tup [.str "not exact", .bl true]) u = some (.tup [.str "not exact", .bl true]) := upd_same
        have hr16 := s16 _ _ hr15
        generalize upd G15 u (.tup [.str "not exact", .bl true]) = G16 at s16 hu16 hr16
        have dpn : ∀ {u : Addr}, G16 u = some (.tup [.str "not exact", .bl true]) → Dp K G16 (.ref u) notD := fun {u} hu => .tup (.inl (.inl hu)) (.cons (.str _) (.cons (.bl _) .nil))
        refine ⟨notD, notD, dpn hr16, dpn hu16, not_shaped, not_shaped, _, rfl, fls (eqv_self not_shaped) ?_⟩
        have s1216 : Same G12 G16 := s13.trans (s14.trans (s15.trans s16))
        have P16 : PenAt G16 p l ns k10 lf10 := ⟨s1216 _ _ (e12 _ _ P11.dc (fun _ z => nomatch z)), s1216 _ _ (e12 _ _ P11.ls (fun _ z => nomatch z))⟩
        exact ⟨_, _, _, _, _, _, _, _, _, k10, lf10, rfl, by omega, e2, e3, P16, T12.ext s1216⟩
    rintro σ G ⟨x2, x3, x4, x5, x6, x7, x8, x9, x11, k1, lf1, rfl, f1, f2, f3, PG, TG⟩
    have f1 : k1 ≤ 2100 * (4 : Int) := f1
    refine ⟨V.ref p, rfl, V.ref p, rfl, (by show 2 ≤ sizeLine; decide), fun q nq => ?_⟩
    have s2 := upd_new (o := .lst [.str "plain", .str "joined"]) nq
    have hq2 : upd G q (.lst [.str "plain", .str "joined"]) q = some (.lst [.str "plain", .str "joined"]) := upd_same
    generalize upd G q (.lst [.str "plain", .str "joined"]) = G2 at s2 hq2
    have P2 : PenAt G2 p l ns k1 lf1 := ⟨s2 _ _ PG.dc, s2 _ _ PG.ls⟩
    refine ⟨p, l, .ref q, ns, k1, lf1, [.str "plain", .str "joined"], rfl, P2, hn, f2, by omega, f3, .inl ⟨q, rfl, hq2⟩, (by show 0 < 2; decide), (by show 2 ≤ 1000; decide), fun G3 k3 lf3 y e1 e2 e3 hy s3 P3 => ?_⟩
    have T3 := Tabs.pen (TG.ext s2) P2.dc s3
    obtain ⟨n, hpj, rfl⟩ : ∃ n : Str, n ∈ (["plain", "joined"] : List Str) ∧ y = .str n := by
      simp only [List.mem_cons, List.mem_nil_iff, or_false] at hy
      rcases hy with rfl | rfl
      · exact ⟨"plain", by decide +kernel, rfl⟩
      · exact ⟨"joined", by decide +kernel, rfl⟩
    have hn4 := plain_ok n hpj
    obtain ⟨x1', x2', x3'⟩ := kn_exactS hn4
    rw [decide_eq_true hpj] at x1'
    refine ⟨.str n, .str n, rfl, .str _, fun n' hn' e G4 x s4 hR4 => ?_, fun z => kn_no hn4 z⟩
    injection e with e
    subst e
    refine ⟨p, l, ns, k3, lf3, .ref x, _, _, rfl, ⟨s4 _ _ P3.dc, s4 _ _ P3.ls⟩, hn, e2, by omega, e3, hR4, x2', x3', x1', T3.ext s4, fun G5 => ⟨true, rfl, iteF ?_⟩⟩
    refine ⟨(by show 4 ≤ sizeLine; decide), fun q2 nq2 => ⟨q2, rfl, ⟨_, .inl (.inl upd_same)⟩, fun D nD => lcS_list (K := K) (ws := four) V.str nD V.str (fun n => decide (n ∈ (["plain", "joined"] : List Str))) (.inl (.inl upd_same)) (by show 4 < sizeLine; decide) (fun i n G hp sG A B kA kB => ?_) fun G6 s6 hD => ?_⟩⟩
    · have hn4 := List.mem_of_getElem? hp
      obtain ⟨x1', x2', x3'⟩ := kn_exactS hn4
      refine ⟨rfl, V.str n, rfl, .str n, .str n, rfl, .str _, fun n' hn' e G7 x7 s7 hR7 => ?_, fun z => kn_no hn4 z⟩
      injection e with e
      subst e
      obtain ⟨ra, rdx, fs, r1, r2, er, hra, RP⟩ := id hR7
      injection er with er
      subst er
      refine ⟨x7, rdx, fs, rfl, hra, RP.no _ (by decide) (by decide), .ref x7, _, _, rfl, hR7, x2', x3', fun G8 s8 => ?_⟩
      rw [x1']
      refine ⟨_, rfl, ?_⟩
      cases hb : decide (n ∈ (["plain", "joined"] : List Str)) with
      | true => exact iteT ⟨V.str n, rfl, kA hb _ (s7.trans s8)⟩
      | false => exact iteF (kB hb _ (s7.trans s8))
    have ef : ((four.filter fun n => decide (n ∈ (["plain", "joined"] : List Str))).map V.str) = (["plain", "joined"] : List Str).map V.str := by decide +kernel
    rw [ef] at hD
    refine ⟨V.ref D, rfl, (by show 2 ≤ sizeLine; decide), fun u nu => ?_⟩
    have sh : SeqAt.shaped (.list ((["plain", "joined"] : List Str).map PyData.str)) = true := by decide +kernel
    refine ⟨.list ((["plain", "joined"] : List Str).map PyData.str), .list ((["plain", "joined"] : List Str).map PyData.str), .lst (.inl (.inl (upd_new nu _ _ hD))) (dp_strs _), .lst (.inl (.inl upd_same)) (.cons (.str _) (.cons (.str _) .nil)), sh, sh, ?_⟩
    rw [eqv_self sh]
    exact kk _
end
end SK
namespace SK
open PySem PySem.Spec PyProof.Rows L2 LamX NdefX
/-! ### the law's call, some tables of code objects beside the script -/
abbrev EndOk (h : Heap) (os : OsState) (r : Result) (s' : Shared) : Prop := r = .ok (.ret (.bool true)) ∧ PySem.OldK h s'.heap ∧ s'.os = os ∧ AllBare s'.gens
def tabObj : Obj := { cls := .none, data := .fields #[] }
section
variable {P : Program} {w : World} {K : PySem.W.Frag} {mg mb : Str → Option Value} {fa a : Addr} {s : Shared} {H : Hp} {vs : List Value} {ns : List Int} {lv : Nat} {sp : Sp} {ps : List (Addr × Addr)} {T : List (Addr × Str)}
theorem run_lawA (D : ∀ base : Heap, K.In base → base.Ns mainGlobals mg → (∀ p ∈ ps, TabB base mg p.1 p.2) → ∃ fd, Binds K fd ["script"] [] ∧ FnG P w K mg base CX0 lv fa fd ["script"] sp) (room : Room lv PySem.callerA)
    (hsp : ∀ (H : Hp) (a : Addr) (ns : List Int), SqL K H a (ns.map V.int) → ns.length ≤ 63 → Tabs T H → sp [.ref a] H (fun v _ => v = .bl true) E0)
    (hT : ∀ p ∈ T, p.1 ∈ ps.map (·.2)) (KX : K.In s.heap) (hm : s.heap.Ns mainGlobals mg) (hb : s.heap.Ns builtinsNs mb) (hbb : ∀ x : Str, x ≠ "__name__" → mb x = bootBuiltins x)
    (hlim : s.heap.NoLimit) (hgens : s.gens = #[]) (hPt : ∀ P ∈ ps.map (·.2), s.heap.get? P = some tabObj) (nPt : ∀ P ∈ ps.map (·.2), K.lookup P = none) (hC : ∀ p ∈ ps, PySem.W.CodeHd s.heap p.1 p.2)
    (hbm : ∃ (bm : Addr) (ob : Obj), mg "__builtins__" = some (.ref bm) ∧ bm ≠ builtinsNs ∧ s.heap.get? bm = some ob ∧ ob.cls = .type "module" ∧ ob.dict = some builtinsNs ∧ ob.data = .plain)
    (ha : s.heap.get? a = some { cls := .type "list", data := .seq vs.toArray }) (hn : ns.length ≤ 63) (hS : SqL K H a (ns.map V.int)) (ok : HOk P w H s.heap) (hHP : ∀ P ∈ ps.map (·.2), H P = some (.tbl #[]))
    (hO : ∀ b, H b = none ∨ b ∈ ps.map (·.2) ∨ (b = a ∧ ∃ o xs, H b = some (.frz o (.lst xs)))) (hK : H a ≠ none → K.lookup a = none) :
    codeAny (model P w) PySem.callerA (.call (.ref fa) ⟨[.ref a], []⟩) (EndOk s.heap s.os) s := by
  have free : ∀ {b : Addr} {o : Obj}, s.heap.get? b = some o → (∀ vs n, o.data ≠ .seq vs n) → o.data ≠ .fields #[] → H b = none := fun {b o} e h1 h2 => by
    rcases hO b with z | z | ⟨rfl, _⟩
    · exact z
    · rw [hPt b z] at e
      have e' := Option.some.inj e
      subst e'
      exact absurd rfl h2
    · rw [ha] at e
      have e' := Option.some.inj e
      subst e'
      exact absurd rfl (h1 _ _)
  have dicts : ∀ {b : Addr} {m : Str → Option Value}, s.heap.Ns b m → (hidT s.heap H).Ns b m := fun {b m} ⟨o, es, ep, e, d, r⟩ =>
    ⟨o, es, ep, hidT_get e (free e (fun vs n z => by rw [d] at z; cases z) fun z => by rw [d] at z; cases z), d, r⟩
  have Kb : K.In (hidT s.heap H) := fun b o e => by
    refine hidT_get (KX b o e) ?_
    rcases hO b with z | z | ⟨rfl, o', xs, z⟩
    · exact z
    · rw [nPt b z] at e
      cases e
    · rw [hK (by rw [z]; exact fun z => nomatch z)] at e
      cases e
  have M : Mod K mg (hidT s.heap H) := ⟨Kb, dicts hm, ⟨mb, dicts hb, hbb⟩, by
    obtain ⟨mc, h1, h2⟩ := hlim
    exact ⟨mc, dicts h1, h2⟩⟩
  have noG : ∀ P ∈ ps.map (·.2), mainGlobals ≠ P := fun P hP z => by
    obtain ⟨o, es, ep, e, d, _⟩ := hm
    rw [z, hPt P hP] at e
    have e' := Option.some.inj e
    subst e'
    cases d
  have TB : ∀ p ∈ ps, TabB (hidT s.heap H) mg p.1 p.2 := fun p hp => by
    have hp2 : p.2 ∈ ps.map (·.2) := List.mem_map.mpr ⟨p, hp, rfl⟩
    refine ⟨?_, ?_, noG _ hp2⟩
    · obtain ⟨o, us, file, tf, flags, tg, inF, text, tt, e1, r1, r2, r3, rest⟩ := hC p hp
      refine ⟨o, us, file, tf, flags, tg, inF, text, tt, hidT_get e1 (free e1 (fun vs n z => ?_) fun z => ?_), r1, r2, r3, rest⟩
      · rw [r2] at z
        cases z
      · rw [r2] at z
        injection z with z
        subst z
        simp at r3
    · obtain ⟨bm, ob, b1, b2, b3, b4, b5, b6⟩ := hbm
      refine ⟨bm, ob, b1, b2, fun z => ?_, fun z => ?_, hidT_get b3 (free b3 (fun vs n z => by rw [b6] at z; cases z) fun z => by rw [b6] at z; cases z), b4, b5, b6⟩
      · obtain ⟨o, es, ep, e, d, _⟩ := hm
        rw [z, e] at b3
        have e' := Option.some.inj b3
        subst e'
        rw [d] at b6
        cases b6
      · rw [z, hPt _ hp2] at b3
        have e' := Option.some.inj b3
        subst e'
        cases b6
  have e0 : Env0 P w K mg (hidT s.heap H) PySem.callerA [] s H := ⟨rfl, M, fun b o e => of_hidT e, Nat.le_of_eq (hidT_size _ _), trivial, fun b z => (by cases z), ok, AllBare.of_eq hgens⟩
  have tabs : Tabs T H := fun p hp => TabS.nil (hHP _ (hT p hp))
  obtain ⟨fd, b, G⟩ := D _ Kb (dicts hm) TB
  have back : ∀ b o, (hidT s.heap H).get? b = some o → s.heap.get? b = some o := fun b o e => (e0.bs b o e).1
  have bb := b s [Value.ref a] (e0.mod.kin.keeps back) (by rfl)
  refine codeAny_mono (G.run PySem.callerA [] s H ⟨[.ref a], []⟩ [.ref a] [V.ref a] _ E0 rfl room e0 bb (.cons rfl .nil) (hsp H a ns hS hn tabs)) fun r s' h => ?_
  cases r with
  | error e => exact h.elim
  | ok fl =>
    cases fl with
    | next => exact False.elim h
    | brk => exact False.elim h
    | cont => exact False.elim h
    | ret u =>
      obtain ⟨v, H', os, bare, un, ok', rv, qv⟩ := h
      have qv : v = .bl true := qv
      subst qv
      obtain rfl : u = Value.bool true := rv
      have grown : ∀ P ∈ ps.map (·.2), ∃ more : Array Value, s'.heap.get? P = some { cls := .none, data := .fields more } := fun P hP => by
        obtain ⟨more, z⟩ := un.tbls P #[] (hHP P hP)
        exact ⟨_, ok' P _ z⟩
      have same : ∀ b o, b ∉ ps.map (·.2) → s.heap.get? b = some o → s'.heap.get? b = some o := fun b o nb e => by
        rcases hO b with z | z | ⟨_, ob, xs, z⟩
        · exact un.keep b o e z (fun z => (by cases z)) (fun z => (by cases z))
        · exact absurd z nb
        · obtain ⟨f1, _⟩ := ok b _ z
          obtain ⟨f2, _⟩ := ok' b _ (un.frzs b ob _ z)
          rw [e] at f1
          cases f1
          exact f2
      refine ⟨rfl, ⟨fun b o e => ?_, fun b o e => ?_⟩, os, bare⟩
      · by_cases hbP : b ∈ ps.map (·.2)
        · obtain ⟨p, hp, rfl⟩ := List.mem_map.mp hbP
          rw [hPt _ hbP] at e
          have e' := Option.some.inj e
          subst e'
          obtain ⟨more, hmore⟩ := grown _ hbP
          exact .inr (.inl ⟨((hC p hp).tab (hPt _ hbP)).isCodeTable, rfl, #[], more, rfl, by rw [Array.empty_append]; exact hmore⟩)
        · exact .inl (same b o hbP e)
      · by_cases hbP : b ∈ ps.map (·.2)
        · obtain ⟨more, hmore⟩ := grown _ hbP
          exact ⟨_, hmore⟩
        · exact ⟨o, same b o hbP e⟩
theorem run_lawG (D : ∀ base : Heap, K.In base → base.Ns mainGlobals mg → (∀ p ∈ ps, TabB base mg p.1 p.2) → ∃ fd, Binds K fd ["script"] [] ∧ FnG P w K mg base CX0 lv fa fd ["script"] sp) (room : Room lv PySem.callerA)
    (hsp : ∀ (H : Hp) (a : Addr) (ns : List Int), SqL K H a (ns.map V.int) → ns.length ≤ 63 → Tabs T H → sp [.ref a] H (fun v _ => v = .bl true) E0)
    (hT : ∀ p ∈ T, p.1 ∈ ps.map (·.2)) (KX : K.In s.heap) (hm : s.heap.Ns mainGlobals mg) (hb : s.heap.Ns builtinsNs mb) (hbb : ∀ x : Str, x ≠ "__name__" → mb x = bootBuiltins x)
    (hlim : s.heap.NoLimit) (hgens : s.gens = #[]) (hPt : ∀ P ∈ ps.map (·.2), s.heap.get? P = some tabObj) (nPt : ∀ P ∈ ps.map (·.2), K.lookup P = none) (hC : ∀ p ∈ ps, PySem.W.CodeHd s.heap p.1 p.2)
    (hbm : ∃ (bm : Addr) (ob : Obj), mg "__builtins__" = some (.ref bm) ∧ bm ≠ builtinsNs ∧ s.heap.get? bm = some ob ∧ ob.cls = .type "module" ∧ ob.dict = some builtinsNs ∧ ob.data = .plain)
    (ha : s.heap.get? a = some { cls := .type "list", data := .seq vs.toArray }) (hi : IntsAre vs ns) (hn : ns.length ≤ 63) :
    codeAny (model P w) PySem.callerA (.call (.ref fa) ⟨[.ref a], []⟩) (EndOk s.heap s.os) s := by
  have rv := vals_ints hi
  have lv := hi.length
  have z63 : (63 : Nat) ≤ sizeLine := by decide
  have hz : ns.length ≤ sizeLine := Nat.le_trans hn z63
  have nap : a ∉ ps.map (·.2) := fun z => by
    have e := hPt a z
    rw [ha] at e
    have e := congrArg Obj.data (Option.some.inj e)
    cases e
  let lo : HO := .frz { cls := .type "list", data := .seq vs.toArray } (.lst (ns.map V.int))
  by_cases hk : K.lookup a = none
  · let H0 : Hp := fun b => if b = a then some lo else if b ∈ ps.map (·.2) then some (.tbl #[]) else none
    have ea : H0 a = some lo := if_pos rfl
    have eP : ∀ P ∈ ps.map (·.2), H0 P = some (.tbl #[]) := fun P hP => (if_neg (show ¬ P = a from fun z => nap (by rw [← z]; exact hP))).trans (if_pos hP)
    have en : ∀ b, b ≠ a → b ∉ ps.map (·.2) → H0 b = none := fun b n m => (if_neg n).trans (if_neg m)
    refine run_lawA (H := H0) D room hsp hT KX hm hb hbb hlim hgens hPt nPt hC hbm ha hn (.inl (.inr ⟨_, ea⟩)) (fun b u z => ?_) eP (fun b => ?_) fun _ => hk
    · by_cases h : b = a
      · subst h
        rw [ea] at z
        cases z
        exact ⟨ha, by rw [List.length_map]; exact hz, vs, _, rv, ha⟩
      · by_cases m : b ∈ ps.map (·.2)
        · rw [eP b m] at z
          cases z
          exact hPt b m
        · rw [en b h m] at z
          cases z
    · by_cases h : b = a
      · subst h
        exact .inr (.inr ⟨rfl, _, _, ea⟩)
      · by_cases m : b ∈ ps.map (·.2)
        · exact .inr (.inl m)
        · exact .inl (en b h m)
  · obtain ⟨o, ho⟩ := Option.ne_none_iff_exists'.mp hk
    have e := KX a o ho
    rw [ha] at e
    cases e
    let H1 : Hp := fun b => if b ∈ ps.map (·.2) then some (.tbl #[]) else none
    have eP : ∀ P ∈ ps.map (·.2), H1 P = some (.tbl #[]) := fun P hP => if_pos hP
    have en : ∀ b, b ∉ ps.map (·.2) → H1 b = none := fun b m => if_neg m
    refine run_lawA (H := H1) D room hsp hT KX hm hb hbb hlim hgens hPt nPt hC hbm ha hn (.inr ⟨_, vs.toArray, _, ho, rfl, rfl, rfl, by rw [List.size_toArray, lv]; exact hz, by simpa using rv⟩) (fun b u z => ?_) eP (fun b => ?_) fun z => absurd (en a nap) z
    · by_cases m : b ∈ ps.map (·.2)
      · rw [eP b m] at z
        cases z
        exact hPt b m
      · rw [en b m] at z
        cases z
    · by_cases m : b ∈ ps.map (·.2)
      · exact .inr (.inl m)
      · exact .inl (en b m)
end
end SK
namespace SK
open PySem PySem.Spec PyProof.Rows L2 LamX NdefX
open K0 (De DeAll XCl spX withX)
/-! ### what the top leaves, as one test -/
def clsB (K : PySem.W.Frag) (C : Addr) : Bool := match K.lookup C with
  | some ⟨.type "type", _, .cls cd, sl⟩ => (match cd.mro, sl.toList with
    | .ref D :: bm, [_, _, _, _, some (.builtin n), _] => decide (D = C) && (decide (n = "ValueError.__new__") && (!cd.hasDel && (cd.hasDict && PySem.HandSPX.refsVE bm)))
    | _, _ => false)
  | _ => false
theorem clsB_ok {K : PySem.W.Frag} {C : Addr} (h : clsB K C = true) : ∃ nm q N bs bm sn sub ab col dd k0 k1 k2 k3 k5, K.lookup C = some (excClassObj nm q C N bs bm true sn sub ab col dd k0 k1 k2 k3 k5 "ValueError.__new__") ∧ PySem.HandSPX.refsVE bm = true := by
  unfold clsB at h
  split at h
  · rename_i dd cd sl ho
    split at h
    · rename_i D bm k0 k1 k2 k3 n k5 hm hs
      simp only [Bool.and_eq_true, decide_eq_true_eq, Bool.not_eq_true'] at h
      obtain ⟨rfl, rfl, hdel, hd, hv⟩ := h
      obtain ⟨nm, bs, mro, ns, qn, hdc, sn, sub, ab, col, del⟩ := cd
      dsimp only at hm hdel hd
      subst hm hdel hd
      have e : sl = #[k0, k1, k2, k3, some (.builtin "ValueError.__new__"), k5] := by
        obtain ⟨l⟩ := sl
        simp only at hs
        rw [hs]
      subst e
      exact ⟨nm, qn, ns, bs, bm, sn, sub, ab, col, dd, k0, k1, k2, k3, k5, ho, hv⟩
    · cases h
  · cases h
def xB (K : PySem.W.Frag) (C : Addr) : Bool :=
  clsB K C && (decide (PySem.W.findIn K (.ref C) "__setattr__" = some (some (.builtin "object.__setattr__"))) && (decide (PySem.W.subIn K (.ref C) (.type "BaseException") = some true) && (decide (PySem.W.typeIn K (.ref C) = some (.type "type")) && (PySem.W.keepIn K (.ref C) &&
    (decide (PySem.W.findIn K (.ref C) "__getattribute__" = some (some (.builtin "BaseException.__getattribute__"))) && (decide (PySem.W.findIn K (.ref C) "__getattr__" = some none) && (PySem.W.hasDictIn K C && (decide (PySem.W.findIn K (.ref C) "__class__" = some (some (.builtin "object.__class__"))) &&
      (decide (PySem.W.specialIn K (.builtin "object.__class__") "__get__" = some (some (.builtin "getset_descriptor.__get__"))) && (decide (PySem.W.takesIn K (.builtin "object.__class__") = some true) && decide (PySem.W.mroIn K C (.type "object") = some true)))))))))))
theorem xB_ok {K : PySem.W.Frag} {C : Addr} (h : xB K C = true) : XCl K C := by
  simp only [xB, Bool.and_eq_true, decide_eq_true_eq] at h
  obtain ⟨h1, h2, h3, h4, h5, h6, h7, h8, h9, h10, h11, h12⟩ := h
  exact ⟨⟨clsB_ok h1, h2, h3, h4, h5⟩, h6, h7, h8, h9, h10, h11, h12⟩
def iniB (K : PySem.W.Frag) (x : Str) (fs : List Str) : Bool :=
  decide (PySem.W.findIn K (.ref (He.ga K x)) "__init__" = some (some (.ref (He.ma K (He.ga K x) "__init__")))) && (decide (PySem.W.typeIn K (.ref (He.ma K (He.ga K x) "__init__")) = some (.type "function")) && fs.all fun n => decide (PySem.W.findIn K (.ref (He.ga K x)) n = some none))
theorem put_old {H : Hp} {C a dx : Addr} {fs gs : List (Str × V)} (ne : dx ≠ a) : upd (withX H C a dx fs) dx (exd dx gs) = withX H C a dx gs := by
  funext b
  show upd (upd (upd H dx _) a _) dx _ b = upd (upd H dx _) a _ b
  by_cases hd : b = dx
  · rw [hd, upd_same, upd_ne ne, upd_same]
  · rw [upd_ne hd]
    by_cases ha : b = a
    · rw [ha, upd_same, upd_same]
    · rw [upd_ne ha, upd_ne ha, upd_ne hd, upd_ne hd]
section
variable {P : Program} {w : World} {K : PySem.W.Frag} {mg : Str → Option Value} {base : Heap} {f C : Addr} {fd : FuncData}
theorem sc_BadLetters : FnScope ["self", "letters"] ["self", "letters"] (defScope (inClass (top 3) 0)) := ⟨rfl, rfl, rfl, by decide +kernel, rfl, by decide +kernel, by decide +kernel⟩
theorem ok_BadLetters (F : Fun K "__init__" "BadLetters.__init__" (inClass (top 3) 0) f fd) (T : OexC K C) (no : ∀ n ∈ (["letters"] : List Str), PySem.W.findIn K (.ref C) n = some none) : FnOk P w K mg base CX0 1 f fd ["self", "letters"] (spX C ["letters"]) := by
  refine F.ok sc_BadLetters (fun vs H Q E h => ?_) (fun cdv A outer s H vs Q E hr h => ?_)
  · obtain ⟨a, ys, rfl, hl, _⟩ := h
    exact congrArg Nat.succ hl
  · obtain ⟨a, ys, rfl, hl, ha, k⟩ := h
    match ys, hl with
    | [y0], _ =>
      refine ⟨_, pss_one (ps_ost (pv 0) (pv 1)), ?_⟩
      refine ⟨y0, rfl, .ref a, rfl, a, C, rfl, T, (no _ (by simp)), .inl ⟨ha, fun dx nd ne => ?_⟩⟩
      exact k dx nd ne
theorem xr_BadLetters (F : Fun K "__init__" "BadLetters.__init__" (inClass (top 3) 0) f fd) (cl : XCl K C) (gC : mg "BadLetters" = some (.ref C)) (iC : PySem.W.findIn K (.ref C) "__init__" = some (some (.ref f)))
    (tI : PySem.W.typeIn K (.ref f) = some (.type "function")) (no : ∀ n ∈ (["letters"] : List Str), PySem.W.findIn K (.ref C) n = some none) : XR P w K mg base "BadLetters" C ["letters"] :=
  ⟨cl, gC, no, f, fd, iC, tI, ok_BadLetters F cl.T no, Fun.binds F fun _ _ _ _ _ _ us hl => match us, hl with | [_, _], _ => rfl⟩
theorem sc_TooMany : FnScope ["self", "what", "many", "most"] ["self", "what", "many", "most"] (defScope (inClass (top 4) 0)) := ⟨rfl, rfl, rfl, by decide +kernel, rfl, by decide +kernel, by decide +kernel⟩
theorem ok_TooMany (F : Fun K "__init__" "TooMany.__init__" (inClass (top 4) 0) f fd) (T : OexC K C) (no : ∀ n ∈ (["what", "many", "most"] : List Str), PySem.W.findIn K (.ref C) n = some none) : FnOk P w K mg base CX0 1 f fd ["self", "what", "many", "most"] (spX C ["what", "many", "most"]) := by
  refine F.ok sc_TooMany (fun vs H Q E h => ?_) (fun cdv A outer s H vs Q E hr h => ?_)
  · obtain ⟨a, ys, rfl, hl, _⟩ := h
    exact congrArg Nat.succ hl
  · obtain ⟨a, ys, rfl, hl, ha, k⟩ := h
    match ys, hl with
    | [y0, y1, y2], _ =>
      refine ⟨_, pss_cons (ps_ost (pv 0) (pv 1)) (pss_cons (ps_ost (pv 0) (pv 2)) (pss_one (ps_ost (pv 0) (pv 3)))), ?_⟩
      refine ⟨y0, rfl, .ref a, rfl, a, C, rfl, T, (no _ (by simp)), .inl ⟨ha, fun dx nd ne => ?_⟩⟩
      refine ⟨y1, rfl, .ref a, rfl, a, C, rfl, T, (no _ (by simp)), .inr ⟨dx, _, upd_same, (upd_ne ne).trans upd_same, by simp, ?_⟩⟩
      rw [put_old ne]
      refine ⟨y2, rfl, .ref a, rfl, a, C, rfl, T, (no _ (by simp)), .inr ⟨dx, _, upd_same, (upd_ne ne).trans upd_same, by simp, ?_⟩⟩
      rw [put_old ne]
      exact k dx nd ne
theorem xr_TooMany (F : Fun K "__init__" "TooMany.__init__" (inClass (top 4) 0) f fd) (cl : XCl K C) (gC : mg "TooMany" = some (.ref C)) (iC : PySem.W.findIn K (.ref C) "__init__" = some (some (.ref f)))
    (tI : PySem.W.typeIn K (.ref f) = some (.type "function")) (no : ∀ n ∈ (["what", "many", "most"] : List Str), PySem.W.findIn K (.ref C) n = some none) : XR P w K mg base "TooMany" C ["what", "many", "most"] :=
  ⟨cl, gC, no, f, fd, iC, tI, ok_TooMany F cl.T no, Fun.binds F fun _ _ _ _ _ _ us hl => match us, hl with | [_, _, _, _], _ => rfl⟩
theorem sc_BadRow : FnScope ["self", "number"] ["self", "number"] (defScope (inClass (top 5) 0)) := ⟨rfl, rfl, rfl, by decide +kernel, rfl, by decide +kernel, by decide +kernel⟩
theorem ok_BadRow (F : Fun K "__init__" "BadRow.__init__" (inClass (top 5) 0) f fd) (T : OexC K C) (no : ∀ n ∈ (["number"] : List Str), PySem.W.findIn K (.ref C) n = some none) : FnOk P w K mg base CX0 1 f fd ["self", "number"] (spX C ["number"]) := by
  refine F.ok sc_BadRow (fun vs H Q E h => ?_) (fun cdv A outer s H vs Q E hr h => ?_)
  · obtain ⟨a, ys, rfl, hl, _⟩ := h
    exact congrArg Nat.succ hl
  · obtain ⟨a, ys, rfl, hl, ha, k⟩ := h
    match ys, hl with
    | [y0], _ =>
      refine ⟨_, pss_one (ps_ost (pv 0) (pv 1)), ?_⟩
      refine ⟨y0, rfl, .ref a, rfl, a, C, rfl, T, (no _ (by simp)), .inl ⟨ha, fun dx nd ne => ?_⟩⟩
      exact k dx nd ne
theorem xr_BadRow (F : Fun K "__init__" "BadRow.__init__" (inClass (top 5) 0) f fd) (cl : XCl K C) (gC : mg "BadRow" = some (.ref C)) (iC : PySem.W.findIn K (.ref C) "__init__" = some (some (.ref f)))
    (tI : PySem.W.typeIn K (.ref f) = some (.type "function")) (no : ∀ n ∈ (["number"] : List Str), PySem.W.findIn K (.ref C) n = some none) : XR P w K mg base "BadRow" C ["number"] :=
  ⟨cl, gC, no, f, fd, iC, tI, ok_BadRow F cl.T no, Fun.binds F fun _ _ _ _ _ _ us hl => match us, hl with | [_, _], _ => rfl⟩
theorem sc_Lone : FnScope ["self", "place"] ["self", "place"] (defScope (inClass (top 6) 0)) := ⟨rfl, rfl, rfl, by decide +kernel, rfl, by decide +kernel, by decide +kernel⟩
theorem ok_Lone (F : Fun K "__init__" "Lone.__init__" (inClass (top 6) 0) f fd) (T : OexC K C) (no : ∀ n ∈ (["place"] : List Str), PySem.W.findIn K (.ref C) n = some none) : FnOk P w K mg base CX0 1 f fd ["self", "place"] (spX C ["place"]) := by
  refine F.ok sc_Lone (fun vs H Q E h => ?_) (fun cdv A outer s H vs Q E hr h => ?_)
  · obtain ⟨a, ys, rfl, hl, _⟩ := h
    exact congrArg Nat.succ hl
  · obtain ⟨a, ys, rfl, hl, ha, k⟩ := h
    match ys, hl with
    | [y0], _ =>
      refine ⟨_, pss_one (ps_ost (pv 0) (pv 1)), ?_⟩
      refine ⟨y0, rfl, .ref a, rfl, a, C, rfl, T, (no _ (by simp)), .inl ⟨ha, fun dx nd ne => ?_⟩⟩
      exact k dx nd ne
theorem xr_Lone (F : Fun K "__init__" "Lone.__init__" (inClass (top 6) 0) f fd) (cl : XCl K C) (gC : mg "Lone" = some (.ref C)) (iC : PySem.W.findIn K (.ref C) "__init__" = some (some (.ref f)))
    (tI : PySem.W.typeIn K (.ref f) = some (.type "function")) (no : ∀ n ∈ (["place"] : List Str), PySem.W.findIn K (.ref C) n = some none) : XR P w K mg base "Lone" C ["place"] :=
  ⟨cl, gC, no, f, fd, iC, tI, ok_Lone F cl.T no, Fun.binds F fun _ _ _ _ _ _ us hl => match us, hl with | [_, _], _ => rfl⟩
theorem sc_NoPlace : FnScope ["self", "place"] ["self", "place"] (defScope (inClass (top 7) 0)) := ⟨rfl, rfl, rfl, by decide +kernel, rfl, by decide +kernel, by decide +kernel⟩
theorem ok_NoPlace (F : Fun K "__init__" "NoPlace.__init__" (inClass (top 7) 0) f fd) (T : OexC K C) (no : ∀ n ∈ (["place"] : List Str), PySem.W.findIn K (.ref C) n = some none) : FnOk P w K mg base CX0 1 f fd ["self", "place"] (spX C ["place"]) := by
  refine F.ok sc_NoPlace (fun vs H Q E h => ?_) (fun cdv A outer s H vs Q E hr h => ?_)
  · obtain ⟨a, ys, rfl, hl, _⟩ := h
    exact congrArg Nat.succ hl
  · obtain ⟨a, ys, rfl, hl, ha, k⟩ := h
    match ys, hl with
    | [y0], _ =>
      refine ⟨_, pss_one (ps_ost (pv 0) (pv 1)), ?_⟩
      refine ⟨y0, rfl, .ref a, rfl, a, C, rfl, T, (no _ (by simp)), .inl ⟨ha, fun dx nd ne => ?_⟩⟩
      exact k dx nd ne
theorem xr_NoPlace (F : Fun K "__init__" "NoPlace.__init__" (inClass (top 7) 0) f fd) (cl : XCl K C) (gC : mg "NoPlace" = some (.ref C)) (iC : PySem.W.findIn K (.ref C) "__init__" = some (some (.ref f)))
    (tI : PySem.W.typeIn K (.ref f) = some (.type "function")) (no : ∀ n ∈ (["place"] : List Str), PySem.W.findIn K (.ref C) n = some none) : XR P w K mg base "NoPlace" C ["place"] :=
  ⟨cl, gC, no, f, fd, iC, tI, ok_NoPlace F cl.T no, Fun.binds F fun _ _ _ _ _ _ us hl => match us, hl with | [_, _], _ => rfl⟩
theorem sc_BadKind : FnScope ["self", "side", "number"] ["self", "side", "number"] (defScope (inClass (top 8) 0)) := ⟨rfl, rfl, rfl, by decide +kernel, rfl, by decide +kernel, by decide +kernel⟩
theorem ok_BadKind (F : Fun K "__init__" "BadKind.__init__" (inClass (top 8) 0) f fd) (T : OexC K C) (no : ∀ n ∈ (["side", "number"] : List Str), PySem.W.findIn K (.ref C) n = some none) : FnOk P w K mg base CX0 1 f fd ["self", "side", "number"] (spX C ["side", "number"]) := by
  refine F.ok sc_BadKind (fun vs H Q E h => ?_) (fun cdv A outer s H vs Q E hr h => ?_)
  · obtain ⟨a, ys, rfl, hl, _⟩ := h
    exact congrArg Nat.succ hl
  · obtain ⟨a, ys, rfl, hl, ha, k⟩ := h
    match ys, hl with
    | [y0, y1], _ =>
      refine ⟨_, pss_cons (ps_ost (pv 0) (pv 1)) (pss_one (ps_ost (pv 0) (pv 2))), ?_⟩
      refine ⟨y0, rfl, .ref a, rfl, a, C, rfl, T, (no _ (by simp)), .inl ⟨ha, fun dx nd ne => ?_⟩⟩
      refine ⟨y1, rfl, .ref a, rfl, a, C, rfl, T, (no _ (by simp)), .inr ⟨dx, _, upd_same, (upd_ne ne).trans upd_same, by simp, ?_⟩⟩
      rw [put_old ne]
      exact k dx nd ne
theorem xr_BadKind (F : Fun K "__init__" "BadKind.__init__" (inClass (top 8) 0) f fd) (cl : XCl K C) (gC : mg "BadKind" = some (.ref C)) (iC : PySem.W.findIn K (.ref C) "__init__" = some (some (.ref f)))
    (tI : PySem.W.typeIn K (.ref f) = some (.type "function")) (no : ∀ n ∈ (["side", "number"] : List Str), PySem.W.findIn K (.ref C) n = some none) : XR P w K mg base "BadKind" C ["side", "number"] :=
  ⟨cl, gC, no, f, fd, iC, tI, ok_BadKind F cl.T no, Fun.binds F fun _ _ _ _ _ _ us hl => match us, hl with | [_, _, _], _ => rfl⟩
theorem sc_BadName : FnScope ["self", "name"] ["self", "name"] (defScope (inClass (top 9) 0)) := ⟨rfl, rfl, rfl, by decide +kernel, rfl, by decide +kernel, by decide +kernel⟩
theorem ok_BadName (F : Fun K "__init__" "BadName.__init__" (inClass (top 9) 0) f fd) (T : OexC K C) (no : ∀ n ∈ (["name"] : List Str), PySem.W.findIn K (.ref C) n = some none) : FnOk P w K mg base CX0 1 f fd ["self", "name"] (spX C ["name"]) := by
  refine F.ok sc_BadName (fun vs H Q E h => ?_) (fun cdv A outer s H vs Q E hr h => ?_)
  · obtain ⟨a, ys, rfl, hl, _⟩ := h
    exact congrArg Nat.succ hl
  · obtain ⟨a, ys, rfl, hl, ha, k⟩ := h
    match ys, hl with
    | [y0], _ =>
      refine ⟨_, pss_one (ps_ost (pv 0) (pv 1)), ?_⟩
      refine ⟨y0, rfl, .ref a, rfl, a, C, rfl, T, (no _ (by simp)), .inl ⟨ha, fun dx nd ne => ?_⟩⟩
      exact k dx nd ne
theorem xr_BadName (F : Fun K "__init__" "BadName.__init__" (inClass (top 9) 0) f fd) (cl : XCl K C) (gC : mg "BadName" = some (.ref C)) (iC : PySem.W.findIn K (.ref C) "__init__" = some (some (.ref f)))
    (tI : PySem.W.typeIn K (.ref f) = some (.type "function")) (no : ∀ n ∈ (["name"] : List Str), PySem.W.findIn K (.ref C) n = some none) : XR P w K mg base "BadName" C ["name"] :=
  ⟨cl, gC, no, f, fd, iC, tI, ok_BadName F cl.T no, Fun.binds F fun _ _ _ _ _ _ us hl => match us, hl with | [_, _], _ => rfl⟩
theorem sc_BadWord : FnScope ["self", "number"] ["self", "number"] (defScope (inClass (top 10) 0)) := ⟨rfl, rfl, rfl, by decide +kernel, rfl, by decide +kernel, by decide +kernel⟩
theorem ok_BadWord (F : Fun K "__init__" "BadWord.__init__" (inClass (top 10) 0) f fd) (T : OexC K C) (no : ∀ n ∈ (["number"] : List Str), PySem.W.findIn K (.ref C) n = some none) : FnOk P w K mg base CX0 1 f fd ["self", "number"] (spX C ["number"]) := by
  refine F.ok sc_BadWord (fun vs H Q E h => ?_) (fun cdv A outer s H vs Q E hr h => ?_)
  · obtain ⟨a, ys, rfl, hl, _⟩ := h
    exact congrArg Nat.succ hl
  · obtain ⟨a, ys, rfl, hl, ha, k⟩ := h
    match ys, hl with
    | [y0], _ =>
      refine ⟨_, pss_one (ps_ost (pv 0) (pv 1)), ?_⟩
      refine ⟨y0, rfl, .ref a, rfl, a, C, rfl, T, (no _ (by simp)), .inl ⟨ha, fun dx nd ne => ?_⟩⟩
      exact k dx nd ne
theorem xr_BadWord (F : Fun K "__init__" "BadWord.__init__" (inClass (top 10) 0) f fd) (cl : XCl K C) (gC : mg "BadWord" = some (.ref C)) (iC : PySem.W.findIn K (.ref C) "__init__" = some (some (.ref f)))
    (tI : PySem.W.typeIn K (.ref f) = some (.type "function")) (no : ∀ n ∈ (["number"] : List Str), PySem.W.findIn K (.ref C) n = some none) : XR P w K mg base "BadWord" C ["number"] :=
  ⟨cl, gC, no, f, fd, iC, tI, ok_BadWord F cl.T no, Fun.binds F fun _ _ _ _ _ _ us hl => match us, hl with | [_, _], _ => rfl⟩
end
def ratB (K : PySem.W.Frag) (C : Addr) : Bool :=
  (match PySem.W.clsIn K C with
    | some cd => (match cd.mro with
      | .ref D :: _ => decide (D = C)
      | _ => false)
    | none => false) && (decide (PySem.W.subIn K (.type "int") (.ref C) = some false) && (decide (PySem.W.subIn K (.ref C) (.type "int") = some false) && (decide (PySem.W.subIn K (.type "tuple") (.ref C) = some false) && (PySem.W.selfFirst K C &&
    (decide (PySem.W.findIn K (.ref C) "__class__" = some (some (.builtin "object.__class__"))) && (decide (PySem.W.specialIn K (.builtin "object.__class__") "__get__" = some (some (.builtin "getset_descriptor.__get__"))) && (decide (PySem.W.takesIn K (.builtin "object.__class__") = some true) && (decide (PySem.W.mroIn K C (.type "object") = some true) &&
    (decide (PySem.W.kitOne K (.ref C) (.ref C) = some true) && (decide (PySem.W.kitOne K (.type "int") (.ref C) = some false) && (decide (PySem.W.kitOne K (.type "tuple") (.ref C) = some false) &&
    (decide (PySem.W.findIn K (.ref C) "__ne__" = some (some (.builtin "object.__ne__"))) && decide (PySem.W.subIn K (.ref C) (.type "object") = some true)))))))))))))
theorem ratB_ok {K : PySem.W.Frag} {C : Addr} (h : ratB K C = true) (cl : Cls K C) (na : ∀ g ∈ six6, NoAttr K C g) : TreeK K C := by
  unfold ratB at h
  obtain ⟨h0, h⟩ := He.ba h
  simp only [Bool.and_eq_true, decide_eq_true_eq] at h
  obtain ⟨h1, h2, h3, h4, h5, h6, h7, h8, h9, h10, h11, h12, h13⟩ := h
  refine ⟨⟨?_, h1, h2, h3, h4⟩, cl, na, h5, h6, h7, h8, h9, h11, h12, h13⟩
  cases e : PySem.W.clsIn K C with
  | none =>
    rw [e] at h0
    cases h0
  | some cd =>
    rw [e] at h0
    cases e2 : cd.mro with
    | nil =>
      simp only [e2] at h0
      cases h0
    | cons v rest =>
      simp only [e2] at h0
      cases v with
      | ref D =>
        have q : D = C := of_decide_eq_true h0
        subst q
        exact ⟨cd, rest, rfl, e2⟩
      | _ => cases h0
theorem rulB_ok {K : PySem.W.Frag} {C : Addr} (h : ratB K C = true) (cl : Cls K C) (n1 : NoAttr K C "root") (n2 : NoAttr K C "others") : RuleK K C := by
  unfold ratB at h
  obtain ⟨h0, h⟩ := He.ba h
  simp only [Bool.and_eq_true, decide_eq_true_eq] at h
  obtain ⟨h1, h2, h3, h4, h5, h6, h7, h8, h9, h10, h11, h12, h13⟩ := h
  refine ⟨⟨?_, h1, h2, h3, h4⟩, cl, n1, n2, h5, h6, h7, h8, h9, h11, h12, h13⟩
  cases e : PySem.W.clsIn K C with
  | none =>
    rw [e] at h0
    cases h0
  | some cd =>
    rw [e] at h0
    cases e2 : cd.mro with
    | nil =>
      simp only [e2] at h0
      cases h0
    | cons v rest =>
      simp only [e2] at h0
      cases v with
      | ref D =>
        have q : D = C := of_decide_eq_true h0
        subst q
        exact ⟨cd, rest, rfl, e2⟩
      | _ => cases h0
def hasB (K : PySem.W.Frag) (C : Addr) (m : Str) : Bool := He.eqO (PySem.W.findIn K (.ref C) m) (some (some (.ref (He.ma K C m)))) && PySem.W.isFn K (.ref (He.ma K C m))
theorem hasB_ok {K : PySem.W.Frag} {C : Addr} {m : Str} (h : hasB K C m = true) : Has K C m (He.ma K C m) := by
  obtain ⟨h1, h2⟩ := He.ba h
  exact ⟨He.eqO_ok h1, h2⟩
def wfT (K : PySem.W.Frag) : Addr := He5.wf K (He.ga K "Tree") "classmethod" "of"
def ofD : He5.DefA := ⟨wfT, "of", "Tree.of", defArgs (tm 1), defBody (tm 1), defScope (tm 1), [], []⟩
theorem cread {K : PySem.W.Frag} {C : Addr} (h0 : PySem.W.readsIn K C (.type "type") = true) : ClX.CRead K C (.type "type") := by
  refine ⟨h0, ?_⟩
  have h := h0
  unfold PySem.W.readsIn at h
  obtain ⟨h, _⟩ := He.ba h
  obtain ⟨h, _⟩ := He.ba h
  obtain ⟨h, h3⟩ := He.ba h
  obtain ⟨_, h2⟩ := He.ba h
  unfold PySem.W.specialIn
  rw [beq_iff_eq.mp h2, Option.bind_some]
  exact beq_iff_eq.mp h3
def exs16 (K : PySem.W.Frag) : List Bool := [(K.lookup sysModules).isSome,
  decide (PySem.W.kitOne K (.ref (He.ga K "NotExact")) (.ref (He.ga K "TreesError")) = some true),
  ratB K (He.ga K "Tree"),
  hasB K (He.ga K "Tree") "__eq__",
  He5.wrapB K (He.ga K "Tree") "classmethod" "classmethod.__get__" "of",
  PySem.W.fnIn K (He5.wf K (He.ga K "Tree") "classmethod" "of"),
  PySem.W.readsIn K (He.ga K "Tree") (.type "type"),
  ofD.ok K,
  ratB K (He.ga K "Rule"),
  He.tupB K "BARE" [.bl false, .bl false, .int 0],
  xB K (He.ga K "NotExact"),
  (He.Fa.exc "NotExact").ok K,
  decide ((He.cT K ("in_order", none)).2 ≠ (He.cT K ("_law_are_refused", none)).2),
  decide ((He.cT K ("in_order", none)).2 ≠ (He.cT K ("_law_long", none)).2),
  decide ((He.cT K ("in_order", none)).2 ≠ (He.cT K ("law", none)).2),
  decide ((He.cT K ("_law_are_refused", none)).2 ≠ (He.cT K ("_law_long", none)).2),
  decide ((He.cT K ("_law_are_refused", none)).2 ≠ (He.cT K ("law", none)).2),
  decide ((He.cT K ("_law_long", none)).2 ≠ (He.cT K ("law", none)).2),
  (xB K (He.ga K "BadLetters") && iniB K "BadLetters" [("letters" : Str)]),
  (xB K (He.ga K "TooMany") && iniB K "TooMany" [("what" : Str), ("many" : Str), ("most" : Str)]),
  (xB K (He.ga K "BadRow") && iniB K "BadRow" [("number" : Str)]),
  (xB K (He.ga K "Lone") && iniB K "Lone" [("place" : Str)]),
  (xB K (He.ga K "NoPlace") && iniB K "NoPlace" [("place" : Str)]),
  (xB K (He.ga K "BadKind") && iniB K "BadKind" [("side" : Str), ("number" : Str)]),
  (xB K (He.ga K "BadName") && iniB K "BadName" [("name" : Str)]),
  (xB K (He.ga K "BadWord") && iniB K "BadWord" [("number" : Str)])]
def ex16 (K : PySem.W.Frag) : Bool := (exs16 K).all id
def fa16 : List He.Fa := [.glo "is_letters", .glo "check_letters", .glo "is_word", .glo "check_words", .glo "check_places", .glo "is_row", .glo "table_of", .glo "letters_below", .glo "shared", .glo "number_of_beginnings", .glo "marks_of", .glo "kind_of", .glo "is_kind", .glo "checked_kinds", .glo "flags_let", .glo "kinds_with", .glo "joined_kind", .glo "known_rule", .glo "_law_pen_of", .glo "_law_draw", .glo "_law_pick", .glo "_law_shuffled", .glo "_law_letters_of", .glo "_law_some_words", .glo "_law_in_order", .glo "_law_beginnings", .glo "_law_all_kinds", .glo "_law_kind", .glo "_law_met", .glo "_law_near_exact", .glo "_law_flags", .glo "_law_trees_of", .glo "_law_is_exact", .glo "_law_is_tree", .glo "in_order", .glo "_law_are_refused", .glo "_law_long", .glo "law", .glo "TreesError", .glo "Tree", .glo "Rule", .glo "BARE", .glo "NotExact", .glo "BadLetters", .glo "TooMany", .glo "BadRow", .glo "Lone", .glo "NoPlace", .glo "BadKind", .glo "BadName", .glo "BadWord", .free "isinstance", .free "str", .free "len", .free "set", .free "all", .free "tuple", .free "list", .free "bool", .free "enumerate", .free "max", .free "sorted", .free "repr", .free "int", .free "abs", .free "range", .free "min", .str "ALPHABET" alpha, .int "LONGEST_WORD" 200, .int "MOST_PLACES" 2000, .cls "Tree", .cls "Rule", .noat "Tree" "_below", .noat "Tree" "_table", .noat "Tree" "letters", .noat "Tree" "rows", .noat "Tree" "size", .noat "Tree" "height", .noat "Rule" "root", .noat "Rule" "others", .meth "Tree" "has", .meth "Tree" "row", .meth "Tree" "below", .meth "Rule" "broken_at", .meth "Rule" "keeps", .meth "Rule" "is_exact", .meth "Rule" "tree_of", .mkr "Tree", .mkr "Rule", .exm "NotExact" "NotExact" true, .exm "BadLetters" "NotExact" false, .exm "BadLetters" "BadLetters" true, .exm "BadWord" "NotExact" false, .exm "BadWord" "BadLetters" false, .exm "BadWord" "BadWord" true, .exm "TooMany" "NotExact" false, .exm "TooMany" "BadLetters" false, .exm "TooMany" "BadWord" false, .exm "TooMany" "TooMany" true]
def dDef (x : Str) (st : Stmt) : He.DefD := ⟨(x, none), x, x, defArgs st, defBody st, defScope st, [], []⟩
def dMet (x m q : Str) (st : Stmt) : He.DefD := ⟨(x, some m), m, q, defArgs st, defBody st, defScope st, [], []⟩
def fn16 : List He.DefD := [dDef "is_letters" (top 16), dDef "check_letters" (top 17), dDef "is_word" (top 18), dDef "check_words" (top 19), dDef "check_places" (top 20), dDef "is_row" (top 22), dDef "table_of" (top 23), dDef "letters_below" (top 24), dDef "shared" (top 25), dDef "number_of_beginnings" (top 26), dDef "marks_of" (top 27), dDef "kind_of" (top 31), dDef "is_kind" (top 32), dDef "checked_kinds" (top 33), dDef "flags_let" (top 34), dDef "kinds_with" (top 36), dDef "joined_kind" (top 37), dDef "known_rule" (top 38), dDef "_law_pen_of" (top 40), dDef "_law_draw" (top 41), dDef "_law_pick" (top 42), dDef "_law_shuffled" (top 43), dDef "_law_letters_of" (top 44), dDef "_law_some_words" (top 45), dDef "_law_in_order" (top 46), dDef "_law_beginnings" (top 47), dDef "_law_all_kinds" (top 48), dDef "_law_kind" (top 49), dDef "_law_met" (top 50), dDef "_law_near_exact" (top 51), dDef "_law_flags" (top 52), dDef "_law_trees_of" (top 53), dDef "_law_is_exact" (top 54), dDef "_law_is_tree" (top 55), dDef "in_order" (top 21), dDef "_law_are_refused" (top 56), dDef "_law_long" (top 57), dDef "law" (top 58), dMet "BadLetters" "__init__" "BadLetters.__init__" (inClass (top 3) 0), dMet "TooMany" "__init__" "TooMany.__init__" (inClass (top 4) 0), dMet "BadRow" "__init__" "BadRow.__init__" (inClass (top 5) 0), dMet "Lone" "__init__" "Lone.__init__" (inClass (top 6) 0), dMet "NoPlace" "__init__" "NoPlace.__init__" (inClass (top 7) 0), dMet "BadKind" "__init__" "BadKind.__init__" (inClass (top 8) 0), dMet "BadName" "__init__" "BadName.__init__" (inClass (top 9) 0), dMet "BadWord" "__init__" "BadWord.__init__" (inClass (top 10) 0), dMet "Tree" "__init__" "Tree.__init__" (inClass (top 28) 0), dMet "Tree" "__eq__" "Tree.__eq__" (inClass (top 28) 2), dMet "Tree" "has" "Tree.has" (inClass (top 28) 3), dMet "Tree" "row" "Tree.row" (inClass (top 28) 4), dMet "Tree" "below" "Tree.below" (inClass (top 28) 5), dMet "Rule" "__init__" "Rule.__init__" (inClass (top 35) 0), dMet "Rule" "keeps" "Rule.keeps" (inClass (top 35) 2), dMet "Rule" "broken_at" "Rule.broken_at" (inClass (top 35) 3), dMet "Rule" "is_exact" "Rule.is_exact" (inClass (top 35) 4), dMet "Rule" "tree_of" "Rule.tree_of" (inClass (top 35) 5)]
def tf16 : List He.Defn := [("in_order", none), ("_law_are_refused", none), ("_law_long", none), ("law", none)]
/-! ### the Hook -/
def KF (g : Addr → Option Obj) : PySem.W.Frag := He.frT g (sysModules :: He5.asA g 5)
def obsK (g : Addr → Option Obj) : He.AlX := (He.obsT fa16 fn16 [] (KF g), ex16 (KF g) && He.tabsB g tf16 (KF g))
abbrev SaysK (w : World) (h : Heap) (K : PySem.W.Frag) : Prop := He.SaysX fa16 fn16 [] tf16 ex16 w h K
theorem saysK {w : World} {h : Heap} (e : obsK h.get? = He.valX fn16 [] w) : SaysK w h (KF h.get?) := by
  obtain ⟨m1, m2⟩ := He.ba (show (ex16 (KF h.get?) && He.tabsB h.get? tf16 (KF h.get?)) = true from congrArg Prod.snd e)
  have at_ : ∀ p ∈ tf16, PySem.W.codeHdIn (KF h.get?) (He.cT (KF h.get?) p).1 (He.cT (KF h.get?) p).2 = true ∧ ∃ o, h.get? (He.cT (KF h.get?) p).2 = some o ∧ He.emptyTab o = true := fun p hp => by
    obtain ⟨a1, a2⟩ := He.ba (List.all_eq_true.mp m2 p hp)
    refine ⟨a1, ?_⟩
    cases z : h.get? (He.cT (KF h.get?) p).2 with
    | none => rw [z] at a2; cases a2
    | some o => rw [z] at a2; exact ⟨o, rfl, a2⟩
  refine ⟨congrArg Prod.fst e, m1, fun p hp => (at_ p hp).1, fun p hp => ?_, fun p hp => ?_⟩
  · obtain ⟨_, o, z, y⟩ := at_ p hp
    exact He.frT_none z y
  · obtain ⟨_, o, z, y⟩ := at_ p hp
    rw [z, He.emptyTab_eq y]
def obsO (g : Addr → Option Obj) : He.AlX × He5.FnW := (obsK g, He5.fnA (KF g) (wfT (KF g)))
def hkK : PySem.W.Hook where
  α := He.AlX × He5.FnW
  obs := fun s => obsO s.heap.get?
  val := fun w => (He.valX fn16 [] w, ofD.val)
  says := fun w h => ∃ K : PySem.W.Frag, K.In h ∧ SaysK w h K ∧ He5.fnA K (wfT K) = ofD.val
  of := fun _ _ e => ⟨_, He.frT_in, saysK (congrArg Prod.fst e), congrArg Prod.snd e⟩
  keeps := fun _ _ _ ⟨K, hK, c, o⟩ k => ⟨K, PySem.W.Frag.In.keeps hK k, ⟨c.t, c.more, c.hd, c.out, fun p hp => k _ _ (c.empty p hp)⟩, o⟩
def obK (s : PySem.W.SharedT) : He.AlX × He5.FnW := obsO (HandSHeadRun.getT s)
theorem obK_eq (s : PySem.W.SharedT) : obK s = hkK.obs s.abs := by
  have e : HandSHeadRun.getT s = s.abs.heap.get? := funext (HandSHeadRun.getT_eq s)
  show obsO _ = obsO _
  rw [e]
section
variable {P : Program} {w : World} {K : PySem.W.Frag} {mg : Str → Option Value} {base h : Heap}
theorem SaysK.fun_ (c : SaysK w h K) {d : He.DefD} {st : Stmt} (hm : d ∈ fn16) (hp : d.params = defArgs st) (hb : d.body = defBody st) (hs : d.scope = defScope st) (hd : d.dfl = []) : ∃ fd, Fun K d.name d.qual st (He.fAd K d.at_) fd := by
  obtain ⟨fd, F⟩ := c.t.d.defs hm
  obtain ⟨oc, od, dV, kV, doc, pm, an, cdv, ct, osl, e, lk, hcd, hD, _⟩ := F.ex
  have hdv : d.dvs K = [] := by
    unfold He.DefD.dvs
    rw [hd]
    rfl
  have e3 : dV = .none := by
    rcases hD with ⟨_, z⟩ | ⟨z, _⟩
    · exact z
    · exact absurd hdv z
  subst e3
  refine ⟨fd, ⟨oc, od, kV, doc, pm, an, cdv, ct, osl, ?_, lk, hcd⟩, F.kp⟩
  rw [e, hp, hb, hs]
theorem SaysK.funT (c : SaysK w h K) {d : He.DefD} {st : Stmt} (hm : d ∈ fn16) (hp : d.params = defArgs st) (hb : d.body = defBody st) (hs : d.scope = defScope st) (hd : d.dfl = []) : ∃ fd, FunT K d.name d.qual st (He.fAd K d.at_) fd (He.cT K d.at_).1 := by
  obtain ⟨fd, F⟩ := c.fun_ hm hp hb hs hd
  obtain ⟨oc, od, kV, doc, pm, an, cdv, ct, osl, e, lk, hcd⟩ := F.ex
  obtain ⟨cc, rfl⟩ := He.codeIn_ref hcd
  have z : He.codeOf K d.at_ = cc := He.codeOf_eq lk (by rw [e])
  refine ⟨fd, ⟨oc, od, kV, doc, pm, an, ct, osl, ?_, lk, ?_⟩, F.kp⟩
  · show fd = _
    rw [e]
    show _ = PySem.W.fnOf _ _ _ _ _ _ _ _ _ _ (Value.ref (He.codeOf K d.at_)) _
    rw [z]
  · show PySem.W.codeIn K (.ref (He.codeOf K d.at_)) _ = true
    rw [z]
    exact hcd
theorem SaysK.is (c : SaysK w h K) {b : Bool} (i : Nat) (e : (exs16 K)[i]? = some b) : b = true := by
  have m : (exs16 K).all id = true := c.more
  exact List.all_eq_true.mp m b (List.mem_of_getElem? e)
theorem SaysK.fact (c : SaysK w h K) (i : Nat) {f : He.Fa} (e : fa16[i]? = some f) : f.ok K = true := c.t.d.facts (List.mem_of_getElem? e)
theorem SaysK.glo (c : SaysK w h K) (Kb : K.In base) (hm : base.Ns mainGlobals mg) (i : Nat) {x : Str} (e : fa16[i]? = some (.glo x)) : mg x = some (.ref (He.ga K x)) := He.glo_ok Kb hm (c.fact i e)
theorem SaysK.free (c : SaysK w h K) (Kb : K.In base) (hm : base.Ns mainGlobals mg) (i : Nat) {x : Str} (e : fa16[i]? = some (.free x)) : mg x = none := He.free_ok Kb hm (c.fact i e)
def tabsK (K : PySem.W.Frag) : List (Addr × Addr) := tf16.map fun p => He.cT K p
def TK (K : PySem.W.Frag) : List (Addr × Str) := [((He.cT K ("in_order", none)).2, ("in_order" : Str) ++ ".<locals>." ++ "<lambda>"), ((He.cT K ("_law_are_refused", none)).2, ("_law_are_refused" : Str) ++ ".<locals>." ++ "<lambda>"), ((He.cT K ("_law_long", none)).2, ("_law_long" : Str) ++ ".<locals>." ++ "<lambda>"), ((He.cT K ("law", none)).2, ("law" : Str) ++ ".<locals>." ++ "<lambda>")]
theorem law_all (c : SaysK w h K) (cO : He5.fnA K (wfT K) = ofD.val) (Kb : K.In base) (hm : base.Ns mainGlobals mg) (TB : ∀ p ∈ tabsK K, TabB base mg p.1 p.2) : ∃ fd, Binds K fd ["script"] [] ∧ FnG P w K mg base CX0 13 (He.ga K "law") fd ["script"] (spLaw K (TK K)) := by
  obtain ⟨v_is_letters_d, v_is_letters_F⟩ := c.fun_ (d := dDef "is_letters" (top 16)) (st := top 16) (List.mem_of_getElem? (i := 0) rfl) rfl rfl rfl rfl
  have v_is_letters_b : Binds K v_is_letters_d ["letters"] [] := Fun.binds v_is_letters_F fun _ _ _ _ _ _ us hl => match us, hl with | [_], _ => rfl
  have v_is_letters_g := c.glo Kb hm 0 (x := "is_letters") rfl
  obtain ⟨v_check_letters_d, v_check_letters_F⟩ := c.fun_ (d := dDef "check_letters" (top 17)) (st := top 17) (List.mem_of_getElem? (i := 1) rfl) rfl rfl rfl rfl
  have v_check_letters_b : Binds K v_check_letters_d ["letters"] [] := Fun.binds v_check_letters_F fun _ _ _ _ _ _ us hl => match us, hl with | [_], _ => rfl
  have v_check_letters_g := c.glo Kb hm 1 (x := "check_letters") rfl
  obtain ⟨v_is_word_d, v_is_word_F⟩ := c.fun_ (d := dDef "is_word" (top 18)) (st := top 18) (List.mem_of_getElem? (i := 2) rfl) rfl rfl rfl rfl
  have v_is_word_b : Binds K v_is_word_d ["letters", "word"] [] := Fun.binds v_is_word_F fun _ _ _ _ _ _ us hl => match us, hl with | [_, _], _ => rfl
  have v_is_word_g := c.glo Kb hm 2 (x := "is_word") rfl
  obtain ⟨v_check_words_d, v_check_words_F⟩ := c.fun_ (d := dDef "check_words" (top 19)) (st := top 19) (List.mem_of_getElem? (i := 3) rfl) rfl rfl rfl rfl
  have v_check_words_b : Binds K v_check_words_d ["letters", "words"] [] := Fun.binds v_check_words_F fun _ _ _ _ _ _ us hl => match us, hl with | [_, _], _ => rfl
  have v_check_words_g := c.glo Kb hm 3 (x := "check_words") rfl
  obtain ⟨v_check_places_d, v_check_places_F⟩ := c.fun_ (d := dDef "check_places" (top 20)) (st := top 20) (List.mem_of_getElem? (i := 4) rfl) rfl rfl rfl rfl
  have v_check_places_b : Binds K v_check_places_d ["many"] [] := Fun.binds v_check_places_F fun _ _ _ _ _ _ us hl => match us, hl with | [_], _ => rfl
  have v_check_places_g := c.glo Kb hm 4 (x := "check_places") rfl
  obtain ⟨v_is_row_d, v_is_row_F⟩ := c.fun_ (d := dDef "is_row" (top 22)) (st := top 22) (List.mem_of_getElem? (i := 5) rfl) rfl rfl rfl rfl
  have v_is_row_b : Binds K v_is_row_d ["letters", "row"] [] := Fun.binds v_is_row_F fun _ _ _ _ _ _ us hl => match us, hl with | [_, _], _ => rfl
  have v_is_row_g := c.glo Kb hm 5 (x := "is_row") rfl
  obtain ⟨v_table_of_d, v_table_of_F⟩ := c.fun_ (d := dDef "table_of" (top 23)) (st := top 23) (List.mem_of_getElem? (i := 6) rfl) rfl rfl rfl rfl
  have v_table_of_b : Binds K v_table_of_d ["letters", "rows"] [] := Fun.binds v_table_of_F fun _ _ _ _ _ _ us hl => match us, hl with | [_, _], _ => rfl
  have v_table_of_g := c.glo Kb hm 6 (x := "table_of") rfl
  obtain ⟨v_letters_below_d, v_letters_below_F⟩ := c.fun_ (d := dDef "letters_below" (top 24)) (st := top 24) (List.mem_of_getElem? (i := 7) rfl) rfl rfl rfl rfl
  have v_letters_below_b : Binds K v_letters_below_d ["places"] [] := Fun.binds v_letters_below_F fun _ _ _ _ _ _ us hl => match us, hl with | [_], _ => rfl
  have v_letters_below_g := c.glo Kb hm 7 (x := "letters_below") rfl
  obtain ⟨v_shared_d, v_shared_F⟩ := c.fun_ (d := dDef "shared" (top 25)) (st := top 25) (List.mem_of_getElem? (i := 8) rfl) rfl rfl rfl rfl
  have v_shared_b : Binds K v_shared_d ["one", "other"] [] := Fun.binds v_shared_F fun _ _ _ _ _ _ us hl => match us, hl with | [_, _], _ => rfl
  have v_shared_g := c.glo Kb hm 8 (x := "shared") rfl
  obtain ⟨v_number_of_beginnings_d, v_number_of_beginnings_F⟩ := c.fun_ (d := dDef "number_of_beginnings" (top 26)) (st := top 26) (List.mem_of_getElem? (i := 9) rfl) rfl rfl rfl rfl
  have v_number_of_beginnings_b : Binds K v_number_of_beginnings_d ["words"] [] := Fun.binds v_number_of_beginnings_F fun _ _ _ _ _ _ us hl => match us, hl with | [_], _ => rfl
  have v_number_of_beginnings_g := c.glo Kb hm 9 (x := "number_of_beginnings") rfl
  obtain ⟨v_marks_of_d, v_marks_of_F⟩ := c.fun_ (d := dDef "marks_of" (top 27)) (st := top 27) (List.mem_of_getElem? (i := 10) rfl) rfl rfl rfl rfl
  have v_marks_of_b : Binds K v_marks_of_d ["words"] [] := Fun.binds v_marks_of_F fun _ _ _ _ _ _ us hl => match us, hl with | [_], _ => rfl
  have v_marks_of_g := c.glo Kb hm 10 (x := "marks_of") rfl
  obtain ⟨v_kind_of_d, v_kind_of_F⟩ := c.fun_ (d := dDef "kind_of" (top 31)) (st := top 31) (List.mem_of_getElem? (i := 11) rfl) rfl rfl rfl rfl
  have v_kind_of_b : Binds K v_kind_of_d ["tree", "place"] [] := Fun.binds v_kind_of_F fun _ _ _ _ _ _ us hl => match us, hl with | [_, _], _ => rfl
  have v_kind_of_g := c.glo Kb hm 11 (x := "kind_of") rfl
  obtain ⟨v_is_kind_d, v_is_kind_F⟩ := c.fun_ (d := dDef "is_kind" (top 32)) (st := top 32) (List.mem_of_getElem? (i := 12) rfl) rfl rfl rfl rfl
  have v_is_kind_b : Binds K v_is_kind_d ["kind"] [] := Fun.binds v_is_kind_F fun _ _ _ _ _ _ us hl => match us, hl with | [_], _ => rfl
  have v_is_kind_g := c.glo Kb hm 12 (x := "is_kind") rfl
  obtain ⟨v_checked_kinds_d, v_checked_kinds_F⟩ := c.fun_ (d := dDef "checked_kinds" (top 33)) (st := top 33) (List.mem_of_getElem? (i := 13) rfl) rfl rfl rfl rfl
  have v_checked_kinds_b : Binds K v_checked_kinds_d ["side", "kinds"] [] := Fun.binds v_checked_kinds_F fun _ _ _ _ _ _ us hl => match us, hl with | [_, _], _ => rfl
  have v_checked_kinds_g := c.glo Kb hm 13 (x := "checked_kinds") rfl
  obtain ⟨v_flags_let_d, v_flags_let_F⟩ := c.fun_ (d := dDef "flags_let" (top 34)) (st := top 34) (List.mem_of_getElem? (i := 14) rfl) rfl rfl rfl rfl
  have v_flags_let_b : Binds K v_flags_let_d ["kinds", "mark", "children"] [] := Fun.binds v_flags_let_F fun _ _ _ _ _ _ us hl => match us, hl with | [_, _, _], _ => rfl
  have v_flags_let_g := c.glo Kb hm 14 (x := "flags_let") rfl
  obtain ⟨v_kinds_with_d, v_kinds_with_F⟩ := c.fun_ (d := dDef "kinds_with" (top 36)) (st := top 36) (List.mem_of_getElem? (i := 15) rfl) rfl rfl rfl rfl
  have v_kinds_with_b : Binds K v_kinds_with_d ["flags"] [] := Fun.binds v_kinds_with_F fun _ _ _ _ _ _ us hl => match us, hl with | [_], _ => rfl
  have v_kinds_with_g := c.glo Kb hm 15 (x := "kinds_with") rfl
  obtain ⟨v_joined_kind_d, v_joined_kind_F⟩ := c.fun_ (d := dDef "joined_kind" (top 37)) (st := top 37) (List.mem_of_getElem? (i := 16) rfl) rfl rfl rfl rfl
  have v_joined_kind_b : Binds K v_joined_kind_d ["kind"] [] := Fun.binds v_joined_kind_F fun _ _ _ _ _ _ us hl => match us, hl with | [_], _ => rfl
  have v_joined_kind_g := c.glo Kb hm 16 (x := "joined_kind") rfl
  obtain ⟨v_known_rule_d, v_known_rule_F⟩ := c.fun_ (d := dDef "known_rule" (top 38)) (st := top 38) (List.mem_of_getElem? (i := 17) rfl) rfl rfl rfl rfl
  have v_known_rule_b : Binds K v_known_rule_d ["name"] [] := Fun.binds v_known_rule_F fun _ _ _ _ _ _ us hl => match us, hl with | [_], _ => rfl
  have v_known_rule_g := c.glo Kb hm 17 (x := "known_rule") rfl
  obtain ⟨v_law_pen_of_d, v_law_pen_of_F⟩ := c.fun_ (d := dDef "_law_pen_of" (top 40)) (st := top 40) (List.mem_of_getElem? (i := 18) rfl) rfl rfl rfl rfl
  have v_law_pen_of_b : Binds K v_law_pen_of_d ["script"] [] := Fun.binds v_law_pen_of_F fun _ _ _ _ _ _ us hl => match us, hl with | [_], _ => rfl
  have v_law_pen_of_g := c.glo Kb hm 18 (x := "_law_pen_of") rfl
  obtain ⟨v_law_draw_d, v_law_draw_F⟩ := c.fun_ (d := dDef "_law_draw" (top 41)) (st := top 41) (List.mem_of_getElem? (i := 19) rfl) rfl rfl rfl rfl
  have v_law_draw_b : Binds K v_law_draw_d ["pen", "many"] [] := Fun.binds v_law_draw_F fun _ _ _ _ _ _ us hl => match us, hl with | [_, _], _ => rfl
  have v_law_draw_g := c.glo Kb hm 19 (x := "_law_draw") rfl
  obtain ⟨v_law_pick_d, v_law_pick_F⟩ := c.fun_ (d := dDef "_law_pick" (top 42)) (st := top 42) (List.mem_of_getElem? (i := 20) rfl) rfl rfl rfl rfl
  have v_law_pick_b : Binds K v_law_pick_d ["pen", "items"] [] := Fun.binds v_law_pick_F fun _ _ _ _ _ _ us hl => match us, hl with | [_, _], _ => rfl
  have v_law_pick_g := c.glo Kb hm 20 (x := "_law_pick") rfl
  obtain ⟨v_law_shuffled_d, v_law_shuffled_F⟩ := c.fun_ (d := dDef "_law_shuffled" (top 43)) (st := top 43) (List.mem_of_getElem? (i := 21) rfl) rfl rfl rfl rfl
  have v_law_shuffled_b : Binds K v_law_shuffled_d ["pen", "items"] [] := Fun.binds v_law_shuffled_F fun _ _ _ _ _ _ us hl => match us, hl with | [_, _], _ => rfl
  have v_law_shuffled_g := c.glo Kb hm 21 (x := "_law_shuffled") rfl
  obtain ⟨v_law_letters_of_d, v_law_letters_of_F⟩ := c.fun_ (d := dDef "_law_letters_of" (top 44)) (st := top 44) (List.mem_of_getElem? (i := 22) rfl) rfl rfl rfl rfl
  have v_law_letters_of_b : Binds K v_law_letters_of_d ["pen"] [] := Fun.binds v_law_letters_of_F fun _ _ _ _ _ _ us hl => match us, hl with | [_], _ => rfl
  have v_law_letters_of_g := c.glo Kb hm 22 (x := "_law_letters_of") rfl
  obtain ⟨v_law_some_words_d, v_law_some_words_F⟩ := c.fun_ (d := dDef "_law_some_words" (top 45)) (st := top 45) (List.mem_of_getElem? (i := 23) rfl) rfl rfl rfl rfl
  have v_law_some_words_b : Binds K v_law_some_words_d ["pen", "letters", "many", "longest"] [] := Fun.binds v_law_some_words_F fun _ _ _ _ _ _ us hl => match us, hl with | [_, _, _, _], _ => rfl
  have v_law_some_words_g := c.glo Kb hm 23 (x := "_law_some_words") rfl
  obtain ⟨v_law_in_order_d, v_law_in_order_F⟩ := c.fun_ (d := dDef "_law_in_order" (top 46)) (st := top 46) (List.mem_of_getElem? (i := 24) rfl) rfl rfl rfl rfl
  have v_law_in_order_b : Binds K v_law_in_order_d ["letters", "words"] [] := Fun.binds v_law_in_order_F fun _ _ _ _ _ _ us hl => match us, hl with | [_, _], _ => rfl
  have v_law_in_order_g := c.glo Kb hm 24 (x := "_law_in_order") rfl
  obtain ⟨v_law_beginnings_d, v_law_beginnings_F⟩ := c.fun_ (d := dDef "_law_beginnings" (top 47)) (st := top 47) (List.mem_of_getElem? (i := 25) rfl) rfl rfl rfl rfl
  have v_law_beginnings_b : Binds K v_law_beginnings_d ["letters", "words"] [] := Fun.binds v_law_beginnings_F fun _ _ _ _ _ _ us hl => match us, hl with | [_, _], _ => rfl
  have v_law_beginnings_g := c.glo Kb hm 25 (x := "_law_beginnings") rfl
  obtain ⟨v_law_all_kinds_d, v_law_all_kinds_F⟩ := c.fun_ (d := dDef "_law_all_kinds" (top 48)) (st := top 48) (List.mem_of_getElem? (i := 26) rfl) rfl rfl rfl rfl
  have v_law_all_kinds_b : Binds K v_law_all_kinds_d [] [] := Fun.binds v_law_all_kinds_F fun _ _ _ _ _ _ us hl => match us, hl with | [], _ => rfl
  have v_law_all_kinds_g := c.glo Kb hm 26 (x := "_law_all_kinds") rfl
  obtain ⟨v_law_kind_d, v_law_kind_F⟩ := c.fun_ (d := dDef "_law_kind" (top 49)) (st := top 49) (List.mem_of_getElem? (i := 27) rfl) rfl rfl rfl rfl
  have v_law_kind_b : Binds K v_law_kind_d ["rows", "place"] [] := Fun.binds v_law_kind_F fun _ _ _ _ _ _ us hl => match us, hl with | [_, _], _ => rfl
  have v_law_kind_g := c.glo Kb hm 27 (x := "_law_kind") rfl
  obtain ⟨v_law_met_d, v_law_met_F⟩ := c.fun_ (d := dDef "_law_met" (top 50)) (st := top 50) (List.mem_of_getElem? (i := 28) rfl) rfl rfl rfl rfl
  have v_law_met_b : Binds K v_law_met_d ["call"] [] := Fun.binds v_law_met_F fun _ _ _ _ _ _ us hl => match us, hl with | [_], _ => rfl
  have v_law_met_g := c.glo Kb hm 28 (x := "_law_met") rfl
  obtain ⟨v_law_near_exact_d, v_law_near_exact_F⟩ := c.fun_ (d := dDef "_law_near_exact" (top 51)) (st := top 51) (List.mem_of_getElem? (i := 29) rfl) rfl rfl rfl rfl
  have v_law_near_exact_b : Binds K v_law_near_exact_d ["pen"] [] := Fun.binds v_law_near_exact_F fun _ _ _ _ _ _ us hl => match us, hl with | [_], _ => rfl
  have v_law_near_exact_g := c.glo Kb hm 29 (x := "_law_near_exact") rfl
  obtain ⟨v_law_flags_d, v_law_flags_F⟩ := c.fun_ (d := dDef "_law_flags" (top 52)) (st := top 52) (List.mem_of_getElem? (i := 30) rfl) rfl rfl rfl rfl
  have v_law_flags_b : Binds K v_law_flags_d ["kinds", "mark", "children"] [] := Fun.binds v_law_flags_F fun _ _ _ _ _ _ us hl => match us, hl with | [_, _, _], _ => rfl
  have v_law_flags_g := c.glo Kb hm 30 (x := "_law_flags") rfl
  obtain ⟨v_law_trees_of_d, v_law_trees_of_F⟩ := c.fun_ (d := dDef "_law_trees_of" (top 53)) (st := top 53) (List.mem_of_getElem? (i := 31) rfl) rfl rfl rfl rfl
  have v_law_trees_of_b : Binds K v_law_trees_of_d ["root", "others", "words"] [] := Fun.binds v_law_trees_of_F fun _ _ _ _ _ _ us hl => match us, hl with | [_, _, _], _ => rfl
  have v_law_trees_of_g := c.glo Kb hm 31 (x := "_law_trees_of") rfl
  obtain ⟨v_law_is_exact_d, v_law_is_exact_F⟩ := c.fun_ (d := dDef "_law_is_exact" (top 54)) (st := top 54) (List.mem_of_getElem? (i := 32) rfl) rfl rfl rfl rfl
  have v_law_is_exact_b : Binds K v_law_is_exact_d ["root", "others"] [] := Fun.binds v_law_is_exact_F fun _ _ _ _ _ _ us hl => match us, hl with | [_, _], _ => rfl
  have v_law_is_exact_g := c.glo Kb hm 32 (x := "_law_is_exact") rfl
  obtain ⟨v_law_is_tree_d, v_law_is_tree_F⟩ := c.fun_ (d := dDef "_law_is_tree" (top 55)) (st := top 55) (List.mem_of_getElem? (i := 33) rfl) rfl rfl rfl rfl
  have v_law_is_tree_b : Binds K v_law_is_tree_d ["tree", "rule", "root", "others", "letters", "words"] [] := Fun.binds v_law_is_tree_F fun _ _ _ _ _ _ us hl => match us, hl with | [_, _, _, _, _, _], _ => rfl
  have v_law_is_tree_g := c.glo Kb hm 33 (x := "_law_is_tree") rfl
  obtain ⟨v_in_order_d, v_in_order_F⟩ := c.funT (d := dDef "in_order" (top 21)) (st := top 21) (List.mem_of_getElem? (i := 34) rfl) rfl rfl rfl rfl
  have v_in_order_b : Binds K v_in_order_d ["letters", "words"] [] := FunT.bindsT v_in_order_F fun _ _ _ _ _ _ us hl => match us, hl with | [_, _], _ => rfl
  have v_in_order_g := c.glo Kb hm 34 (x := "in_order") rfl
  obtain ⟨v_law_are_refused_d, v_law_are_refused_F⟩ := c.funT (d := dDef "_law_are_refused" (top 56)) (st := top 56) (List.mem_of_getElem? (i := 35) rfl) rfl rfl rfl rfl
  have v_law_are_refused_b : Binds K v_law_are_refused_d ["pen", "rule", "letters", "words"] [] := FunT.bindsT v_law_are_refused_F fun _ _ _ _ _ _ us hl => match us, hl with | [_, _, _, _], _ => rfl
  have v_law_are_refused_g := c.glo Kb hm 35 (x := "_law_are_refused") rfl
  obtain ⟨v_law_long_d, v_law_long_F⟩ := c.funT (d := dDef "_law_long" (top 57)) (st := top 57) (List.mem_of_getElem? (i := 36) rfl) rfl rfl rfl rfl
  have v_law_long_b : Binds K v_law_long_d ["pen", "rule"] [] := FunT.bindsT v_law_long_F fun _ _ _ _ _ _ us hl => match us, hl with | [_, _], _ => rfl
  have v_law_long_g := c.glo Kb hm 36 (x := "_law_long") rfl
  obtain ⟨v_law_d, v_law_F⟩ := c.funT (d := dDef "law" (top 58)) (st := top 58) (List.mem_of_getElem? (i := 37) rfl) rfl rfl rfl rfl
  have v_law_b : Binds K v_law_d ["script"] [] := FunT.bindsT v_law_F fun _ _ _ _ _ _ us hl => match us, hl with | [_], _ => rfl
  have v_law_g := c.glo Kb hm 37 (x := "law") rfl
  obtain ⟨x_BadLetters_d, x_BadLetters_F⟩ := c.fun_ (d := dMet "BadLetters" "__init__" "BadLetters.__init__" (inClass (top 3) 0)) (st := inClass (top 3) 0) (List.mem_of_getElem? (i := 38) rfl) rfl rfl rfl rfl
  have x_BadLetters_g := c.glo Kb hm 43 (x := "BadLetters") rfl
  obtain ⟨x_BadLetters_1, x_BadLetters_2⟩ := He.ba (c.is 18 rfl)
  unfold iniB at x_BadLetters_2
  obtain ⟨x_BadLetters_3, x_BadLetters_4⟩ := He.ba x_BadLetters_2
  obtain ⟨x_BadLetters_5, x_BadLetters_6⟩ := He.ba x_BadLetters_4
  have x_BadLetters_X : XR P w K mg base "BadLetters" (He.ga K "BadLetters") ["letters"] := xr_BadLetters x_BadLetters_F (xB_ok x_BadLetters_1) x_BadLetters_g (of_decide_eq_true x_BadLetters_3) (of_decide_eq_true x_BadLetters_5) fun n hn => of_decide_eq_true (List.all_eq_true.mp x_BadLetters_6 n hn)
  obtain ⟨x_TooMany_d, x_TooMany_F⟩ := c.fun_ (d := dMet "TooMany" "__init__" "TooMany.__init__" (inClass (top 4) 0)) (st := inClass (top 4) 0) (List.mem_of_getElem? (i := 39) rfl) rfl rfl rfl rfl
  have x_TooMany_g := c.glo Kb hm 44 (x := "TooMany") rfl
  obtain ⟨x_TooMany_1, x_TooMany_2⟩ := He.ba (c.is 19 rfl)
  unfold iniB at x_TooMany_2
  obtain ⟨x_TooMany_3, x_TooMany_4⟩ := He.ba x_TooMany_2
  obtain ⟨x_TooMany_5, x_TooMany_6⟩ := He.ba x_TooMany_4
  have x_TooMany_X : XR P w K mg base "TooMany" (He.ga K "TooMany") ["what", "many", "most"] := xr_TooMany x_TooMany_F (xB_ok x_TooMany_1) x_TooMany_g (of_decide_eq_true x_TooMany_3) (of_decide_eq_true x_TooMany_5) fun n hn => of_decide_eq_true (List.all_eq_true.mp x_TooMany_6 n hn)
  obtain ⟨x_BadRow_d, x_BadRow_F⟩ := c.fun_ (d := dMet "BadRow" "__init__" "BadRow.__init__" (inClass (top 5) 0)) (st := inClass (top 5) 0) (List.mem_of_getElem? (i := 40) rfl) rfl rfl rfl rfl
  have x_BadRow_g := c.glo Kb hm 45 (x := "BadRow") rfl
  obtain ⟨x_BadRow_1, x_BadRow_2⟩ := He.ba (c.is 20 rfl)
  unfold iniB at x_BadRow_2
  obtain ⟨x_BadRow_3, x_BadRow_4⟩ := He.ba x_BadRow_2
  obtain ⟨x_BadRow_5, x_BadRow_6⟩ := He.ba x_BadRow_4
  have x_BadRow_X : XR P w K mg base "BadRow" (He.ga K "BadRow") ["number"] := xr_BadRow x_BadRow_F (xB_ok x_BadRow_1) x_BadRow_g (of_decide_eq_true x_BadRow_3) (of_decide_eq_true x_BadRow_5) fun n hn => of_decide_eq_true (List.all_eq_true.mp x_BadRow_6 n hn)
  obtain ⟨x_Lone_d, x_Lone_F⟩ := c.fun_ (d := dMet "Lone" "__init__" "Lone.__init__" (inClass (top 6) 0)) (st := inClass (top 6) 0) (List.mem_of_getElem? (i := 41) rfl) rfl rfl rfl rfl
  have x_Lone_g := c.glo Kb hm 46 (x := "Lone") rfl
  obtain ⟨x_Lone_1, x_Lone_2⟩ := He.ba (c.is 21 rfl)
  unfold iniB at x_Lone_2
  obtain ⟨x_Lone_3, x_Lone_4⟩ := He.ba x_Lone_2
  obtain ⟨x_Lone_5, x_Lone_6⟩ := He.ba x_Lone_4
  have x_Lone_X : XR P w K mg base "Lone" (He.ga K "Lone") ["place"] := xr_Lone x_Lone_F (xB_ok x_Lone_1) x_Lone_g (of_decide_eq_true x_Lone_3) (of_decide_eq_true x_Lone_5) fun n hn => of_decide_eq_true (List.all_eq_true.mp x_Lone_6 n hn)
  obtain ⟨x_NoPlace_d, x_NoPlace_F⟩ := c.fun_ (d := dMet "NoPlace" "__init__" "NoPlace.__init__" (inClass (top 7) 0)) (st := inClass (top 7) 0) (List.mem_of_getElem? (i := 42) rfl) rfl rfl rfl rfl
  have x_NoPlace_g := c.glo Kb hm 47 (x := "NoPlace") rfl
  obtain ⟨x_NoPlace_1, x_NoPlace_2⟩ := He.ba (c.is 22 rfl)
  unfold iniB at x_NoPlace_2
  obtain ⟨x_NoPlace_3, x_NoPlace_4⟩ := He.ba x_NoPlace_2
  obtain ⟨x_NoPlace_5, x_NoPlace_6⟩ := He.ba x_NoPlace_4
  have x_NoPlace_X : XR P w K mg base "NoPlace" (He.ga K "NoPlace") ["place"] := xr_NoPlace x_NoPlace_F (xB_ok x_NoPlace_1) x_NoPlace_g (of_decide_eq_true x_NoPlace_3) (of_decide_eq_true x_NoPlace_5) fun n hn => of_decide_eq_true (List.all_eq_true.mp x_NoPlace_6 n hn)
  obtain ⟨x_BadKind_d, x_BadKind_F⟩ := c.fun_ (d := dMet "BadKind" "__init__" "BadKind.__init__" (inClass (top 8) 0)) (st := inClass (top 8) 0) (List.mem_of_getElem? (i := 43) rfl) rfl rfl rfl rfl
  have x_BadKind_g := c.glo Kb hm 48 (x := "BadKind") rfl
  obtain ⟨x_BadKind_1, x_BadKind_2⟩ := He.ba (c.is 23 rfl)
  unfold iniB at x_BadKind_2
  obtain ⟨x_BadKind_3, x_BadKind_4⟩ := He.ba x_BadKind_2
  obtain ⟨x_BadKind_5, x_BadKind_6⟩ := He.ba x_BadKind_4
  have x_BadKind_X : XR P w K mg base "BadKind" (He.ga K "BadKind") ["side", "number"] := xr_BadKind x_BadKind_F (xB_ok x_BadKind_1) x_BadKind_g (of_decide_eq_true x_BadKind_3) (of_decide_eq_true x_BadKind_5) fun n hn => of_decide_eq_true (List.all_eq_true.mp x_BadKind_6 n hn)
  obtain ⟨x_BadName_d, x_BadName_F⟩ := c.fun_ (d := dMet "BadName" "__init__" "BadName.__init__" (inClass (top 9) 0)) (st := inClass (top 9) 0) (List.mem_of_getElem? (i := 44) rfl) rfl rfl rfl rfl
  have x_BadName_g := c.glo Kb hm 49 (x := "BadName") rfl
  obtain ⟨x_BadName_1, x_BadName_2⟩ := He.ba (c.is 24 rfl)
  unfold iniB at x_BadName_2
  obtain ⟨x_BadName_3, x_BadName_4⟩ := He.ba x_BadName_2
  obtain ⟨x_BadName_5, x_BadName_6⟩ := He.ba x_BadName_4
  have x_BadName_X : XR P w K mg base "BadName" (He.ga K "BadName") ["name"] := xr_BadName x_BadName_F (xB_ok x_BadName_1) x_BadName_g (of_decide_eq_true x_BadName_3) (of_decide_eq_true x_BadName_5) fun n hn => of_decide_eq_true (List.all_eq_true.mp x_BadName_6 n hn)
  obtain ⟨x_BadWord_d, x_BadWord_F⟩ := c.fun_ (d := dMet "BadWord" "__init__" "BadWord.__init__" (inClass (top 10) 0)) (st := inClass (top 10) 0) (List.mem_of_getElem? (i := 45) rfl) rfl rfl rfl rfl
  have x_BadWord_g := c.glo Kb hm 50 (x := "BadWord") rfl
  obtain ⟨x_BadWord_1, x_BadWord_2⟩ := He.ba (c.is 25 rfl)
  unfold iniB at x_BadWord_2
  obtain ⟨x_BadWord_3, x_BadWord_4⟩ := He.ba x_BadWord_2
  obtain ⟨x_BadWord_5, x_BadWord_6⟩ := He.ba x_BadWord_4
  have x_BadWord_X : XR P w K mg base "BadWord" (He.ga K "BadWord") ["number"] := xr_BadWord x_BadWord_F (xB_ok x_BadWord_1) x_BadWord_g (of_decide_eq_true x_BadWord_3) (of_decide_eq_true x_BadWord_5) fun n hn => of_decide_eq_true (List.all_eq_true.mp x_BadWord_6 n hn)
  obtain ⟨m_Tree_init_d, m_Tree_init_F⟩ := c.fun_ (d := dMet "Tree" "__init__" "Tree.__init__" (inClass (top 28) 0)) (st := inClass (top 28) 0) (List.mem_of_getElem? (i := 46) rfl) rfl rfl rfl rfl
  have m_Tree_init_b : Binds K m_Tree_init_d ["self", "letters", "rows"] [] := Fun.binds m_Tree_init_F fun _ _ _ _ _ _ us hl => match us, hl with | [_, _, _], _ => rfl
  obtain ⟨m_Tree_eq_d, m_Tree_eq_F⟩ := c.fun_ (d := dMet "Tree" "__eq__" "Tree.__eq__" (inClass (top 28) 2)) (st := inClass (top 28) 2) (List.mem_of_getElem? (i := 47) rfl) rfl rfl rfl rfl
  have m_Tree_eq_b : Binds K m_Tree_eq_d ["self", "other"] [] := Fun.binds m_Tree_eq_F fun _ _ _ _ _ _ us hl => match us, hl with | [_, _], _ => rfl
  obtain ⟨m_Tree_has_d, m_Tree_has_F⟩ := c.fun_ (d := dMet "Tree" "has" "Tree.has" (inClass (top 28) 3)) (st := inClass (top 28) 3) (List.mem_of_getElem? (i := 48) rfl) rfl rfl rfl rfl
  have m_Tree_has_b : Binds K m_Tree_has_d ["self", "place"] [] := Fun.binds m_Tree_has_F fun _ _ _ _ _ _ us hl => match us, hl with | [_, _], _ => rfl
  obtain ⟨m_Tree_row_d, m_Tree_row_F⟩ := c.fun_ (d := dMet "Tree" "row" "Tree.row" (inClass (top 28) 4)) (st := inClass (top 28) 4) (List.mem_of_getElem? (i := 49) rfl) rfl rfl rfl rfl
  have m_Tree_row_b : Binds K m_Tree_row_d ["self", "place"] [] := Fun.binds m_Tree_row_F fun _ _ _ _ _ _ us hl => match us, hl with | [_, _], _ => rfl
  obtain ⟨m_Tree_below_d, m_Tree_below_F⟩ := c.fun_ (d := dMet "Tree" "below" "Tree.below" (inClass (top 28) 5)) (st := inClass (top 28) 5) (List.mem_of_getElem? (i := 50) rfl) rfl rfl rfl rfl
  have m_Tree_below_b : Binds K m_Tree_below_d ["self", "place"] [] := Fun.binds m_Tree_below_F fun _ _ _ _ _ _ us hl => match us, hl with | [_, _], _ => rfl
  obtain ⟨m_Rule_init_d, m_Rule_init_F⟩ := c.fun_ (d := dMet "Rule" "__init__" "Rule.__init__" (inClass (top 35) 0)) (st := inClass (top 35) 0) (List.mem_of_getElem? (i := 51) rfl) rfl rfl rfl rfl
  have m_Rule_init_b : Binds K m_Rule_init_d ["self", "root", "others"] [] := Fun.binds m_Rule_init_F fun _ _ _ _ _ _ us hl => match us, hl with | [_, _, _], _ => rfl
  obtain ⟨m_Rule_keeps_d, m_Rule_keeps_F⟩ := c.fun_ (d := dMet "Rule" "keeps" "Rule.keeps" (inClass (top 35) 2)) (st := inClass (top 35) 2) (List.mem_of_getElem? (i := 52) rfl) rfl rfl rfl rfl
  have m_Rule_keeps_b : Binds K m_Rule_keeps_d ["self", "tree"] [] := Fun.binds m_Rule_keeps_F fun _ _ _ _ _ _ us hl => match us, hl with | [_, _], _ => rfl
  obtain ⟨m_Rule_broken_at_d, m_Rule_broken_at_F⟩ := c.fun_ (d := dMet "Rule" "broken_at" "Rule.broken_at" (inClass (top 35) 3)) (st := inClass (top 35) 3) (List.mem_of_getElem? (i := 53) rfl) rfl rfl rfl rfl
  have m_Rule_broken_at_b : Binds K m_Rule_broken_at_d ["self", "tree"] [] := Fun.binds m_Rule_broken_at_F fun _ _ _ _ _ _ us hl => match us, hl with | [_, _], _ => rfl
  obtain ⟨m_Rule_is_exact_d, m_Rule_is_exact_F⟩ := c.fun_ (d := dMet "Rule" "is_exact" "Rule.is_exact" (inClass (top 35) 4)) (st := inClass (top 35) 4) (List.mem_of_getElem? (i := 54) rfl) rfl rfl rfl rfl
  have m_Rule_is_exact_b : Binds K m_Rule_is_exact_d ["self"] [] := Fun.binds m_Rule_is_exact_F fun _ _ _ _ _ _ us hl => match us, hl with | [_], _ => rfl
  obtain ⟨m_Rule_tree_of_d, m_Rule_tree_of_F⟩ := c.fun_ (d := dMet "Rule" "tree_of" "Rule.tree_of" (inClass (top 35) 5)) (st := inClass (top 35) 5) (List.mem_of_getElem? (i := 55) rfl) rfl rfl rfl rfl
  have m_Rule_tree_of_b : Binds K m_Rule_tree_of_d ["self", "letters", "words"] [] := Fun.binds m_Rule_tree_of_F fun _ _ _ _ _ _ us hl => match us, hl with | [_, _, _], _ => rfl
  have f_isinstance := c.free Kb hm 51 (x := "isinstance") rfl
  have f_str := c.free Kb hm 52 (x := "str") rfl
  have f_len := c.free Kb hm 53 (x := "len") rfl
  have f_set := c.free Kb hm 54 (x := "set") rfl
  have f_all := c.free Kb hm 55 (x := "all") rfl
  have f_tuple := c.free Kb hm 56 (x := "tuple") rfl
  have f_list := c.free Kb hm 57 (x := "list") rfl
  have f_bool := c.free Kb hm 58 (x := "bool") rfl
  have f_enumerate := c.free Kb hm 59 (x := "enumerate") rfl
  have f_max := c.free Kb hm 60 (x := "max") rfl
  have f_sorted := c.free Kb hm 61 (x := "sorted") rfl
  have f_repr := c.free Kb hm 62 (x := "repr") rfl
  have f_int := c.free Kb hm 63 (x := "int") rfl
  have f_abs := c.free Kb hm 64 (x := "abs") rfl
  have f_range := c.free Kb hm 65 (x := "range") rfl
  have f_min := c.free Kb hm 66 (x := "min") rfl
  have g_TreesError := c.glo Kb hm 38 (x := "TreesError") rfl
  have g_Tree := c.glo Kb hm 39 (x := "Tree") rfl
  have g_Rule := c.glo Kb hm 40 (x := "Rule") rfl
  have g_BARE := c.glo Kb hm 41 (x := "BARE") rfl
  have g_NotExact := c.glo Kb hm 42 (x := "NotExact") rfl
  have g_BadLetters := c.glo Kb hm 43 (x := "BadLetters") rfl
  have g_TooMany := c.glo Kb hm 44 (x := "TooMany") rfl
  have g_BadRow := c.glo Kb hm 45 (x := "BadRow") rfl
  have g_Lone := c.glo Kb hm 46 (x := "Lone") rfl
  have g_NoPlace := c.glo Kb hm 47 (x := "NoPlace") rfl
  have g_BadKind := c.glo Kb hm 48 (x := "BadKind") rfl
  have g_BadName := c.glo Kb hm 49 (x := "BadName") rfl
  have g_BadWord := c.glo Kb hm 50 (x := "BadWord") rfl
  have s_ALPHABET := He.str_ok Kb hm (c.fact 67 (f := .str "ALPHABET" alpha) rfl)
  have i_LONGEST_WORD := He.int_ok Kb hm (c.fact 68 (f := .int "LONGEST_WORD" 200) rfl)
  have i_MOST_PLACES := He.int_ok Kb hm (c.fact 69 (f := .int "MOST_PLACES" 2000) rfl)
  have c_Tree := He.cls_ok (c.fact 70 (f := .cls "Tree") rfl)
  have c_Rule := He.cls_ok (c.fact 71 (f := .cls "Rule") rfl)
  have n_Tree__below := He.noat_ok (c.fact 72 (f := .noat "Tree" "_below") rfl)
  have n_Tree__table := He.noat_ok (c.fact 73 (f := .noat "Tree" "_table") rfl)
  have n_Tree_letters := He.noat_ok (c.fact 74 (f := .noat "Tree" "letters") rfl)
  have n_Tree_rows := He.noat_ok (c.fact 75 (f := .noat "Tree" "rows") rfl)
  have n_Tree_size := He.noat_ok (c.fact 76 (f := .noat "Tree" "size") rfl)
  have n_Tree_height := He.noat_ok (c.fact 77 (f := .noat "Tree" "height") rfl)
  have n_Rule_root := He.noat_ok (c.fact 78 (f := .noat "Rule" "root") rfl)
  have n_Rule_others := He.noat_ok (c.fact 79 (f := .noat "Rule" "others") rfl)
  have t_Tree_has := He.meth_ok (c.fact 80 (f := .meth "Tree" "has") rfl)
  have t_Tree_row := He.meth_ok (c.fact 81 (f := .meth "Tree" "row") rfl)
  have t_Tree_below := He.meth_ok (c.fact 82 (f := .meth "Tree" "below") rfl)
  have t_Rule_broken_at := He.meth_ok (c.fact 83 (f := .meth "Rule" "broken_at") rfl)
  have t_Rule_keeps := He.meth_ok (c.fact 84 (f := .meth "Rule" "keeps") rfl)
  have t_Rule_is_exact := He.meth_ok (c.fact 85 (f := .meth "Rule" "is_exact") rfl)
  have t_Rule_tree_of := He.meth_ok (c.fact 86 (f := .meth "Rule" "tree_of") rfl)
  have k_Tree := He.mkr_ok (c.fact 87 (f := .mkr "Tree") rfl)
  have k_Rule := He.mkr_ok (c.fact 88 (f := .mkr "Rule") rfl)
  have e_NotExact_NotExact := He.exm_ok (c.fact 89 (f := .exm "NotExact" "NotExact" true) rfl)
  have e_BadLetters_NotExact := He.exm_ok (c.fact 90 (f := .exm "BadLetters" "NotExact" false) rfl)
  have e_BadLetters_BadLetters := He.exm_ok (c.fact 91 (f := .exm "BadLetters" "BadLetters" true) rfl)
  have e_BadWord_NotExact := He.exm_ok (c.fact 92 (f := .exm "BadWord" "NotExact" false) rfl)
  have e_BadWord_BadLetters := He.exm_ok (c.fact 93 (f := .exm "BadWord" "BadLetters" false) rfl)
  have e_BadWord_BadWord := He.exm_ok (c.fact 94 (f := .exm "BadWord" "BadWord" true) rfl)
  have e_TooMany_NotExact := He.exm_ok (c.fact 95 (f := .exm "TooMany" "NotExact" false) rfl)
  have e_TooMany_BadLetters := He.exm_ok (c.fact 96 (f := .exm "TooMany" "BadLetters" false) rfl)
  have e_TooMany_BadWord := He.exm_ok (c.fact 97 (f := .exm "TooMany" "BadWord" false) rfl)
  have e_TooMany_TooMany := He.exm_ok (c.fact 98 (f := .exm "TooMany" "TooMany" true) rfl)
  have k_NotExact_TreesError := of_decide_eq_true (c.is 1 rfl)
  have ex_0 := c.is 2 (b := ratB K (He.ga K "Tree")) rfl
  have ex_1 := c.is 3 (b := hasB K (He.ga K "Tree") "__eq__") rfl
  have ex_2 := c.is 4 (b := He5.wrapB K (He.ga K "Tree") "classmethod" "classmethod.__get__" "of") rfl
  have ex_3 := c.is 5 (b := PySem.W.fnIn K (He5.wf K (He.ga K "Tree") "classmethod" "of")) rfl
  have ex_4 := c.is 6 (b := PySem.W.readsIn K (He.ga K "Tree") (.type "type")) rfl
  have ex_5 := c.is 7 (b := ofD.ok K) rfl
  have ex_6 := c.is 8 (b := ratB K (He.ga K "Rule")) rfl
  have ex_7 := c.is 9 (b := He.tupB K "BARE" [.bl false, .bl false, .int 0]) rfl
  have ex_8 := c.is 10 (b := xB K (He.ga K "NotExact")) rfl
  have ex_9 := c.is 11 (b := (He.Fa.exc "NotExact").ok K) rfl
  have ex_10 := c.is 12 (b := decide ((He.cT K ("in_order", none)).2 ≠ (He.cT K ("_law_are_refused", none)).2)) rfl
  have ex_11 := c.is 13 (b := decide ((He.cT K ("in_order", none)).2 ≠ (He.cT K ("_law_long", none)).2)) rfl
  have ex_12 := c.is 14 (b := decide ((He.cT K ("in_order", none)).2 ≠ (He.cT K ("law", none)).2)) rfl
  have ex_13 := c.is 15 (b := decide ((He.cT K ("_law_are_refused", none)).2 ≠ (He.cT K ("_law_long", none)).2)) rfl
  have ex_14 := c.is 16 (b := decide ((He.cT K ("_law_are_refused", none)).2 ≠ (He.cT K ("law", none)).2)) rfl
  have ex_15 := c.is 17 (b := decide ((He.cT K ("_law_long", none)).2 ≠ (He.cT K ("law", none)).2)) rfl
  have sys : ∃ o, K.lookup sysModules = some o := Option.isSome_iff_exists.mp (c.is 0 rfl)
  obtain ⟨tA, gA⟩ := s_ALPHABET
  obtain ⟨tW, gW⟩ := i_LONGEST_WORD
  obtain ⟨tM, gM⟩ := i_MOST_PLACES
  have no : ∀ g ∈ six6, NoAttr K (He.ga K "Tree") g := fun g hg => by
    simp only [six6, List.mem_cons, List.mem_nil_iff, or_false] at hg
    rcases hg with rfl | rfl | rfl | rfl | rfl | rfl
    · exact n_Tree__below
    · exact n_Tree__table
    · exact n_Tree_letters
    · exact n_Tree_rows
    · exact n_Tree_size
    · exact n_Tree_height
  have RT : TreeK K (He.ga K "Tree") := ratB_ok ex_0 c_Tree no
  have RR : RuleK K (He.ga K "Rule") := rulB_ok ex_6 c_Rule n_Rule_root n_Rule_others
  have ME : Has K (He.ga K "Tree") "__eq__" (He.ma K (He.ga K "Tree") "__eq__") := hasB_ok ex_1
  have CM := He5.cmet_of ex_2 ex_3
  have CR : ClX.CRead K (He.ga K "Tree") (.type "type") := cread ex_4
  obtain ⟨fdOf, FD⟩ := He5.DefA.funD (d := ofD) cO ex_5
  have FOf : Fun K "of" "Tree.of" (tm 1) (wfT K) fdOf := He5.fun_of FD
  have bOf : Binds K fdOf ["cls", "letters", "words"] [] := Fun.binds FOf fun _ _ _ _ _ _ us hl => match us, hl with | [_, _, _], _ => rfl
  have hB : ∀ H, SqT K H (He.ga K "BARE") [.bl false, .bl false, .int 0] := fun H => He.tupB_ok ex_7 H
  obtain ⟨y1, y2, y3, y4⟩ := He.exc_ok ex_9
  have EC : ExcC K (He.ga K "NotExact") := ec_of (xB_ok ex_8)
  have ne01 := of_decide_eq_true ex_10
  have ne02 := of_decide_eq_true ex_11
  have ne03 := of_decide_eq_true ex_12
  have ne12 := of_decide_eq_true ex_13
  have ne13 := of_decide_eq_true ex_14
  have ne23 := of_decide_eq_true ex_15
  have tb0 := TB (He.cT K ("in_order", none)) (List.mem_map.mpr ⟨("in_order", none), .head _, rfl⟩)
  have hm0 : ((He.cT K ("in_order", none)).2, ("in_order" : Str) ++ ".<locals>." ++ "<lambda>") ∈ TK K := .head _
  have hu0 : ∀ p ∈ TK K, p.1 = (He.cT K ("in_order", none)).2 → p.2 = ("in_order" : Str) ++ ".<locals>." ++ "<lambda>" := fun p hp e => by
    simp only [TK, List.mem_cons, List.mem_nil_iff, or_false] at hp
    rcases hp with rfl | rfl | rfl | rfl
    · rfl
    · exact absurd e.symm ne01
    · exact absurd e.symm ne02
    · exact absurd e.symm ne03
  have tb1 := TB (He.cT K ("_law_are_refused", none)) (List.mem_map.mpr ⟨("_law_are_refused", none), .tail _ (.head _), rfl⟩)
  have hm1 : ((He.cT K ("_law_are_refused", none)).2, ("_law_are_refused" : Str) ++ ".<locals>." ++ "<lambda>") ∈ TK K := .tail _ (.head _)
  have hu1 : ∀ p ∈ TK K, p.1 = (He.cT K ("_law_are_refused", none)).2 → p.2 = ("_law_are_refused" : Str) ++ ".<locals>." ++ "<lambda>" := fun p hp e => by
    simp only [TK, List.mem_cons, List.mem_nil_iff, or_false] at hp
    rcases hp with rfl | rfl | rfl | rfl
    · exact absurd e ne01
    · rfl
    · exact absurd e.symm ne12
    · exact absurd e.symm ne13
  have tb2 := TB (He.cT K ("_law_long", none)) (List.mem_map.mpr ⟨("_law_long", none), .tail _ (.tail _ (.head _)), rfl⟩)
  have hm2 : ((He.cT K ("_law_long", none)).2, ("_law_long" : Str) ++ ".<locals>." ++ "<lambda>") ∈ TK K := .tail _ (.tail _ (.head _))
  have hu2 : ∀ p ∈ TK K, p.1 = (He.cT K ("_law_long", none)).2 → p.2 = ("_law_long" : Str) ++ ".<locals>." ++ "<lambda>" := fun p hp e => by
    simp only [TK, List.mem_cons, List.mem_nil_iff, or_false] at hp
    rcases hp with rfl | rfl | rfl | rfl
    · exact absurd e ne02
    · exact absurd e ne12
    · rfl
    · exact absurd e.symm ne23
  have tb3 := TB (He.cT K ("law", none)) (List.mem_map.mpr ⟨("law", none), .tail _ (.tail _ (.tail _ (.head _))), rfl⟩)
  have hm3 : ((He.cT K ("law", none)).2, ("law" : Str) ++ ".<locals>." ++ "<lambda>") ∈ TK K := .tail _ (.tail _ (.tail _ (.head _)))
  have hu3 : ∀ p ∈ TK K, p.1 = (He.cT K ("law", none)).2 → p.2 = ("law" : Str) ++ ".<locals>." ++ "<lambda>" := fun p hp e => by
    simp only [TK, List.mem_cons, List.mem_nil_iff, or_false] at hp
    rcases hp with rfl | rfl | rfl | rfl
    · exact absurd e ne03
    · exact absurd e ne13
    · exact absurd e ne23
    · rfl
  have X4 : Ex4 P w K mg base (He.ga K "NotExact") ⟨He.ga K "BadLetters", He.ga K "TooMany", He.ga K "BadRow", He.ga K "Lone"⟩ (He.ga K "BadWord") (He.ga K "TreesError") := ⟨g_NotExact, EC, x_BadLetters_X, x_BadWord_X, x_TooMany_X, g_TreesError, e_NotExact_NotExact, e_BadLetters_NotExact, e_BadLetters_BadLetters, e_BadWord_NotExact, e_BadWord_BadLetters, e_BadWord_BadWord, e_TooMany_NotExact, e_TooMany_BadLetters, e_TooMany_BadWord, e_TooMany_TooMany, k_NotExact_TreesError⟩
  have GL := ok_letters (P := P) (w := w) (base := base) v_is_letters_F f_isinstance f_str f_len f_set f_all gA
  have GCL := ok_checkL v_check_letters_F x_BadLetters_X v_is_letters_g v_is_letters_F.kp GL v_is_letters_b
  have GW := ok_word (P := P) (w := w) (base := base) v_is_word_F f_isinstance f_str f_len f_all gW
  have GCW := ok_cw v_check_words_F x_BadWord_X f_enumerate v_is_word_g v_is_word_F.kp GW v_is_word_b
  have GCP := ok_checkP v_check_places_F x_TooMany_X gM
  have GO := ok_order (P := P) (w := w) (base := base) (T := TK K) v_in_order_F f_enumerate f_sorted gA tb0 hm0 hu0
  have GR := ok_row v_is_row_F f_isinstance f_tuple f_list f_bool f_len v_is_word_g v_is_word_F.kp GW v_is_word_b
  have GT := ok_table v_table_of_F x_BadRow_X f_enumerate f_tuple v_is_row_g v_is_row_F.kp GR v_is_row_b
  have GB := ok_below v_letters_below_F x_Lone_X
  have GI := ok_init (C := ⟨He.ga K "BadLetters", He.ga K "TooMany", He.ga K "BadRow", He.ga K "Lone"⟩) (T := TK K) m_Tree_init_F c_Tree no f_len f_list f_tuple f_max v_check_letters_g v_check_letters_F.kp GCL v_check_letters_b v_check_places_g v_check_places_F.kp GCP v_check_places_b v_table_of_g v_table_of_F.kp GT v_table_of_b v_in_order_g v_in_order_F.kp GO v_in_order_b v_letters_below_g v_letters_below_F.kp GB v_letters_below_b
  have GH := ok_has (P := P) (w := w) (base := base) m_Tree_has_F RT f_isinstance f_str
  have GRM := ok_rowM m_Tree_row_F RT x_NoPlace_X t_Tree_has GH m_Tree_has_b
  have GBM := ok_bel m_Tree_below_F RT x_NoPlace_X t_Tree_has GH m_Tree_has_b
  have GE := ok_eqT (P := P) (w := w) (base := base) m_Tree_eq_F RT f_isinstance g_Tree
  have GS := ok_shared (P := P) (w := w) (base := base) v_shared_F f_min f_len f_range
  have GN := ok_nob v_number_of_beginnings_F f_sorted f_len v_shared_g v_shared_F.kp GS v_shared_b
  have GMk := ok_marks (P := P) (w := w) (base := base) v_marks_of_F f_len f_range
  have GOf := ok_of FOf k_Tree GI m_Tree_init_b v_check_letters_g v_check_letters_F.kp GCL v_check_letters_b v_check_words_g v_check_words_F.kp GCW v_check_words_b v_check_places_g v_check_places_F.kp GCP v_check_places_b v_number_of_beginnings_g v_number_of_beginnings_F.kp GN v_number_of_beginnings_b v_marks_of_g v_marks_of_F.kp GMk v_marks_of_b
  have GPen := ok_pen (P := P) (w := w) (base := base) v_law_pen_of_F f_list
  have GD := ok_draw (P := P) (w := w) (base := base) v_law_draw_F f_int f_len f_abs
  have GPi := ok_pick v_law_pick_F f_len v_law_draw_g v_law_draw_F.kp GD v_law_draw_b
  have GSh := ok_shufA v_law_shuffled_F f_len f_list v_law_draw_g v_law_draw_F.kp GD v_law_draw_b
  have GSix := ok_six v_law_letters_of_F v_law_pick_g v_law_pick_F.kp GPi v_law_pick_b
  have GSo := ok_someG v_law_some_words_F f_range v_law_draw_g v_law_draw_F.kp GD v_law_draw_b v_law_pick_g v_law_pick_F.kp GPi v_law_pick_b
  have GLO := ok_ordL (P := P) (w := w) (base := base) v_law_in_order_F f_sorted sys
  have GBg := ok_begX v_law_beginnings_F f_range f_len v_law_in_order_g v_law_in_order_F.kp GLO v_law_in_order_b
  have GIk := ok_isKG (P := P) (w := w) (base := base) v_is_kind_F f_isinstance f_tuple f_list f_len f_bool f_int
  have GCk := ok_ckG v_checked_kinds_F x_BadKind_X f_enumerate f_tuple f_sorted sys v_is_kind_g v_is_kind_F.kp GIk v_is_kind_b
  have GRi := ok_initRG m_Rule_init_F c_Rule n_Rule_root n_Rule_others v_checked_kinds_g v_checked_kinds_F.kp GCk v_checked_kinds_b
  have GKo := ok_kind v_kind_of_F RT f_min f_len t_Tree_row GRM m_Tree_row_b t_Tree_below GBM m_Tree_below_b
  have GBr := ok_brk m_Rule_broken_at_F RR RT v_kind_of_g v_kind_of_F.kp GKo v_kind_of_b
  have GKe := ok_keeps m_Rule_keeps_F RR t_Rule_broken_at GBr m_Rule_broken_at_b
  have GFl := ok_fl (P := P) (w := w) (base := base) (mg := mg) v_flags_let_F
  have GEx := ok_ex m_Rule_is_exact_F RR g_BARE hB f_len v_flags_let_g v_flags_let_F.kp GFl v_flags_let_b
  have GTo := ok_to m_Rule_tree_of_F RR RT y1 g_NotExact y2 y3 y4 t_Rule_is_exact GEx m_Rule_is_exact_b g_Tree CR CM GOf bOf k_Tree GI m_Tree_init_b v_kind_of_g v_kind_of_F.kp GKo v_kind_of_b v_flags_let_g v_flags_let_F.kp GFl v_flags_let_b
  have GKw := ok_kw (P := P) (w := w) (base := base) (mg := mg) v_kinds_with_F
  have GJk := ok_jk (P := P) (w := w) (base := base) (mg := mg) v_joined_kind_F
  have GKn := ok_kn v_known_rule_F x_BadName_X g_BARE hB g_Rule k_Rule GRi m_Rule_init_b v_kinds_with_g v_kinds_with_F.kp GKw v_kinds_with_b v_joined_kind_g v_joined_kind_F.kp GJk v_joined_kind_b
  have GAl := ok_all (P := P) (w := w) (base := base) v_law_all_kinds_F f_range
  have GKl := ok_kindL (P := P) (w := w) (base := base) v_law_kind_F f_len f_min
  have GNe := ok_ne v_law_near_exact_F f_range v_law_all_kinds_g v_law_all_kinds_F.kp GAl v_law_all_kinds_b v_law_shuffled_g v_law_shuffled_F.kp GSh v_law_shuffled_b v_law_draw_g v_law_draw_F.kp GD v_law_draw_b v_law_pick_g v_law_pick_F.kp GPi v_law_pick_b
  have GLf := ok_lf (P := P) (w := w) (base := base) (mg := mg) v_law_flags_F
  have GTr := ok_tr v_law_trees_of_F f_len f_min v_law_beginnings_g v_law_beginnings_F.kp GBg v_law_beginnings_b v_law_flags_g v_law_flags_F.kp GLf v_law_flags_b
  have GIe := ok_ie v_law_is_exact_F f_all v_law_trees_of_g v_law_trees_of_F.kp GTr v_law_trees_of_b v_law_flags_g v_law_flags_F.kp GLf v_law_flags_b
  have GIt := ok_it v_law_is_tree_F f_repr f_list sys RT RR v_law_beginnings_g v_law_beginnings_F.kp GBg v_law_beginnings_b v_law_kind_g v_law_kind_F.kp GKl v_law_kind_b t_Rule_keeps GKe m_Rule_keeps_b
  have GRe := ok_re (T := TK K) v_law_are_refused_F tb1 hm1 hu1 RR X4 f_repr f_isinstance sys f_len t_Rule_tree_of GTo m_Rule_tree_of_b v_law_draw_g v_law_draw_F.kp GD v_law_draw_b v_law_pick_g v_law_pick_F.kp GPi v_law_pick_b v_law_met_g v_law_met_F v_law_met_b
  have GLg := ok_lg (T := TK K) v_law_long_F tb2 hm2 hu2 RR X4 f_repr f_isinstance sys f_len f_range t_Rule_tree_of GTo m_Rule_tree_of_b v_law_draw_g v_law_draw_F.kp GD v_law_draw_b v_law_pick_g v_law_pick_F.kp GPi v_law_pick_b v_law_met_g v_law_met_F v_law_met_b
  exact ⟨v_law_d, v_law_b, ok_law (T := TK K) v_law_F tb3 hm3 hu3 X4 f_repr f_isinstance sys f_range f_list f_tuple RT RR g_Rule k_Rule GRi m_Rule_init_b ME GE m_Tree_eq_b t_Rule_tree_of GTo m_Rule_tree_of_b t_Rule_is_exact GEx m_Rule_is_exact_b v_law_pen_of_g v_law_pen_of_F.kp GPen v_law_pen_of_b v_law_near_exact_g v_law_near_exact_F.kp GNe v_law_near_exact_b v_law_is_exact_g v_law_is_exact_F.kp GIe v_law_is_exact_b v_law_letters_of_g v_law_letters_of_F.kp GSix v_law_letters_of_b v_law_some_words_g v_law_some_words_F.kp GSo v_law_some_words_b v_law_is_tree_g v_law_is_tree_F.kp GIt v_law_is_tree_b v_law_are_refused_g v_law_are_refused_F.kp GRe v_law_are_refused_b v_law_long_g v_law_long_F.kp GLg v_law_long_b v_law_pick_g v_law_pick_F.kp GPi v_law_pick_b v_known_rule_g v_known_rule_F.kp GKn v_known_rule_b v_law_met_g v_law_met_F v_law_met_b⟩
end
end SK
namespace SK
open PySem PySem.Spec PyProof.Rows L2 LamX NdefX
abbrev RR : PySem.W.OpenRow := PySem.W.OpenLaw.row PySem.Challenge.rw_lettertrees_k16_whole_exact_rules
def namesK : List Str := [("_wall" : Str), ("TreesError" : Str), ("BadLetters" : Str), ("TooMany" : Str), ("BadRow" : Str), ("Lone" : Str), ("NoPlace" : Str), ("BadKind" : Str), ("BadName" : Str), ("BadWord" : Str), ("NotExact" : Str), ("ALPHABET" : Str), ("LONGEST_WORD" : Str), ("MOST_PLACES" : Str), ("is_letters" : Str), ("check_letters" : Str), ("is_word" : Str), ("check_words" : Str), ("check_places" : Str), ("in_order" : Str), ("is_row" : Str), ("table_of" : Str), ("letters_below" : Str), ("shared" : Str), ("number_of_beginnings" : Str), ("marks_of" : Str), ("Tree" : Str), ("BARE" : Str), ("kind_of" : Str), ("is_kind" : Str), ("checked_kinds" : Str), ("flags_let" : Str), ("Rule" : Str), ("kinds_with" : Str), ("joined_kind" : Str), ("known_rule" : Str), ("_law_pen_of" : Str), ("_law_draw" : Str), ("_law_pick" : Str), ("_law_shuffled" : Str), ("_law_letters_of" : Str), ("_law_some_words" : Str), ("_law_in_order" : Str), ("_law_beginnings" : Str), ("_law_all_kinds" : Str), ("_law_kind" : Str), ("_law_met" : Str), ("_law_near_exact" : Str), ("_law_flags" : Str), ("_law_trees_of" : Str), ("_law_is_exact" : Str), ("_law_is_tree" : Str), ("_law_are_refused" : Str), ("_law_long" : Str)]
theorem runK (w : World) : HandSHeadRun.RunEq RR (PySem.W.view RR.prog [58]) hkK obK 9000 namesK w := by
  intro os
  kernel_rfl
end SK
open PySem PySem.W PySem.Calls PyProof.Rows
theorem PySem.Challenge.cw_lettertrees_k16_whole_exact_rules_holds : PySem.Challenge.rw_lettertrees_k16_whole_exact_rules.Holds := by
  w_on; o_law
  refine HandSHeadRun.head_any (r := SK.RR) (q := view SK.RR.prog [58]) (H := SK.hkK) (ob := SK.obK) (M := 9000) (loose := SK.namesK) (d := HandSHeadRun.topDef SK.RR.prog 58) (kwd := []) SK.obK_eq
    (by kernel_rfl) (fun s => by kernel_rfl) SK.runK (by kernel_rfl) (by kernel_rfl) (by kernel_rfl) (by rfl) (by first | assumption | decide +kernel) (by decide +kernel) ⟨rfl, rfl, rfl, rfl, rfl, by decide +kernel⟩ ?hw ?hc
  case hw => w_witness2
  case hc =>
    refine Att.attach_call (l := PySem.Challenge.rw_lettertrees_k16_whole_exact_rules) (n := 63) rfl (by kernel_rfl) fun w s₀ s₁ mg mb fa o pm cd doc a vs ns G Y ho hd hcd hmg hobj hints hlen hg => ?_
    obtain ⟨K, KX, c, cO⟩ := Y
    have hl : mg ("law" : PySem.Str) = some (.ref (He.ga K "law")) := SK.SaysK.glo c KX G.T.g 37 rfl
    have hmg' : mg ("law" : PySem.Str) = some (.ref fa) := by
      have e : (HandSHeadRun.topDef SK.RR.prog 58).name = ("law" : PySem.Str) := by kernel_rfl
      rw [← e]
      exact hmg
    rw [hmg'] at hl
    have ef : fa = He.ga K "law" := Value.ref.inj (Option.some.inj hl)
    rw [ef]
    have mem : ∀ P ∈ (SK.tabsK K).map (·.2), ∃ p ∈ SK.tf16, (He.cT K p).2 = P := fun P hP => by
      obtain ⟨q, hq, rfl⟩ := List.mem_map.mp hP
      obtain ⟨p, hp, rfl⟩ := List.mem_map.mp hq
      exact ⟨p, hp, rfl⟩
    refine SK.run_lawG (ps := SK.tabsK K) (T := SK.TK K) (K := K) (mg := mg) (mb := mb) (fun base Kb hm TB => SK.law_all c cO Kb hm TB) ⟨rfl, by decide, by decide⟩ (fun H a ns h1 h2 h3 => ⟨a, ns, rfl, h1, h2, h3, fun _ => rfl⟩) ?_ KX G.T.g G.T.b G.T.builtins G.T.nolimit hg (fun P hP => ?_) (fun P hP => ?_) (fun p hp => ?_) G.T.bmain hobj hints hlen
    · intro p hp
      simp only [SK.TK, List.mem_cons, List.mem_nil_iff, or_false] at hp
      rcases hp with rfl | rfl | rfl | rfl
      · exact List.mem_map.mpr ⟨_, List.mem_map.mpr ⟨("in_order", none), .head _, rfl⟩, rfl⟩
      · exact List.mem_map.mpr ⟨_, List.mem_map.mpr ⟨("_law_are_refused", none), .tail _ (.head _), rfl⟩, rfl⟩
      · exact List.mem_map.mpr ⟨_, List.mem_map.mpr ⟨("_law_long", none), .tail _ (.tail _ (.head _)), rfl⟩, rfl⟩
      · exact List.mem_map.mpr ⟨_, List.mem_map.mpr ⟨("law", none), .tail _ (.tail _ (.tail _ (.head _))), rfl⟩, rfl⟩
    · obtain ⟨p, hp, rfl⟩ := mem P hP
      exact c.empty p hp
    · obtain ⟨p, hp, rfl⟩ := mem P hP
      exact c.out p hp
    · obtain ⟨q, hq, rfl⟩ := List.mem_map.mp hp
      exact codeHd_of_K KX (c.hd q hq)
