import PyProof.Rows.All
import Wide.All
import OpenK.AllK
import Wide.FinOn
import HandS.ForSpec
import HandS.ExcInit
import KE.KExcIs
import HandS.IsInst
import HandS.ExcValue
import HandS.Dict
import HandS.SortKw
import KE.SortKeyHeap
import KE.SortCalls
import HandS.Comp
import HandS.Iter
import HandS.Nested
import HandS.Walk
import HandS.DictComp
import KE.GoesMore
import KE.GoesEnum
import HandS.Text
import HandS.Style
import HandS.WordsDict
import PyProof.StrLaws
import HandS.Strs
import HandS.SetTxt0
import HandS.Steps
import HandS.Conv
import HandS.TryMany
import HandS.ExcField
import HandS.ExcIs
import PyProof.Rows.RegReprOcc
import HandS.Replace
import HandS.Deep
import PyProof.Rows.StrMul
import PyProof.Rows.StrJoinRep
import HandS.OwnEq
import HandS.Gcd
import HandS.Wide
import HandS.WideMore
import HandS.FStr
import HandS.Defaults
import PyProof.EqKinds
import PyProof.TwoTypes
import KE.KCallOwn
import PyProof.InstEq
import HandS.TryOnly
import HandS.More
import PyProof.Rows.TupMore
import PyProof.SliceList
import HandS.TupAny
import PyProof.AutoSeq1
import HandS.Set
import HandS.SetFor
import KE.SortData
import HandS.EndTab
import KE.KStateDown
import Lean
import HandS.Head0
import HandS.Head1
import HandS.Head2
import HandS.HeadEnd
import HandS.HeadHook4
import PySem.Challenge.RW_lettertrees_k02_routines_read
set_option Elab.async false
set_option linter.all false
set_option maxRecDepth 100000
set_option maxHeartbeats 0
/-! ### calls of an own exception class with keywords: the boot's __new__ takes any, the own __init__ gets them -/
namespace K0
open PySem PySem.W PySem.Calls PySem.HandSPX
section
variable {M : Model} {A : Around} {E : Value → Shared → Prop} {h : Heap} {g : Array GenState} {d : Drawn} {t : Nat} {os : OsState}
variable {nm q : Str} {C N : Addr} {bs bm bmB : List Value} {hdct : Bool} {sn : List Str} {sub : List Value} {ab : Bool} {col : Option Bool} {dd : Option Addr}
variable {k0 k1 k2 k3 k5 : Option Value} {B newId initId : String}

theorem kw_check_new (F : ExcBaseFacts B newId initId bmB) (hT : ∀ X : String, bm.contains (.type X) = bmB.contains (.type X)) {rest : List Value} {kw : List (Str × Value)} {Q : Unit → Shared → Prop}
    (hC : h.get? C = some (excClassObj nm q C N bs bm hdct sn sub ab col dd k0 k1 k2 k3 k5 newId)) (hq : Q () ⟨h, g, d, t, os⟩) :
    wpAny M A (checkBuiltinCall newId ⟨.ref C :: rest, kw⟩) Q E ⟨h, g, d, t, os⟩ := by
  have hB : (Value.ref C :: bm).contains (.type B) = true := by
    rw [List.contains_cons, hT, F.hasB, Bool.or_true]
  have hs := F.noStar
  simp only [checkBuiltinCall, F.newKind, F.newSplit, F.newRow]
  repeat
    first
    | refine wpAny_loadPart_at hC ?_
    | (refine wpAny_isSubtype_exc hC ?_
       rw [hB])
    | refine wpAny_staticBase_exc hC ?_
    | refine wpAny_madeBy_exc hC ?_
    | simp only [bne_self_eq_false, Bool.false_eq_true, if_false]
    | wp_step
  exact hq
end
section
variable {prog : Program} {w : World} {A : Around} {E : Value → Shared → Prop} {R : Result → Shared → Prop} {h : Heap} {g : Array GenState} {d : Drawn} {t : Nat} {os : OsState}
variable {nm q : Str} {C N : Addr} {bs bm bmB : List Value} {hdct : Bool} {sn : List Str} {sub : List Value} {ab : Bool} {col : Option Bool} {dd : Option Addr}
variable {k0 k1 k2 k3 k5 : Option Value} {B newId initId : String}

/-- the heap with a new exception of the class at C, its args behind it -/
abbrev twoMore (h : Heap) (C : Addr) (rest : List Value) : Heap := (h.push (W.kdv_tup rest)).push (excO C h.objs.size)

theorem kw_new (F : ExcBaseFacts B newId initId bmB) (hT : ∀ X : String, bm.contains (.type X) = bmB.contains (.type X)) {rest : List Value} {kw : List (Str × Value)}
    (hC : h.get? C = some (excClassObj nm q C N bs bm hdct sn sub ab col dd k0 k1 k2 k3 k5 newId))
    (hq : R (.ok (.ret (.ref (h.objs.size + 1)))) ⟨twoMore h C rest, g, d, t, os⟩) (hz : rest.length ≤ sizeLine) :
    codeAny (model prog w) A (.builtin newId ⟨.ref C :: rest, kw⟩) R ⟨h, g, d, t, os⟩ := by
  have e0 := F.ends
  have cB : (Value.ref C :: bm).contains (.type B) = true := by
    rw [List.contains_cons, hT, F.hasB, Bool.or_true]
  have cA : (Value.ref C :: bm).contains (.type "AttributeError") = false := by
    rw [List.contains_cons, hT, F.noAttr] <;> rfl
  have cN : (Value.ref C :: bm).contains (.type "NameError") = false := by
    rw [List.contains_cons, hT, F.noName] <;> rfl
  refine codeAny_builtinAt F.entry ?_
  unfold Builtin.«BaseException.__new__»
  refine wpAt_bind ?_
  show wpAt _ _ _ (stack >>= _) _ _ _
  refine wpAt_bind (wpAt_stack fun p below => wpAt_of_wpAny ?_)
  wp_walk
  refine wpAt_of_wpAny ?_
  rw [F.owner]
  repeat
    first
    | with_reducible refine wpAny_madeHere_exc F.canon hC ?_
    | with_reducible refine wpAny_loadPart_at hC ?_
    | (with_reducible refine wpAny_isSubtype_exc hC ?_
       first | rw [cB] | rw [cA] | rw [cN])
    | wp_step
  show R _ _
  rw [Heap.size_push]
  exact hq

theorem kw_typeCall (F : ExcBaseFacts B newId initId bmB) (hT : ∀ X : String, bm.contains (.type X) = bmB.contains (.type X)) {rest : List Value} {kw : List (Str × Value)} {fI : Addr} {Q : Fin → Shared → Prop}
    (hC : h.get? C = some (excClassObj nm q C N bs bm hdct sn sub ab col dd k0 k1 k2 k3 k5 newId))
    (hi : W.Looks (model prog w) h (typeLookup (.ref C) "__init__") (some (.ref fI))) (hb : ∀ self, W.Looks (model prog w) h (bindSpecial (.ref fI) self) (.ref fI, [self])) (hz : rest.length ≤ sizeLine)
    (hq : codeAny (model prog w) A (.call (.ref fI) ⟨.ref (h.objs.size + 1) :: rest, kw⟩)
      (fun r s' => match r with | .ok (.ret v) => v = .none ∧ Q (.done (.ret (.ref (h.objs.size + 1)))) s' | .ok _ => False | .error e => E e s') ⟨twoMore h C rest, g, d, t, os⟩) :
    wpAny (model prog w) A (Builtin.«type.__call__» ⟨.ref C :: rest, kw⟩) Q E ⟨h, g, d, t, os⟩ := by
  repeat
    first
    | with_reducible refine wpAny_loadPart_at hC ?_
    | with_reducible refine wpAny_madeBy_exc hC ?_
    | wp_step
  refine codeAny_call_builtin_code (Code.quiet_builtin _ F.quiet) (kw_check_new F hT hC ?_)
  refine kw_new F hT hC ?_ hz
  show wpAny _ _ _ _ _ _
  have k : ∀ b o, h.get? b = some o → (twoMore h C rest).get? b = some o := fun b o e => Heap.get?_push_of_some _ (Heap.get?_push_of_some _ e)
  have hC1 := k _ _ hC
  have hx : (twoMore h C rest).get? (h.objs.size + 1) = some (excO C h.objs.size) := by heap_get
  have cC : (Value.ref C :: bm).contains (.ref C) = true := by simp
  have i1 := hi.keeps k
  have b1 := (hb (.ref (h.objs.size + 1))).keeps k
  unfold isInstance
  repeat
    first
    | with_reducible refine wpAny_loadPart_at hx ?_
    | (with_reducible refine wpAny_isSubtype_exc hC1 ?_
       rw [cC])
    | wp_step
  show wpAny _ _ (typeLookup (.ref C) _) _ _ _
  refine i1.at ?_
  refine wpAny_holding (wpAny_bind (b1.at ?_))
  refine wpAny_bind (wpAny_call (codeAny_mono hq fun r s' z => ?_))
  cases r with
  | error e => exact z
  | ok f =>
    cases f with
    | ret v =>
      obtain ⟨rfl, z⟩ := z
      first
      | exact wpAny_pure (wpAny_pure z)
      | (wp_walk
         exact z)
    | next => exact z.elim
    | brk => exact z.elim
    | cont => exact z.elim

theorem kw_checkCall {M : Model} {rest : List Value} {kw : List (Str × Value)} {Q : Unit → Shared → Prop} (hC : h.get? C = some (excClassObj nm q C N bs bm hdct sn sub ab col dd k0 k1 k2 k3 k5 newId))
    (hq : Q () ⟨h, g, d, t, os⟩) : wpAny M A (checkBuiltinCall "type.__call__" ⟨.ref C :: rest, kw⟩) Q E ⟨h, g, d, t, os⟩ := by
  have e3 := tc_sub
  have ty : (⟨h, g, d, t, os⟩ : Shared).TypeIs (.ref C) "type" := ⟨_, hC, rfl⟩
  simp only [checkBuiltinCall, tc_kind, tc_split]
  repeat (any_goals (first
    | assumption
    | with_reducible refine wpAny_loadPart_at hC ?_
    | with_reducible refine wpAny_onRaise ?_
    | with_reducible refine wpAny_map ?_
    | wp_step))

theorem kw_call (F : ExcBaseFacts B newId initId bmB) (hT : ∀ X : String, bm.contains (.type X) = bmB.contains (.type X)) {rest : List Value} {kw : List (Str × Value)} {fI : Addr}
    (hC : h.get? C = some (excClassObj nm q C N bs bm hdct sn sub ab col dd k0 k1 k2 k3 k5 newId))
    (hi : W.Looks (model prog w) h (typeLookup (.ref C) "__init__") (some (.ref fI))) (hb : ∀ self, W.Looks (model prog w) h (bindSpecial (.ref fI) self) (.ref fI, [self])) (hz : rest.length ≤ sizeLine)
    (hq : codeAny (model prog w) (A.under (.builtin "type.__call__" ⟨.ref C :: rest, kw⟩)) (.call (.ref fI) ⟨.ref (h.objs.size + 1) :: rest, kw⟩) (W.InitBack (h.objs.size + 1) R) ⟨twoMore h C rest, g, d, t, os⟩) :
    codeAny (model prog w) A (.call (.ref C) ⟨rest, kw⟩) R ⟨h, g, d, t, os⟩ := by
  have f1 := tc_lookup
  have f2 := tc_bind (.ref C)
  have ty : (⟨h, g, d, t, os⟩ : Shared).TypeIs (.ref C) "type" := ⟨_, hC, rfl⟩
  refine codeAny_of_tree ?_
  show wpAny _ _ (callAny (.ref C) _) _ _ _
  repeat (any_goals (first
    | assumption
    | with_reducible refine wpAny_loadPart_at hC ?_
    | wp_step))
  refine ⟨rfl, ?_⟩
  refine codeAny_call_builtin_at (Code.quiet_builtin _ (by decide +kernel)) entry_typeCall (kw_checkCall hC (kw_typeCall F hT hC hi hb hz ?_))
  refine codeAny_mono hq fun r s' z => ?_
  cases r with
  | error e => exact z
  | ok f => cases f <;> exact z
end
end K0
namespace K0
open PySem PySem.Spec PyProof.Rows L2
abbrev St := L2.St
section
variable {X : Cx} {pins : List (Addr × Obj)} {σ : St} {H H' : Hp} {s : Shared}
/-- things told by what is true of their one object may be forgotten -/
theorem forget (I : Inv X pins σ H' s) (sub : ∀ b o, H b = some o → H' b = some o) (ext : ∀ b o, H' b = some o → H b = some o ∨ ∃ φ, o = HO.ext φ) : Inv X pins σ H s := by
  have fr : ∀ b, H' b = none → H b = none := fun b n => by
    cases q : H b with
    | none => rfl
    | some o =>
      rw [sub b o q] at n
      cases n
  have back : ∀ b o, H' b = some o → (∀ φ, o ≠ HO.ext φ) → H b = some o := fun b o q n => by
    rcases ext b o q with z | ⟨φ, z⟩
    · exact z
    · exact absurd z (n φ)
  refine ⟨I.ok, I.os, I.bare, ⟨I.base.keep, I.base.slot, fun b o e n hx => fr b (I.base.free b o e n hx), I.base.there, fun b xs q => ?_, fun b o u q => ?_, fun b ps q => ?_⟩, I.loc, I.cell, fr _ I.free, fun x c e => fr c (I.freeC x c e), fun p hp => ?_, fun b o q => ?_, I.len⟩
  · exact back b _ (I.base.tups b xs q) (fun φ z => nomatch z)
  · exact back b _ (I.base.frzs b o u q) (fun φ z => nomatch z)
  · obtain ⟨m, z⟩ := I.base.tbls b ps q
    exact ⟨m, back b _ z (fun φ z => nomatch z)⟩
  · obtain ⟨h1, h2, h3, h4, h5⟩ := I.pin p hp
    exact ⟨h1, fr _ h2, h3, h4, h5⟩
  · exact (I.hok b o (sub b o q)).stay (fun c v _ z => z) (fun c z => back c _ z (fun φ z => nomatch z)) fun c xs z => back c _ z (fun φ z => nomatch z)
end

/-! ### an exception of an own class with its own __init__ -/
structure XCl (K : PySem.W.Frag) (C : Addr) : Prop where
  T : OexC K C
  ga : PySem.W.findIn K (.ref C) "__getattribute__" = some (some (.builtin "BaseException.__getattribute__"))
  gg : PySem.W.findIn K (.ref C) "__getattr__" = some none
  hd : PySem.W.hasDictIn K C = true
  ha : PySem.W.findIn K (.ref C) "__class__" = some (some (.builtin "object.__class__"))
  hn : PySem.W.specialIn K (.builtin "object.__class__") "__get__" = some (some (.builtin "getset_descriptor.__get__"))
  ht : PySem.W.takesIn K (.builtin "object.__class__") = some true
  hm : PySem.W.mroIn K C (.type "object") = some true
/-- the heap with an exception of C at a, its dict of the fields fs at dx -/
abbrev withX (H : Hp) (C a dx : Addr) (fs : List (Str × V)) : Hp := upd (upd H dx (exd dx fs)) a (exo a C (some dx))
/-- what such an __init__ does: the fields fs get the arguments -/
def spX (C : Addr) (fs : List Str) : Sp := fun vs H Q _ => ∃ (a : Addr) (ys : List V), vs = .ref a :: ys ∧ ys.length = fs.length ∧ H a = some (exo a C none) ∧
  ∀ dx, H dx = none → dx ≠ a → Q .non (withX H C a dx (fs.zip ys).reverse)
theorem withX_sub {H : Hp} {C a dx : Addr} {fs : List (Str × V)} (ha : H a = none) (hd : H dx = none) : ∀ b o, H b = some o → withX H C a dx fs b = some o := fun b o e => by
  show upd (upd H dx _) a _ b = some o
  rw [upd_ne (ne_of_none e ha), upd_ne (ne_of_none e hd)]
  exact e
theorem withX_ext {H : Hp} {C a dx : Addr} {fs : List (Str × V)} : ∀ b o, withX H C a dx fs b = some o → H b = some o ∨ ∃ φ, o = HO.ext φ := fun b o e => by
  have e' : upd (upd H dx (exd dx fs)) a (exo a C (some dx)) b = some o := e
  by_cases hb : b = a
  · subst hb
    rw [upd_same] at e'
    exact .inr ⟨_, (Option.some.inj e').symm⟩
  · rw [upd_ne hb] at e'
    by_cases hd : b = dx
    · subst hd
      rw [upd_same] at e'
      exact .inr ⟨_, (Option.some.inj e').symm⟩
    · rw [upd_ne hd] at e'
      exact .inl e'
section
variable {X : Cx} {k : Nat} {f C : Addr} {fd : FuncData} {ps : List Str} {sp : Sp}
theorem run_mx {pins : List (Addr × Obj)} {σ : St} {H : Hp} {s : Shared} {Q : VK} {us args : List Value} {kw : List (Str × Value)} {vs : List V} (T : OexC X.K C) (iC : PySem.W.findIn X.K (.ref C) "__init__" = some (some (.ref f)))
    (tI : PySem.W.typeIn X.K (.ref f) = some (.type "function")) (F : FnOk X.prog X.w X.K X.mg X.base CX0 k f fd ps sp) (hr : Room (k + 1) X.A)
    (hb : ∀ (s : Shared) (self : Value), X.K.In s.heap → BindsTo s fd ⟨self :: us, kw⟩ (ps.zip (self :: args))) (I : Inv X pins σ H s) (hz : us.length ≤ sizeLine) (r : Vals vs args)
    (h : ∀ a, H a = none → sp (.ref a :: vs) (upd H a (exo a C none)) (fun v H2 => v = .non ∧ Q (.ref a) H2) E0) :
    wpAny (model X.prog X.w) X.A (call (.ref C) us kw) (EP X pins σ Q) X.xe s := by
  obtain ⟨nm, q, N, bs, bm, sn, sub, ab, col, dd, k0, k1, k2, k3, k5, hC, hbm⟩ := T.cls
  obtain ⟨hp, g, dr, tk, os⟩ := s
  have up : hp.objs.size ≤ hp.objs.size + 1 := Nat.le_succ _
  have hq := h (hp.objs.size + 1) (I.hok.fresh up)
  have keep : ∀ b o, hp.get? b = some o → (twoMore hp C us).get? b = some o := fun b o e => Heap.get?_push_of_some _ (Heap.get?_push_of_some _ e)
  have there : (twoMore hp C us).get? (hp.objs.size + 1) = some (PySem.HandSPX.excO C hp.objs.size) := by heap_get
  have I2 : Inv X pins σ (upd H (hp.objs.size + 1) (exo (hp.objs.size + 1) C none)) ⟨twoMore hp C us, g, dr, tk, os⟩ := I.laid (t' := tk) keep up (exo_ok there)
  have r2 : Vals (V.ref (hp.objs.size + 1) :: vs) (Value.ref (hp.objs.size + 1) :: args) := .cons rfl r
  refine wpAny_call (kw_call PySem.F.excBase_ValueError (fun Y => PySem.HandSPX.refsVE_contains Y bm hbm) (I.kIn _ _ hC) (PySem.W.looks_findIn I.kIn iC) (fun self => PySem.W.bind_fn I.kIn self tI) hz
    (codeAny_mono (F.run _ X.stack _ _ ⟨Value.ref (hp.objs.size + 1) :: us, kw⟩ _ _ _ E0 (hr.make C us kw) (I2.env0.make C us kw) (hb _ _ I2.kIn) r2 hq) fun r s' hq' => ?_))
  cases r with
  | error er => exact hq'.elim
  | ok fl =>
    cases fl with
    | ret u =>
      obtain ⟨v, H3, I3, rv, ev, q3⟩ := I2.after hq'
      subst ev
      exact ⟨rv, ⟨V.ref (hp.objs.size + 1), H3, I3, rfl, q3⟩⟩
    | next => exact False.elim hq'
    | brk => exact False.elim hq'
    | cont => exact False.elim hq'
/-- the class made, its fields kept: as a value -/
theorem run_mv {fs : List Str} {pins : List (Addr × Obj)} {σ : St} {H : Hp} {s : Shared} {Q : VK} {us args : List Value} {kw : List (Str × Value)} {vs : List V} (T : OexC X.K C) (iC : PySem.W.findIn X.K (.ref C) "__init__" = some (some (.ref f)))
    (tI : PySem.W.typeIn X.K (.ref f) = some (.type "function")) (F : FnOk X.prog X.w X.K X.mg X.base CX0 k f fd ps (spX C fs)) (hr : Room (k + 1) X.A)
    (hb : ∀ (s : Shared) (self : Value), X.K.In s.heap → BindsTo s fd ⟨self :: us, kw⟩ (ps.zip (self :: args))) (I : Inv X pins σ H s) (hz : us.length ≤ sizeLine) (r : Vals vs args) (hl : vs.length = fs.length)
    (h : ∀ a dx, H a = none → H dx = none → dx ≠ a → Q (.ref a) (withX H C a dx (fs.zip vs).reverse)) :
    wpAny (model X.prog X.w) X.A (call (.ref C) us kw) (EP X pins σ Q) X.xe s := by
  refine run_mx T iC tI F hr hb I hz r fun a na => ⟨a, vs, rfl, hl, upd_same, fun dx nd ne => ⟨rfl, ?_⟩⟩
  have nd' : H dx = none := by
    rw [upd_ne ne] at nd
    exact nd
  have e : withX (upd H a (exo a C none)) C a dx (fs.zip vs).reverse = withX H C a dx (fs.zip vs).reverse := by
    funext b
    show upd (upd (upd H a _) dx _) a _ b = upd (upd H dx _) a _ b
    by_cases hb : b = a
    · rw [hb, upd_same, upd_same]
    · rw [upd_ne hb, upd_ne hb]
      by_cases hd : b = dx
      · rw [hd, upd_same, upd_same]
      · rw [upd_ne hd, upd_ne hd, upd_ne hb]
  rw [e]
  exact h a dx na nd' ne
end
end K0
namespace K0
open PySem PySem.Spec PyProof.Rows L2
section
variable {X : Cx} {k : Nat} {f C : Addr} {fd : FuncData} {ps : List Str} {fs : List Str} {x n : Str} {e : Expr} {es : List Expr} {ta : TA} {te : TE} {p pos pos' : Pos} {kws : List Keyword}
/-- what the top says of such a class and its __init__ -/
structure XMk (X : Cx) (x : Str) (C : Addr) (fs : List Str) : Prop where
  cl : XCl X.K C
  gC : X.mg x = some (.ref C)
  ini : ∃ f fd k, PySem.W.findIn X.K (.ref C) "__init__" = some (some (.ref f)) ∧ PySem.W.typeIn X.K (.ref f) = some (.type "function") ∧ FnOk X.prog X.w X.K X.mg X.base CX0 k f fd (("self" : Str) :: fs) (spX C fs) ∧ Room (k + 1) X.A ∧
    (∀ (s : Shared) (self : Value) (us : List Value), us.length = fs.length → BindsTo s fd ⟨self :: us, []⟩ ((("self" : Str) :: fs).zip (self :: us))) ∧
    (∀ (s : Shared) (self : Value) (us : List Value), us.length = fs.length → BindsTo s fd ⟨[self], fs.zip us⟩ ((("self" : Str) :: fs).zip (self :: us)))
/-- C(e, ..) : whatever is asked of the arguments and the heap there, the new exception stands behind it -/
structure PX (X : Cx) (e : Expr) (C : Addr) (fs : List Str) (ta : TA) : Prop where
  run : ∀ (pins : List (Addr × Obj)) (s : Shared) (σ : St) (H : Hp) (P : List V → Hp → Prop), Inv X pins σ H s → (ta σ H fun vs H1 => vs.length = fs.length ∧ vs.length ≤ 1000 ∧ P vs H1) →
    wpAny (model X.prog X.w) X.A (eval e X.env) (fun u s1 => ∃ (vs : List V) (H1 : Hp) (a dx : Addr), u = .ref a ∧ H1 a = none ∧ H1 dx = none ∧ dx ≠ a ∧ Inv X pins σ (withX H1 C a dx (fs.zip vs).reverse) s1 ∧ P vs H1) X.xe s
theorem us_small {vs : List V} {us : List Value} (r : Vals vs us) (h : vs.length ≤ 1000) : us.length ≤ sizeLine := by
  rw [← Paired.length r, sizeLine_eq]
  omega
theorem px_pos (M : XMk X x C fs) (hg : Gl X x) (ha : PA X (e :: es) ta) (hdb : (x == ("__debug__" : Str)) = false := by decide)
    (he : starEach (e :: es) X.env = (false, eval e X.env) :: starEach es X.env := by rfl) (hpl : (backTo pos (starEach es X.env)).any (·.1) = false := by rfl) :
    PX X (.Call (.Name x p) (e :: es) [] pos) C fs ta := by
  refine ⟨fun pins s σ H P I h => ?_⟩
  obtain ⟨f, fd, k, iC, tI, F, hr, b1, _⟩ := M.ini
  refine wpAny_Call_Name_kw (ld_glob I hg M.gC ?_ hdb)
  refine PySem.W.callWith_K (h₀ := X.base) I.ok.mod.kin M.cl.T.kC (thn (ha.run pos pins s σ H _ I h) fun us s1 ⟨vs, H1, I1, r, hl, hz, q⟩ => ⟨I1.kIn, ?_⟩) he hpl
  refine thn (run_mv (fs := fs) (Q := fun v H2 => ∃ a dx, v = .ref a ∧ H1 a = none ∧ H1 dx = none ∧ dx ≠ a ∧ H2 = withX H1 C a dx (fs.zip vs).reverse) M.cl.T iC tI F hr (fun s self _ => b1 s self us (r.length.symm.trans hl)) I1 (us_small r hz) r hl
    fun a dx na nd ne => ⟨a, dx, rfl, na, nd, ne, rfl⟩) fun u s2 ⟨v, H2, I2, rv, a, dx, ev, na, nd, ne, eH⟩ => ?_
  subst ev eH
  exact ⟨vs, H1, a, dx, rv, na, nd, ne, I2, q⟩
theorem px_kw (M : XMk X x C fs) (hg : Gl X x) (hkw : PK X kws ta) (hall : (backToKw pos (keywordEach kws X.env)).all (·.1.isSome) = true := by rfl) (hks : (backToKw pos (keywordEach kws X.env)).filterMap (·.1) = fs := by rfl)
    (hdb : (x == ("__debug__" : Str)) = false := by decide) (hpl : ((backTo pos (starEach [] X.env)).any (·.1) || (backToKw pos (keywordEach kws X.env)).any (·.1.isNone)) = false := by rfl) :
    PX X (.Call (.Name x p) [] kws pos) C fs ta := by
  refine ⟨fun pins s σ H P I h => ?_⟩
  obtain ⟨f, fd, k, iC, tI, F, hr, _, b2⟩ := M.ini
  refine wpAny_Call_Name_kw (ld_glob I hg M.gC ?_ hdb)
  refine PySem.W.callWith_KW0 (h₀ := X.base) I.ok.mod.kin M.cl.T.kC hall (thn (hkw.run pos pins s σ H _ I h) fun us s1 ⟨vs, H1, I1, r, hl, hz, q⟩ => ⟨I1.kIn, ?_⟩) hpl
  rw [hks]
  refine thn (run_mv (fs := fs) (us := []) (Q := fun v H2 => ∃ a dx, v = .ref a ∧ H1 a = none ∧ H1 dx = none ∧ dx ≠ a ∧ H2 = withX H1 C a dx (fs.zip vs).reverse) M.cl.T iC tI F hr (fun s self _ => b2 s self us (r.length.symm.trans hl)) I1 (Nat.zero_le _) r hl
    fun a dx na nd ne => ⟨a, dx, rfl, na, nd, ne, rfl⟩) fun u s2 ⟨v, H2, I2, rv, a, dx, ev, na, nd, ne, eH⟩ => ?_
  subst ev eH
  exact ⟨vs, H1, a, dx, rv, na, nd, ne, I2, q⟩
/-- C(e, ..) as a value -/
def tMx (C : Addr) (fs : List Str) (ta : TA) : TE := fun σ H Q => ta σ H fun vs H1 => vs.length = fs.length ∧ vs.length ≤ 1000 ∧ ∀ a dx, H1 a = none → H1 dx = none → dx ≠ a → Q (.ref a) (withX H1 C a dx (fs.zip vs).reverse)
theorem pe_mx (h : PX X e C fs ta) : PE X e (tMx C fs ta) := by
  refine ⟨fun pins s σ H Q I h0 => thn (h.run pins s σ H _ I h0) fun u s1 hh => ?_⟩
  obtain ⟨vs, H1, a, dx, rfl, na, nd, ne, I1, q⟩ := hh
  exact ⟨.ref a, _, I1, rfl, q a dx na nd ne⟩
/-- C(e, ..).n: the exception itself is let go -/
def tFx (fs : List Str) (n : Str) (ta : TA) : TE := fun σ H Q => ta σ H fun vs H1 => vs.length = fs.length ∧ vs.length ≤ 1000 ∧ ∃ v, (fs.zip vs).reverse.lookup n = some v ∧ Q v H1
theorem pe_fx (cl : XCl X.K C) (hno : PySem.W.findIn X.K (.ref C) n = some none) (h : PX X e C fs ta) (hb : attributeBase e n X.env (eval e X.env) = eval e X.env := by rfl) : PE X (.Attribute e n pos) (tFx fs n ta) := by
  refine ⟨fun pins s σ H Q I h0 => attr_of hb (thn (h.run pins s σ H _ I h0) fun u s1 hh => ?_)⟩
  obtain ⟨vs, H1, a, dx, rfl, na, nd, ne, I1, v, l, q⟩ := hh
  have ea : withX H1 C a dx (fs.zip vs).reverse a = some (exo a C (some dx)) := upd_same
  have ed : withX H1 C a dx (fs.zip vs).reverse dx = some (exd dx (fs.zip vs).reverse) := (upd_ne ne).trans upd_same
  obtain ⟨t1, ho⟩ := exo_at I1.hok ea
  obtain ⟨mA, hns, rel⟩ := exd_at I1.hok ed
  obtain ⟨od, hd, hl⟩ := lookIn_ns hns
  obtain ⟨u, hu, ru⟩ := RelO.some_of (v := v) (o := mA n) (by rw [← l]; exact rel n)
  have J : PySem.W.InstAt s1.heap a _ C (some od) := ⟨ho, rfl, rfl, hd⟩
  exact PySem.HandSPX.exc_get I1.kIn J cl.ga cl.gg cl.T.exC (PySem.W.findObj_own cl.hd hno rfl (by rw [hl, hu])) (handed_of ru) ⟨v, H1, (forget I1 (withX_sub na nd) withX_ext).tok _, ru, q⟩
/-! ### C(), a class without an own __init__ -/
theorem pe_m0 {newId initId B : String} {bmB : List Value} (F : ExcBaseFacts B newId initId bmB) (q : PySem.W.excIn X.K C bmB newId = true) (gC : X.mg x = some (.ref C)) (kC : PySem.W.keepIn X.K (.ref C) = true) (hg : Gl X x) (hdb : (x == ("__debug__" : Str)) = false := by decide) :
    PE X (.Call (.Name x p) [] [] pos) (fun _ H Q => ∀ a, H a = none → Q (.ref a) (upd H a (exo a C none))) := by
  refine ⟨fun pins s σ H Q I h => ?_⟩
  refine wpAny_Call_Name_kw (ld_glob I hg gC ?_ hdb)
  refine PySem.W.callWith_K0 I.kIn kC ?_
  show wpAny _ _ (call (.ref C) []) _ _ _
  obtain ⟨bm, N, nm, qn, bs, hdct, sn, sub, ab, col, dd, k0, k1, k2, k3, k5, mN, hC, hN, hni, T⟩ := exc_obj I.kIn q
  refine wpAny_call_exc_subT F T hC hN hni (fun h' a hm => ?_) (Nat.zero_le _)
  have hn : H a = none := I.hok.gone hm.new
  obtain ⟨t, ht, _, _⟩ := hm.there
  exact ⟨.ref a, upd H a (exo a C none), I.laidN hm.keeps hm.new hn (exo_ok ht), rfl, h a hn⟩
/-! ### isinstance(e, c), e such an exception -/
def rIsx (K : PySem.W.Frag) : List V → Hp → VK → Prop := fun xs H Q => ∃ (a D : Addr) (c : V) (u : Value) (b : Bool), xs = [.ref a, c] ∧ ClsV c u ∧ XCl K D ∧ (H a = some (exo a D none) ∨ ∃ dx gs, H a = some (exo a D (some dx)) ∧ H dx = some (exd dx gs)) ∧
  PySem.W.kitOne K (.ref D) u = some b ∧ Q (.bl b) H
theorem call_isx : CallR X (.builtin "isinstance") (rIsx X.K) := by
  intro pins s σ H xs us Q I r h
  obtain ⟨a, D, c, u, b, rfl, k, cl, ha, e, q⟩ := h
  obtain ⟨u1, u2, rfl, r1, r2⟩ := vals2 r
  obtain rfl : u1 = Value.ref a := r1
  have e2 := k.eq r2
  subst e2
  have hc : (PySem.W.clsIn X.K D).isSome = true := by
    obtain ⟨cd, hcd, _⟩ := PySem.W.any_some cl.hd
    rw [hcd]
    rfl
  have J : ∃ ox od, PySem.W.InstAt s.heap a ox D od := by
    rcases ha with ha | ⟨dx, gs, ha, hd⟩
    · obtain ⟨t1, ho⟩ := exo_at I.hok ha
      exact ⟨_, none, ho, rfl, rfl, trivial⟩
    · obtain ⟨t1, ho⟩ := exo_at I.hok ha
      obtain ⟨mA, hns, rel⟩ := exd_at I.hok hd
      obtain ⟨od, hd, hl⟩ := lookIn_ns hns
      exact ⟨_, some od, ho, rfl, rfl, hd⟩
  obtain ⟨ox, od, J⟩ := J
  exact PySem.W.kia_one (PySem.W.kitx_exc (ox := ox) (od := od) hc cl.ga cl.gg cl.T.exC cl.ha cl.hn cl.ht cl.hm) I.kIn J e (fun z => nomatch z) fun tk => ⟨.bl b, H, I.tok tk, rfl, q⟩
end
/-! ### repr of data with empty dicts -/
mutual
inductive De (K : PySem.W.Frag) (H : Hp) : V → PyData → Prop
  | non : De K H .non .none
  | bl (b : Bool) : De K H (.bl b) (.bool b)
  | int (i : Int) : De K H (.int i) (.int i)
  | str (x : Str) : De K H (.str x) (.str x)
  | lst {a : Addr} {xs : List V} {ds : List PyData} : H a = some (.lst xs) → DeAll K H xs ds → De K H (.ref a) (.list ds)
  | tup {a : Addr} {xs : List V} {ds : List PyData} : H a = some (.tup xs) → DeAll K H xs ds → De K H (.ref a) (.tuple ds)
  | dic {a : Addr} : H a = some (.dK []) → De K H (.ref a) (.dict [])
inductive DeAll (K : PySem.W.Frag) (H : Hp) : List V → List PyData → Prop
  | nil : DeAll K H [] []
  | cons {v : V} {vs : List V} {d : PyData} {ds : List PyData} : De K H v d → DeAll K H vs ds → DeAll K H (v :: vs) (d :: ds)
end
section
variable {X : Cx} {pins : List (Addr × Obj)} {σ : St} {H : Hp} {s : Shared}
theorem off {a : Addr} {o : HO} (hs : H sysModules = none) (h : H a = some o) : sysModules ≠ a := fun e => by
  rw [← e, hs] at h
  cases h
mutual
theorem de_reads (I : Inv X pins σ H s) (hs : H sysModules = none) : ∀ (d : PyData) (v : V) (u : Value), De X.K H v d → RelV v u → ∃ as, Reads s.heap u d as ∧ sysModules ∉ as
  | .none, _, _, h, r => by
    cases h
    obtain rfl : _ = Value.none := r
    exact ⟨_, Reads.none, by simp⟩
  | .bool b, _, _, h, r => by
    cases h
    obtain rfl : _ = Value.bool b := r
    exact ⟨_, Reads.bool b, by simp⟩
  | .int i, _, _, h, r => by
    cases h
    obtain ⟨t, rfl⟩ := r
    exact ⟨_, Reads.int i t, by simp⟩
  | .str x, _, _, h, r => by
    cases h
    obtain ⟨t, rfl⟩ := r
    exact ⟨_, Reads.str x t, by simp⟩
  | .list ds, _, _, h, r => by
    cases h with
    | @lst a xs _ ha hd =>
      obtain rfl : _ = Value.ref a := r
      obtain ⟨_, its, n, rv, ho⟩ := (show ObjOk X.prog X.w H s.heap a (.lst xs) from I.hok a _ ha)
      obtain ⟨as, hr, hn⟩ := de_all I hs ds xs its hd rv
      refine ⟨_, Reads.list ho rfl rfl hr, fun z => ?_⟩
      rcases List.mem_cons.mp z with z | z
      · exact off hs ha z
      · exact hn z
  | .tuple ds, _, _, h, r => by
    cases h with
    | @tup a xs _ ha hd =>
      obtain rfl : _ = Value.ref a := r
      obtain ⟨_, its, rv, o, ho, hc, n, hd2⟩ := (show ObjOk X.prog X.w H s.heap a (.tup xs) from I.hok a _ ha)
      obtain ⟨as, hr, hn⟩ := de_all I hs ds xs its hd rv
      exact ⟨_, Reads.tuple ho hc hd2 hr, hn⟩
  | .dict _, _, _, h, r => by
    cases h with
    | @dic a ha =>
      obtain rfl : _ = Value.ref a := r
      obtain ⟨_, _, vs, rv, o, es, ep, ho, hx, hd, _, hp, _⟩ := (show ObjOk X.prog X.w H s.heap a (.dK []) from I.hok a _ ha)
      cases rv
      have e0 : es.toList = [] := by
        have z := hp.length
        exact List.eq_nil_of_length_eq_zero z
      refine ⟨_, Reads.dict (as := []) (bs := []) ho hx.1 hd (by rw [e0]; exact ReadsAll.nil) (by rw [e0]; exact ReadsAll.nil), fun z => ?_⟩
      simp at z
      exact off hs ha z
theorem de_all (I : Inv X pins σ H s) (hs : H sysModules = none) : ∀ (ds : List PyData) (vs : List V) (us : List Value), DeAll X.K H vs ds → Vals vs us → ∃ as, ReadsAll s.heap us ds as ∧ sysModules ∉ as
  | [], _, _, h, r => by
    cases h
    cases r
    exact ⟨_, ReadsAll.nil, by simp⟩
  | d :: ds, _, _, h, r => by
    cases h with
    | cons h1 h2 =>
      cases r with
      | cons r1 r2 =>
        obtain ⟨as, q1, n1⟩ := de_reads I hs d _ _ h1 r1
        obtain ⟨bs, q2, n2⟩ := de_all I hs ds _ _ h2 r2
        exact ⟨_, ReadsAll.cons q1 q2, fun z => (List.mem_append.mp z).elim n1 n2⟩
end
end
section
variable {X : Cx}
/-- repr(xs), xs a list of data -/
def rRep (K : PySem.W.Frag) : List V → Hp → VK → Prop := fun xs H Q => ∃ (a : Addr) (d : PyData), xs = [.ref a] ∧ De K H (.ref a) d ∧ d.showable = true ∧ d.depth ≤ 8 ∧ d.shown.length ≤ sizeLine ∧ Q (.str d.shown) H
theorem call_rep (hg : X.A.guards = some []) (hu : X.A.units + 64 < cLine) (hsys : ∃ o, X.K.lookup sysModules = some o) : CallR X (.builtin "repr") (rRep X.K) := by
  intro pins s σ H xs us Q I r h
  obtain ⟨a, d, rfl, hd, hsh, hdp, hz, q⟩ := h
  obtain ⟨oS, hoS⟩ := hsys
  have hs : H sysModules = none := (I.bs _ _ (I.ok.mod.kin _ _ hoS)).2
  obtain ⟨u, rfl, ru⟩ := vals1 r
  obtain rfl : u = Value.ref a := ru
  obtain ⟨as, hr, hn⟩ := de_reads I hs d _ _ hd rfl
  exact repr_of_reads' hr hsh (fun _ => hn) hg (by omega) (fun _ _ z => z) (fun h' t tk hk => ⟨.str d.shown, H, I.kept hk, ⟨t, rfl⟩, q⟩) hz
end
end K0
/-! ### sorted(xs, key=f), f's calls seen by an invariant of one's own; the keys are texts -/
namespace SK
open PySem PySem.W PySem.Calls PyProof.Rows
def IsText (v : Value) (k : Str) : Prop := ∃ t, v = .str k t
abbrev Texts (us : List Value) (ks : List Str) : Prop := EachIs IsText us ks
section
variable {prog : Program} {w : World} {A : Around} {E : Value → Shared → Prop} {s : Shared} {a kS : Addr} {b : Bool} {vs : List Value} {ks : List Str} {e1 : Nat} {P : PySem.Fin → Shared → Prop}
theorem texts_read {h : Heap} : ∀ {us : List Value} {ks : List Str}, Texts us ks → EachIs (fun v d => ∃ as, Reads h v d as) us (ks.map PyData.str)
  | _, _, .nil => .nil
  | _, _, .cons ⟨t, e⟩ r => .cons ⟨[], by rw [e]; exact .str _ t⟩ (texts_read r)
theorem alike_texts (ks : List Str) : AllAlike (ks.map PyData.str) := AllAlike.of fun x y => by simp [alike]
theorem sortable_texts (ks : List Str) : Sortable (ks.map PyData.str) := Sortable.others fun x => ⟨(nomatch ·), fun xs => (nomatch ·)⟩
/-- what an invariant J of the sort has to tell -/
structure ByJ (prog : Program) (w : World) (A : Around) (a kS : Addr) (e1 : Nat) (f : Value) (vs : List Value) (ks : List Str) (J : Nat → Shared → Prop) : Prop where
  is : ∀ i s, J i s → ∃ kA e, s.heap.get? kS = some (seqObj "list" kA e) ∧ Texts kA.toList (ks.take i) ∧ s.heap.get? a = some (seqObj "list" #[] e1)
  turn : ∀ (i : Nat) (v : Value) (k : Str), vs[i]? = some v → ks[i]? = some k → ∀ s, J i s → wpAny (model prog w) A (call f [v]) (fun u s2 => IsText u k ∧ ∃ kA e, s2.heap.get? kS = some (seqObj "list" kA e) ∧ Texts kA.toList (ks.take i) ∧
    ∀ h3 e3, Heap.SameBut kS s2.heap h3 → h3.get? kS = some (seqObj "list" (kA.push u) e3) → J (i + 1) { s2 with heap := h3 }) (fun _ _ => False) s
theorem rest_by {f : Value} {J : Nat → Shared → Prop} (B : ByJ prog w A a kS e1 f vs ks J) (hka : kS ≠ a) (hlen : ks.length = vs.length) (hZ : vs.length ≤ sizeLine) (hu : A.units < cLine) (j0 : J 0 s)
    (h : ∀ s' h' tk out c, J vs.length s' → (∀ b o, b ≠ a → b ≠ kS → s'.heap.get? b = some o → h'.get? b = some o) → h'.get? a = some (seqObj "list" (List.toArray out) c) → KeyedOut b (ks.map PyData.str) vs out → P (.done (.ret .none)) { s' with heap := h', toks := tk }) :
    wpAny (model prog w) A (ksk_rest a f b vs.toArray e1 (.ref kS)) P E s := by
  unfold ksk_rest
  refine wpAny_bind (wpAny_rule ?_)
  first
    | rw [List.forIn_toArray]
    | (rw [← Array.forIn_toList]; simp only [List.toList_toArray])
  refine wpAny_bind (ksk_fold J vs 0 s j0 (fun j x s' hx hJ => ?_) fun s' hJ => ?_)
  · rw [Nat.zero_add] at hJ ⊢
    have hj : j < vs.length := (List.getElem?_eq_some_iff.mp hx).1
    obtain ⟨k, hkj⟩ : ∃ k, ks[j]? = some k := ⟨_, List.getElem?_eq_getElem (by omega)⟩
    refine wpAny_bind (wpAny_attempt (wpAny_mono (B.turn j x k hx hkj s' hJ) (fun u s2 q => ?_) fun _ _ z => z.elim))
    obtain ⟨ht, kA, e, nk, tx, go⟩ := q
    dsimp only
    have hz : kA.size ≤ vs.length := by
      have z := tx.length
      rw [Array.length_toList, List.length_take] at z
      omega
    have hz2 : kA.size ≤ sizeLine := Nat.le_trans hz hZ
    obtain ⟨c2, hc2⟩ : ∃ c2, (s2.heap.update kS (Obj.mapSeq (·.push u))).get? kS = some (seqObj "list" (kA.push u) c2) := ⟨_, get?_update_seq nk (·.push u)⟩
    refine wpAny_bind (listUpdate_at nk rfl ?_ hz2 (by rw [Array.size_push]; omega))
    exact wpAny_pure ⟨rfl, go _ c2 (Heap.SameBut.update s2.heap kS (Obj.mapSeq (·.push u))) hc2⟩
  · rw [Nat.zero_add] at hJ
    obtain ⟨kA, e, nk, tx, na⟩ := B.is _ _ hJ
    refine wpAny_bind (listItems_at nk rfl ?_)
    obtain ⟨G, g1, g2⟩ := L2.restrict s'.heap fun b => decide (b ≠ kS)
    have gs : ∀ b o, G.get? b = some o → s'.heap.get? b = some o := fun b o q => by
      by_cases hb : b = kS
      · rw [hb, g2 kS (decide_eq_false fun z => z rfl)] at q
        cases q
      · rw [← g1 b (decide_eq_true hb)]
        exact q
    have et : ks.take vs.length = ks := List.take_of_length_le (by omega)
    rw [et] at tx
    have er := texts_read (h := s'.heap) tx
    have hsz : kA.size = vs.length := by
      have z := tx.length
      rw [Array.length_toList] at z
      omega
    refine keyH_end (h₁ := G) (κ := dataKind s'.heap (ks.map PyData.str)) (fun b o _ q => gs b o q) (g2 kS (decide_eq_false fun z => z rfl)) nk na hka (SortsAt.data er (alike_texts ks) (sortable_texts ks) fun d hd => ?_) hsz hZ fun h' tk c kp hA => ?_
    · obtain ⟨x, _, rfl⟩ := List.mem_map.mp hd
      simp only [PyData.depth]
      omega
    · exact h s' h' tk _ c hJ (fun b o n1 n2 q => kp b o n1 (by rw [g1 b (decide_eq_true n2)]; exact q)) hA ⟨s'.heap, kA.toList, alike_texts ks, rfl, er⟩
theorem sorted_by {β : Type} {R : Value → β → Prop} {l : Addr} {f : Value} {kw : List (Str × Value)} {Q : Value → Shared → Prop} {bs : List β} (key : β → Str) (hl : s.heap.IsList l vs.toArray) (er : EachIs R vs bs) (hZ : bs.length ≤ sizeLine) (hu : A.units + 2 < cLine) (ha1 : argsOk "sorted" ⟨[.ref l], kw⟩)
    (ha2 : ∀ x, argsOk "list.sort" ⟨[.ref x], kw⟩) (ht : ∀ x, Builtin.«list.sort» ⟨[.ref x], kw⟩ = ksk_tree x f b)
    (go : ∀ (a kS : Addr) (e1 : Nat) (h0 : Heap), (∀ b o, s.heap.get? b = some o → h0.get? b = some o) → s.heap.objs.size ≤ a → s.heap.objs.size ≤ kS → kS ≠ a → h0.get? kS = some (seqObj "list" #[] 0) → h0.get? a = some (seqObj "list" #[] e1) →
      ∃ J : Nat → Shared → Prop, ByJ prog w A.in1.in1 a kS e1 f vs (bs.map key) J ∧ J 0 { s with heap := h0 } ∧
        ∀ s' h' tk out c, J vs.length s' → (∀ b o, b ≠ a → b ≠ kS → s'.heap.get? b = some o → h'.get? b = some o) → h'.get? a = some (seqObj "list" (List.toArray out) c) → out.length = bs.length → EachIs R out (bs.mergeSort (dataLe b fun x => .str (key x))) → Q (.ref a) { s' with heap := h', toks := tk }) :
    wpAny (model prog w) A (call (.builtin "sorted") [.ref l] kw) Q E s := by
  refine sorted_of_sort hl (by rw [er.length]; exact hZ) ha1 ha2 fun E' => ?_
  rw [ht]
  have at0 := copyHeap_at s.heap vs
  generalize ha : s.heap.objs.size + 1 = a at at0 ⊢
  have old : ∀ b o, s.heap.get? b = some o → (copyHeap s.heap vs).get? b = some o := fun b o q => copyHeap_old q
  have hsa : a < (copyHeap s.heap vs).objs.size := Heap.lt_size at0
  generalize copyHeap s.heap vs = h1 at at0 old hsa ⊢
  obtain ⟨e1, ho1⟩ : ∃ e1, (h1.update a (Obj.mapSeq fun _ => (#[] : Array Value))).get? a = some (seqObj "list" #[] e1) := ⟨_, get?_update_seq at0 fun _ => #[]⟩
  have hkS : ((h1.update a (Obj.mapSeq fun _ => (#[] : Array Value))).push (seqObj "tuple" vs.toArray 0)).objs.size = h1.objs.size + 1 := by
    rw [size_push', Heap.size_update]
  unfold ksk_tree
  refine wpAny_bind (listItems_at at0 rfl ?_)
  refine wpAny_bind (listUpdate_at at0 rfl ?_ (by rw [List.size_toArray, er.length]; exact hZ) (Nat.zero_le _))
  refine wpAny_bind (seqEpoch_at ho1 rfl ?_)
  refine wpAny_bind (wpAny_newTuple ?_ (by show vs.length ≤ _; rw [er.length]; exact hZ))
  refine wpAny_bind (wpAny_newList ?_ (Nat.zero_le _))
  refine wpAny_holding ?_
  rw [hkS]
  have nka : h1.objs.size + 1 ≠ a := by omega
  have za : s.heap.objs.size ≤ a := by omega
  have zk : s.heap.objs.size ≤ h1.objs.size + 1 := by omega
  have nba : ∀ b o, s.heap.get? b = some o → b ≠ a := fun b o q => Nat.ne_of_lt (Nat.lt_of_lt_of_le (Heap.lt_size q) za)
  obtain ⟨J, B, j0, fin⟩ := go a (h1.objs.size + 1) e1 (((h1.update a (Obj.mapSeq fun _ => (#[] : Array Value))).push (seqObj "tuple" vs.toArray 0)).push (seqObj "list" #[] 0))
    (fun b o q => Heap.get?_push_of_some _ (Heap.get?_push_of_some _ (((Heap.SameBut.update h1 a (Obj.mapSeq fun _ => (#[] : Array Value))).2 b (nba b o q)).trans (old b o q)))) za zk nka
    (by rw [← hkS]; exact Heap.get?_push_size _ rfl) (Heap.get?_push_of_some _ (Heap.get?_push_of_some _ ho1))
  refine rest_by B nka (by rw [List.length_map]; exact er.length.symm) (by rw [er.length]; exact hZ) (by show A.units + 1 + 1 < cLine; omega) j0 fun s' h' tk out c hJ kp hA ko => ⟨rfl, ?_⟩
  have em : (bs.map key).map PyData.str = bs.map fun x => PyData.str (key x) := by
    rw [List.map_map]
    rfl
  rw [em] at ko
  exact fin s' h' tk out c hJ kp hA ((ko.length (by rw [List.length_map]; exact er.length.symm)).trans er.length) (keyedOut_each (fun x => PyData.str (key x)) ko er)
end
end SK
/-! ### sorted(e, key=lambda x: body), e a list of texts, x's key a text -/
namespace SK
open PySem PySem.Spec PyProof.Rows L2 LamX NdefX
abbrev St := L2.St
abbrev CX0 := C8.CX0
abbrev E0 := C8.E0
section
variable {CX : CXT} {P : Program} {w : World} {K : PySem.W.Frag} {mg : Str → Option Value} {base : Heap} {N ps fr : List Str} {F : NF} {f : Addr} {A : Around} {outer : List Env} {s : Shared} {H : Hp} {E : XK} {us : List Value} {vs : List V} {ws : List (Option V)} {k : Nat} {body : Expr} {tb : TE} {Q : VK} {pm ctv : Value}
/-- a lambda with parameters is called -/
theorem lam_run (S : NScope N ps fr F.scope) (hbind : bindArgs (PySem.W.kla_fn F.name F.qual F.params body F.scope F.cl pm (.ref F.c) ctv) ⟨us, []⟩ = pure (ps.zip us)) (ho : s.heap.get? f = some (PySem.W.kla_obj F.name F.qual F.params body F.scope F.cl pm F.c ctv))
    (hco : H F.c = some (CodeO F.c F.qual)) (hr : Room (k + 1) A) (e0 : Env0 P w K mg base A outer s H) (C : CellsAt F.cl fr ws s.heap H) (r : Vals vs us) (hl : vs.length = ps.length) (hbody : PE (ncx CX P w K mg base N F f A outer s H E) body tb)
    (hq : tb (startF N vs ws) H Q) : codeAny (model P w) A (.call (.ref f) ⟨us, []⟩) (CR CX outer P w H s Q E) s := by
  have lim : s.heap.NoLimit := e0.mod.nolimit.keeps fun b o e => (e0.bs b o e).1
  refine PySem.W.kla_callFunE hr.depth ho rfl S.co S.gen rfl (codeO_at e0.hok hco) ?_
  rw [hbind]
  refine wpAny_pure (wpAny_newFunctionEnv S.nocell (fun ⟨n, _⟩ hy => S.par n (List.of_mem_zip hy).1) (fun h₁ hns hsb => ⟨lim.fresh _ hsb, ?_⟩) S.kind)
  show codeAny _ _ (.expr body (envF F f s.heap.objs.size)) _ _
  have kp : ∀ b o, s.heap.get? b = some o → h₁.get? b = some o := fun b o e => hsb.extBut b o (Nat.ne_of_lt (Heap.lt_size e)) (Heap.get?_push_of_some _ e)
  have J := inv_startN (CX := CX) (f := f) (E := E) (tk := s.toks + (ps.zip us).length) S hr.hd e0 hl r C hns kp
  refine PySem.W.kla_codeExpr (wpAny_mono (hbody.run [] _ _ H Q J hq) (fun v s' hs => ?_) fun e s' hs => hs)
  obtain ⟨x, H', J', rv, q⟩ := hs
  exact ⟨x, H', J'.os, J'.bare, J'.base, J'.hok, rv, q⟩
end
/-- what the sort knows of its two lists -/
def aO (a : Addr) (e1 : Nat) : HO := .ext fun h => h.get? a = some (seqObj "list" #[] e1)
def kO (kS : Addr) (ks : List Str) : HO := .ext fun h => ∃ kA e, h.get? kS = some (seqObj "list" kA e) ∧ Texts kA.toList ks
theorem aO_ok {P : Program} {w : World} {H : Hp} {h : Heap} {a : Addr} {e1 : Nat} (q : h.get? a = some (seqObj "list" #[] e1)) : ObjOk P w H h a (aO a e1) := ⟨q, ⟨_, q⟩, fun h1 h2 z st => st _ z⟩
theorem kO_ok {P : Program} {w : World} {H : Hp} {h : Heap} {a : Addr} {ks : List Str} {kA : Array Value} {e : Nat} (q : h.get? a = some (seqObj "list" kA e)) (t : Texts kA.toList ks) : ObjOk P w H h a (kO a ks) :=
  ⟨⟨kA, e, q, t⟩, ⟨_, q⟩, fun h1 h2 ⟨k1, e1, z, t1⟩ st => ⟨k1, e1, st _ z, t1⟩⟩
theorem aO_at {P : Program} {w : World} {H : Hp} {h : Heap} {a : Addr} {e1 : Nat} (x : HOk P w H h) (e : H a = some (aO a e1)) : h.get? a = some (seqObj "list" #[] e1) := (x a _ e).1
theorem kO_at {P : Program} {w : World} {H : Hp} {h : Heap} {a : Addr} {ks : List Str} (x : HOk P w H h) (e : H a = some (kO a ks)) : ∃ kA e, h.get? a = some (seqObj "list" kA e) ∧ Texts kA.toList ks := (x a _ e).1
theorem vals_texts : ∀ {ws : List Str} {us : List Value}, Vals (ws.map V.str) us → Texts us ws
  | [], [], _ => .nil
  | [], _ :: _, h => by cases h
  | _ :: _, [], h => by cases h
  | w :: ws, u :: us, h => by
    cases h with
    | cons h1 h2 => exact .cons h1 (vals_texts h2)
theorem texts_vals : ∀ {us : List Value} {ws : List Str}, Texts us ws → Vals (ws.map V.str) us
  | _, _, .nil => .nil
  | _, _, .cons h1 h2 => .cons h1 (texts_vals h2)
theorem each_get {α β : Type} {R : α → β → Prop} : ∀ {us : List α} {ws : List β}, PySem.W.EachIs R us ws → ∀ {i : Nat} {u : α} {x : β}, us[i]? = some u → ws[i]? = some x → R u x
  | _, _, .nil, i, u, x, h, _ => by simp at h
  | _, _, .cons r t, 0, u, x, h1, h2 => by
    simp at h1 h2
    subst h1 h2
    exact r
  | _, _, .cons r t, i + 1, u, x, h1, h2 => each_get t (by simpa using h1) (by simpa using h2)
theorem texts_snoc {us : List Value} {ks : List Str} {u : Value} {k : Str} : Texts us ks → IsText u k → Texts (us ++ [u]) (ks ++ [k])
  | .nil, h => .cons h .nil
  | .cons a t, h => .cons a (texts_snoc t h)
/-- the reading, behind the list: its words, the key of each by the lambda's body, then the new list in their order -/
def sTail (K : PySem.W.Frag) (T : List (Addr × Str)) (H0 : Hp) (N : List Str) (js : List Nat) (tb : TE) (σ : St) (Q : VK) (x : V) (H1 : Hp) : Prop := ∃ (l : Addr) (ws : List Str) (key : Str → Str), x = .ref l ∧ SqL K H1 l (ws.map V.str) ∧ Tabs T H1 ∧ ExtN H0 H1 ∧
  ∀ H2, ExtN H1 H2 → Tabs T H2 → (∀ y ∈ ws, ∀ H3, Same H2 H3 → tb (startF N [.str y] (js.map (slotAt σ))) H3 fun v H4 => v = .str (key y) ∧ Same H3 H4) ∧
    ∀ H5 p, H2 p = none → Same H2 H5 → H5 p = some (.lst ((ws.mergeSort (PySem.W.dataLe false fun x => .str (key x))).map V.str)) → Q (.ref p) H5
def tSort (K : PySem.W.Frag) (T : List (Addr × Str)) (H0 : Hp) (N : List Str) (js : List Nat) (te tb : TE) : TE := fun σ H Q => te σ H (sTail K T H0 N js tb σ Q)
theorem extN_seq {K : PySem.W.Frag} {H H' : Hp} {l : Addr} {xs : List V} (e : ExtN H H') (h : SqL K H l xs) : SqL K H' l xs := by
  rcases h with (h | ⟨o, h⟩) | h
  · exact .inl (.inl (e _ _ h fun ps z => nomatch z))
  · exact .inl (.inr ⟨o, e _ _ h fun ps z => nomatch z⟩)
  · exact .inr h
section
variable {X : Cx}
theorem pe_sortkey {T : List (Addr × Str)} {c P : Addr} {k : Nat} {e body : Expr} {params : Arguments} {scope : Scope} {te tb : TE} {p lpos kpos pos : Pos} {N fr : List Str} {a1 : Str} {js : List Nat} (hg : Gl X "sorted") (hm : X.mg "sorted" = none) (ha : PE X e te) (TB : TabB X.base X.mg c P) (hcode : X.env.code = .ref c)
    (hmT : (P, X.env.qual ++ "<lambda>") ∈ T) (hu : ∀ p ∈ T, p.1 = P → p.2 = X.env.qual ++ "<lambda>") (hr : Room (k + 3) X.A) (hex : X.ex = []) (S : NScope N [a1] fr scope)
    (hnd : ndefB X.env.scope scope fr = true) (hjs : js.map (fun j => X.N[j]?) = fr.map some) (hdef : defaultsOf params X.env = ([], []))
    (hbind : ∀ (q : Str) (cl : List (Str × Addr)) (pm cv ctv v : Value), bindArgs (PySem.W.kla_fn "<lambda>" q params body scope cl pm cv ctv) ⟨[v], []⟩ = pure [(a1, v)])
    (hbody : ∀ (A : Around) (outer : List Env) (s : Shared) (H : Hp) (f c' : Addr) (cl : List (Str × Addr)), Room k (A.deeper (envF ⟨"<lambda>", X.env.qual ++ "<lambda>", params, [], scope, cl, c'⟩ f s.heap.objs.size)) →
      PE (ncx CX0 X.prog X.w X.K X.mg X.base N ⟨"<lambda>", X.env.qual ++ "<lambda>", params, [], scope, cl, c'⟩ f A outer s H E0) body tb)
    (hs1 : starEach [e] X.env = [(false, eval e X.env)] := by rfl) :
    PE X (.Call (.Name "sorted" p) [e] [⟨some "key", .Lambda params body scope lpos, kpos⟩] pos) (tSort X.K T X.H_0 N js te tb) := by
  have hfree := ndef_free hnd
  have hfr := ndef_fr hnd
  refine ⟨fun pins s σ H Q I h => ?_⟩
  refine wpAny_Call_Name_kw (ld_blt I hg hm PyProof.Rows.boot_sorted ?_)
  refine PyProof.Rows.callWith_kw ?_ (by rw [hs1]; rfl) (by rw [hs1]; rfl) (by rfl) (by rfl)
  refine thn ((pa_cons ha pa_nil hs1).run pos pins s σ H (fun vs H1 => match vs with
    | [x] => sTail X.K T X.H_0 N js tb σ Q x H1
    | _ => False) I h) fun us s1 ⟨vs, H1, I1, r1, q1⟩ => ?_
  match vs, r1, q1 with
  | [x], r1, q1 =>
  obtain ⟨l, ws, key, rfl, hS, hT, h01, q⟩ := q1
  obtain ⟨u, rfl, ru⟩ := vals1 r1
  obtain rfl : u = Value.ref l := ru
  have hcl : ∀ y ∈ scope.names, y.2 = .free → ∃ c, X.env.cells.lookup y.1 = some c := fun y hy e => (hfree y hy e).elim (fun z => I1.ok.has _ (.inl z)) fun z => I1.ok.has _ (.inr z)
  show wpAny _ _ (evalAll ((do let v ← eval (.Lambda params body scope lpos) X.env; standAt pos; pure v) :: (backToKw pos (keywordEach [] X.env)).map (·.2))) _ _ s1
  refine wpAny_evalAll_cons (wpAny_bind (lam_make2 I1 TB hcode hmT hu hT hdef hcl fun f c' pm ctv H2 s2 I2 eN T2 ho hfn hfs hco => wpAny_bind (wpAny_standAt (wpAny_pure ?_))))
  refine wpAny_evalAll_nil ?_
  show wpAny _ _ (call (.builtin "sorted") [.ref l] [(Str.ofString "key", .ref f)]) _ _ s2
  obtain ⟨qa, qend⟩ := q H2 eN T2
  obtain ⟨its, rv, hl, hz⟩ := I2.list (extN_seq eN hS)
  rw [List.length_map] at hz
  have hu2 : X.A.units + 2 < cLine := by
    have z := hr.un
    omega
  have tx := vals_texts rv
  refine sorted_by (b := false) key hl.isList tx hz hu2 (PyProof.Rows.ksk_s1 _ _) (fun x => PyProof.Rows.ksk_l1 _ _) (fun x => PyProof.Rows.ksk_t1 _ _) fun a kS e1 h0 k0 za zk nka hk ha0 => ?_
  have na : H2 a = none := I2.hok.fresh za
  have nk : H2 kS = none := I2.hok.fresh zk
  have fr0 : ∀ b, H2 b = none → Fr0 X.H_0 b := fun b n o e => by
    by_cases ht : ∃ ps, o = .tbl ps
    · exact ht
    · have z := eN b o (h01 b o e fun ps w => ht ⟨ps, w⟩) fun ps w => ht ⟨ps, w⟩
      rw [n] at z
      cases z
  refine ⟨fun i s' => ∃ H', Inv X pins σ H' s' ∧ Same H2 H' ∧ H' a = some (aO a e1) ∧ H' kS = some (kO kS ((ws.map key).take i)) ∧ s'.heap.get? f = some (PySem.W.kla_obj "<lambda>" (X.env.qual ++ "<lambda>") params body scope (cloFrom X.env.cells scope.names []) pm c' ctv) ∧ H' f = none,
    ⟨fun i s' ⟨H', I', sm, oa, ok, of, nf⟩ => ?_, fun i v k0 hv hk0 s' ⟨H', I', sm, oa, ok, of, nf⟩ => ?_⟩, ?_, fun s' h' tk out c0 ⟨H', I', sm, oa, ok, of, nf⟩ kp hA hlen er => ?_⟩
  · obtain ⟨kA, e, z1, z2⟩ := kO_at I'.hok ok
    exact ⟨kA, e, z1, z2, aO_at I'.hok oa⟩
  · obtain ⟨y, hy, rfl⟩ : ∃ y, ws[i]? = some y ∧ key y = k0 := by
      rw [List.getElem?_map] at hk0
      cases e : ws[i]? with
      | none =>
        rw [e] at hk0
        cases hk0
      | some y =>
        rw [e] at hk0
        exact ⟨y, rfl, Option.some.inj hk0⟩
    obtain ⟨t, rfl⟩ := each_get tx hv hy
    have C := cells_of I' (Caps.made I'.ok hfree hfr hjs)
    have hr2 : Room (k + 1) X.A.in1.in1 := hr.in1.in1
    have rc := lam_run (CX := CX0) (E := E0) (F := ⟨"<lambda>", X.env.qual ++ "<lambda>", params, [], scope, cloFrom X.env.cells scope.names [], c'⟩) (f := f) (us := [.str y t]) (vs := [.str y]) (Q := fun v H4 => v = .str (key y) ∧ Same H' H4) S (hbind _ _ _ _ _ _) of (sm _ _ hco) hr2 I'.env0.in1.in1 C
      (.cons ⟨t, rfl⟩ .nil) rfl (hbody _ _ _ _ _ _ _ (hr2.deeper _)) (qa y (List.mem_of_getElem? hy) H' sm)
    refine wpAny_call (codeAny_mono rc fun r s3 hq => ?_)
    cases r with
    | error e => exact (show False from hq).elim
    | ok fl =>
      cases fl with
      | next => exact (show False from hq).elim
      | brk => exact (show False from hq).elim
      | cont => exact (show False from hq).elim
      | ret u =>
        obtain ⟨v2, H4, os, bare, un, hok, rv2, rfl, sm4⟩ := (show CE X.stack X.prog X.w H' s' _ u s3 from hq)
        obtain ⟨hh, g, d, t4, os'⟩ := s3
        obtain rfl : os' = s'.os := os
        have I4 : Inv X pins σ H4 ⟨hh, g, d, t4, s'.os⟩ := I'.call (h' := hh) (g' := g) (d' := d) (t' := t4) (ch := []) un hok bare (fun b z => absurd z (by simp))
        obtain ⟨kA, e, nk4, tx4⟩ := kO_at I4.hok (sm4 _ _ ok)
        have nfk : f ≠ kS := fun z => by
          rw [z, ok] at nf
          cases nf
        have of4 := un.keep f _ of nf hfs (by simp)
        have nf4 := un.free f _ of nf (by simp)
        refine ⟨rv2, kA, e, nk4, tx4, fun h3 e3 hsb hk3 => ?_⟩
        have tx5 : Texts (kA.push u).toList ((ws.map key).take (i + 1)) := by
          have e5 : (ws.map key).take (i + 1) = (ws.map key).take i ++ [key y] := by
            rw [List.take_add_one, List.getElem?_map, hy]
            rfl
          rw [e5, Array.toList_push]
          exact texts_snoc tx4 rv2
        refine ⟨upd H4 kS (kO kS ((ws.map key).take (i + 1))), I4.write (x := kS) (e := kS) (by rw [sm4 _ _ ok]; trivial) (.inl rfl) (fun b o hb z => (hsb.2 b hb).trans z) ⟨_, hk3⟩ (kO_ok hk3 tx5), fun b o z => ?_, ?_, upd_same, ?_, ?_⟩
        · rw [upd_ne (ne_of_none z nk)]
          exact sm4 _ _ (sm _ _ z)
        · rw [upd_ne nka.symm]
          exact sm4 _ _ oa
        · exact (hsb.2 f nfk).trans of4
        · rw [upd_ne nfk]
          exact nf4
  · obtain ⟨G, g1, g2⟩ := restrict h0 fun b => decide (b ≠ kS)
    have lt : ∀ b o, s2.heap.get? b = some o → b ≠ kS ∧ b ≠ a := fun b o z => ⟨Nat.ne_of_lt (Nat.lt_of_lt_of_le (Heap.lt_size z) zk), Nat.ne_of_lt (Nat.lt_of_lt_of_le (Heap.lt_size z) za)⟩
    have gG : ∀ b o, b ≠ kS → h0.get? b = some o → G.get? b = some o := fun b o n z => by
      rw [g1 b (decide_eq_true n)]
      exact z
    have Gh : ∀ b o, G.get? b = some o → h0.get? b = some o := fun b o z => by
      by_cases hb : b = kS
      · rw [hb, g2 kS (decide_eq_false fun z => z rfl)] at z
        cases z
      · rw [← g1 b (decide_eq_true hb)]
        exact z
    have Ia := I2.laidN (h' := G) (t' := s2.toks) (a := a) (o := aO a e1) (fun b o z => gG b o (lt b o z).1 (k0 b o z)) (Heap.get?_none_of_le za) na (aO_ok (gG a _ nka.symm ha0))
    have nk2 : upd H2 a (aO a e1) kS = none := by
      rw [upd_ne nka]
      exact nk
    have Ik := Ia.laidN (h' := h0) (t' := s2.toks) (a := kS) (o := kO kS []) Gh (g2 kS (decide_eq_false fun z => z rfl)) nk2 (kO_ok hk .nil)
    refine ⟨_, Ik, fun b o z => ?_, ?_, ?_, k0 _ _ ho, ?_⟩
    · rw [upd_ne (ne_of_none z nk), upd_ne (ne_of_none z na)]
      exact z
    · rw [upd_ne nka.symm, upd_same]
    · rw [upd_same, List.take_zero]
    · rw [upd_ne (lt _ _ ho).1, upd_ne (lt _ _ ho).2]
      exact hfn
  · obtain ⟨G1, a1, a2, I5⟩ := I'.untrack ok (fr0 kS nk) hex
    obtain ⟨G2, b1, b2, I6⟩ := I5.untrack (a := a) (by rw [delH_ne nka.symm]; exact oa) (fr0 a na) hex
    have hlm : ((ws.mergeSort (PySem.W.dataLe false fun x => .str (key x))).map V.str).length ≤ sizeLine := by
      rw [List.length_map, List.length_mergeSort]
      exact hz
    have I7 := I6.laidN (h' := h') (t' := tk) (a := a) (o := .lst ((ws.mergeSort (PySem.W.dataLe false fun x => .str (key x))).map V.str))
      (fun b o z => kp b o (fun w => by rw [w, b2] at z; cases z) (fun w => by have z2 := b1 b o z; rw [w] at z2; have z3 := z2; rw [a2] at z3; cases z3) (a1 _ _ (b1 _ _ z))) b2 delH_same ⟨hlm, out, c0, texts_vals er, hA⟩
    refine ⟨.ref a, _, I7, rfl, qend _ a na (fun b o z => ?_) upd_same⟩
    rw [upd_ne (ne_of_none z na), delH_ne (ne_of_none z na), delH_ne (ne_of_none z nk)]
    exact sm _ _ z
end
end SK
/-! ### enumerate of a text and of a tuple; dict comprehensions over any walk -/
namespace SK
open PySem PySem.Spec PyProof.Rows L2 LamX NdefX
def ItES (x : Str) : It := ⟨fun i _ => i < x.cps.size, fun i H v H' => ∃ T c, v = .ref T ∧ H T = none ∧ H' = upd H T (.tup [.int (i : Nat), .str ⟨#[c]⟩]) ∧ x.cps[i]? = some c, fun i _ => i = x.cps.size⟩
def ItET (a : Addr) (xs : List V) : It := ⟨fun i H => H a = some (.tup xs) ∧ i < xs.length, fun i H v H' => ∃ T x, v = .ref T ∧ H T = none ∧ H' = upd H T (.tup [.int (i : Nat), x]) ∧ xs[i]? = some x, fun i H => H a = some (.tup xs) ∧ i = xs.length⟩
/-- a pair that enumerate hands out -/
theorem enum_turn {X : Cx} {pins : List (Addr × Obj)} {s : Shared} {σ : St} {H : Hp} {E : Value → Shared → Prop} {J : It} {fp : List Addr} {n i : Nat} {Pd : Nat → Value → Prop} {Sd : Nat → Heap → Prop} {e it : Addr} {elts : List Expr} {kk : Nat} {tpos : Pos} {tn : Nat → Heap → Prop} (I : Inv X pins σ H s)
    (D : PySem.Draws X.prog X.w X.A.in1 it fp n Pd Sd) (hf : ∀ b ∈ [e, it], FpOk X pins H b) (he : ∃ old, IsEnum s.heap e it ((i : Nat) : Int) old) (hst : Sd i s.heap) (hlt : i < n) (hne : e ≠ it) (hef : e ∉ fp)
    (hit : ∃ o, s.heap.get? it = some o) (rel : ∀ u, Pd i u → ∃ x, RelV x u ∧ ∀ H' T, H T = none → H' = upd H T (.tup [.int (i : Nat), x]) → J.yld i H (.ref T) H') (nx : ∀ h' h'', Sd (i + 1) h' → (∀ b o, b ≠ e → h'.get? b = some o → h''.get? b = some o) → (∃ old, IsEnum h'' e it (((i + 1 : Nat)) : Int) old) → tn (i + 1) h'') :
    wpAny (model X.prog X.w) X.A (pyNext (.ref e)) (fun r s1 => ∃ u, r = some u ∧
      wpAny (model X.prog X.w) X.A (letOwnedTupleGo (.Tuple elts kk tpos) (.ref e) u) (fun _ s2 => ∃ x H', Inv X pins σ H' s2 ∧ RelV x u ∧ J.yld i H x H' ∧ tn (i + 1) s2.heap ∧ ∀ b ∈ [e, it], H' b = none) E s1) E s := by
  obtain ⟨old, he⟩ := he
  have hel : e < s.heap.objs.size := Heap.lt_size he
  have hil : it < s.heap.objs.size := by
    obtain ⟨o, q⟩ := hit
    exact Heap.lt_size q
  refine wpAny_pyNext_enum_itemD D he hst hlt hne hef fun u h' tk hP ho hst' hT hsz hk => ?_
  obtain ⟨x, ru, hy⟩ := rel u hP
  refine ⟨_, rfl, wpAny_letOwnedTupleGo_enum (s := { s with heap := h', toks := tk + 1 }) ho fun h'' he' sb => ?_⟩
  have hT2 : h''.get? s.heap.objs.size = some { cls := .type "tuple", data := .seq #[.int i tk, u] } := (sb.2 _ (Nat.ne_of_gt hel)).trans hT
  have nw : ObjOk X.prog X.w (upd H s.heap.objs.size (.tup [.int (i : Nat), x])) h'' s.heap.objs.size (.tup [.int (i : Nat), x]) :=
    ⟨by show 2 ≤ sizeLine; decide, [.int i tk, u], .cons ⟨_, rfl⟩ (.cons ru .nil), ⟨_, hT2, rfl, _, rfl⟩⟩
  have I1 : Inv X pins σ (upd H s.heap.objs.size (.tup [.int (i : Nat), x])) { s with heap := h'', toks := tk + 1 } :=
    I.turnedNew (ch := [e, it]) (fun b ob hb q => (sb.2 b (fun z => hb (by simp [z]))).trans (hk b ob (fun z => hb (by simp [z])) (fun z => hb (by simp [z])) q)) hf (Nat.le_refl _) nw
  refine ⟨.ref s.heap.objs.size, _, I1, rfl, hy _ _ (I.hok.fresh (Nat.le_refl _)) rfl, nx h' h'' hst' (fun b o hb q => (sb.2 b hb).trans q) ⟨u, ?_⟩, fun b hb => ?_⟩
  · have e1 : ((i + 1 : Nat) : Int) = (i : Int) + 1 := by omega
    rw [e1]
    exact he'
  · have hb' : b < s.heap.objs.size := by
      have e' : b = e ∨ b = it := by simpa using hb
      rcases e' with z | z
      · rw [z]; exact hel
      · rw [z]; exact hil
    rw [upd_ne (Nat.ne_of_lt hb')]
    exact (hf b hb).1
theorem turn_enumS {P : Program} {w : World} {K : PySem.W.Frag} {elts : List Expr} {kk : Nat} {tpos : Pos} (x : Str) (t : Tok) (e it : Addr) :
    Turn P w K (.Tuple elts kk tpos) (ItES x) [e, it] e (fun i h => (∃ old, IsEnum h e it ((i : Nat) : Int) old) ∧ h.IsStrIter it (strIterType x) x t i ∧ e ≠ it) where
  mem := by simp
  obj := fun i h st b hb => by
    obtain ⟨⟨old, he⟩, ⟨o, ho, hc, hd⟩, _⟩ := st
    have e' : b = e ∨ b = it := by simpa using hb
    rcases e' with z | z
    · rw [z]
      exact ⟨_, he, fun v q => nomatch q⟩
    · rw [z]
      exact ⟨o, ho, fun v q => by rw [hd] at q; cases q⟩
  keep := fun i h h' st k => by
    obtain ⟨⟨old, he⟩, ⟨o, ho, r⟩, hne⟩ := st
    exact ⟨⟨old, k e (by simp) _ he⟩, ⟨o, k it (by simp) o ho, r⟩, hne⟩
  item := by
    intro X hP hw hK hc i pins s σ H E I hf st hg
    subst hP hw hK
    obtain ⟨he, hit, hne⟩ := st
    have hli : ∃ o, s.heap.get? it = some o := by
      obtain ⟨o, q, _⟩ := hit
      exact ⟨o, q⟩
    refine enum_turn (J := ItES x) (tn := fun i h => (∃ old, IsEnum h e it ((i : Nat) : Int) old) ∧ h.IsStrIter it (strIterType x) x t i ∧ e ≠ it) I (PySem.Draws.text (A := X.A.in1) (I.ok.hd hc) it x t) hf he hit hg hne (by simpa using hne) hli (fun u ⟨c, tu, hx, eu⟩ => ⟨.str ⟨#[c]⟩, ⟨tu, eu⟩, fun H' T hT eH => ⟨T, c, rfl, hT, eH, hx⟩⟩) fun h' h'' hs k hE => ?_
    obtain ⟨o, ho, r⟩ := hs
    exact ⟨hE, ⟨o, k it o (Ne.symm hne) ho, r⟩, hne⟩
  done := by
    intro X hP hw hK hc i pins s σ H E I hf st hg
    subst hP hw hK
    obtain ⟨⟨old, he⟩, hit, hne⟩ := st
    obtain ⟨f0, f1, f2, f3, f4, f5⟩ := hf it (by simp)
    have hg : i = x.cps.size := hg
    rw [hg] at hit
    exact wpAny_pyNext_enum_endD (PySem.Draws.text (A := X.A.in1) (I.ok.hd hc) it x t) he hit fun h' eb => ⟨rfl, I.turned (t' := s.toks) (fun b o hb q => eb b o hb q) f0 f1 f3 f4 f5⟩
  self := fun A i s Q E st h => let ⟨⟨_, he⟩, _⟩ := st; wpAny_pyIter_enum he h
theorem turn_enumT {P : Program} {w : World} {K : PySem.W.Frag} {elts : List Expr} {kk : Nat} {tpos : Pos} (a : Addr) (xs : List V) (e it : Addr) :
    Turn P w K (.Tuple elts kk tpos) (ItET a xs) [e, it] e (fun i h => (∃ old, IsEnum h e it ((i : Nat) : Int) old) ∧ h.IsTupleIter it a i ∧ e ≠ it) where
  mem := by simp
  obj := fun i h st b hb => by
    obtain ⟨⟨old, he⟩, ⟨o, ho, hc, hd⟩, _⟩ := st
    have e' : b = e ∨ b = it := by simpa using hb
    rcases e' with z | z
    · rw [z]
      exact ⟨_, he, fun v q => nomatch q⟩
    · rw [z]
      exact ⟨o, ho, fun v q => by rw [hd] at q; cases q⟩
  keep := fun i h h' st k => by
    obtain ⟨⟨old, he⟩, hi, hne⟩ := st
    exact ⟨⟨old, k e (by simp) _ he⟩, hi.at fun o q => k it (by simp) o q, hne⟩
  item := by
    intro X hP hw hK hc i pins s σ H E I hf st hg
    subst hP hw hK
    obtain ⟨he, hit, hne⟩ := st
    obtain ⟨ha, hlt⟩ := hg
    obtain ⟨its, rv, p, hz⟩ := I.tuple (.inl (.inl ha))
    have hl := rv.length
    have nat : ∀ b ∈ [e, it], a ≠ b := fun b hb z => by
      have q := (hf b hb).1
      rw [← z, ha] at q
      cases q
    have hli : ∃ o, s.heap.get? it = some o := by
      obtain ⟨o, q, _⟩ := hit
      exact ⟨o, q⟩
    have hp : s.heap.IsTuple a its.toArray := p
    refine enum_turn (J := ItET a xs) (tn := fun i h => (∃ old, IsEnum h e it ((i : Nat) : Int) old) ∧ h.IsTupleIter it a i ∧ e ≠ it) I (PySem.Draws.tuple (A := X.A.in1) (I.ok.hd hc) it a (nat it (by simp)) its.toArray) hf he ⟨hit, hp⟩ (by simpa [← hl] using hlt) hne (by simp only [List.mem_cons, List.mem_nil_iff, or_false, not_or]; exact ⟨hne, Ne.symm (nat e (by simp))⟩) hli (fun u hu => ?_) fun h' h'' hs k hE => ⟨hE, hs.1.at fun o q => k it o (Ne.symm hne) q, hne⟩
    obtain ⟨x, hx⟩ : ∃ x, xs[i]? = some x := ⟨_, List.getElem?_eq_getElem hlt⟩
    obtain ⟨u2, hu2, ru⟩ := rv.get hx
    have e2 : u2 = u := by
      have z : its.toArray[i]? = some u2 := by simpa using hu2
      exact Option.some.inj (z.symm.trans hu)
    subst e2
    exact ⟨x, ru, fun H' T hT eH => ⟨T, x, rfl, hT, eH, hx⟩⟩
  done := by
    intro X hP hw hK hc i pins s σ H E I hf st hg
    subst hP hw hK
    obtain ⟨⟨old, he⟩, hit, hne⟩ := st
    obtain ⟨ha, hlt⟩ := hg
    obtain ⟨its, rv, p, hz⟩ := I.tuple (.inl (.inl ha))
    have hl := rv.length
    obtain ⟨f0, f1, f2, f3, f4, f5⟩ := hf it (by simp)
    have nat : a ≠ it := fun z => by
      rw [← z, ha] at f0
      cases f0
    have hp : s.heap.IsTuple a its.toArray := p
    have ei : i = its.toArray.size := by
      rw [List.size_toArray, ← hl]
      exact hlt
    rw [ei] at hit
    exact wpAny_pyNext_enum_endD (PySem.Draws.tuple (A := X.A.in1) (I.ok.hd hc) it a nat its.toArray) he ⟨hit, hp⟩ fun h' eb => ⟨rfl, I.turned (t' := s.toks) (fun b o hb q => eb b o hb q) f0 f1 f3 f4 f5⟩
  self := fun A i s Q E st h => let ⟨⟨_, he⟩, _⟩ := st; wpAny_pyIter_enum he h
section
variable {X : Cx}
def iEnumS (ta : TA) : TI := fun σ H R => ta σ H fun vs H1 => ∃ x, vs = [.str x] ∧ R (ItES x) H1
theorem pi_enumS {e : Expr} {ta : TA} {p pos tpos : Pos} {elts : List Expr} {kk : Nat} (hg : Gl X "enumerate") (hm : X.mg "enumerate" = none) (ha : PA X [e] ta) (hs : starEach [e] X.env = [(false, eval e X.env)] := by rfl) :
    PI X (.Tuple elts kk tpos) (.Call (.Name "enumerate" p) [e] [] pos) (iEnumS ta) := by
  refine ⟨fun pins s σ H R I h => ?_⟩
  refine Call_ (ld_blt I hg hm boot_enumerate (PyProof.Rows.callWith_type1 (thn (ha.run pos pins s σ H _ I h) fun us s1 ⟨vs, H1, I1, r1, q1⟩ => ?_) hs rfl))
  obtain ⟨x, rfl, q⟩ := q1
  obtain ⟨u, rfl, t, rfl⟩ := vals1 r1
  refine call_enumerate_str fun h' he hit hsz hk => wpAny_pyIter_enum he ?_
  have I2 : Inv X pins σ H1 { s1 with heap := h' } := I1.kept (t' := s1.toks) hk
  refine ⟨s1.heap.objs.size + 1, [s1.heap.objs.size + 1, s1.heap.objs.size], _, _, H1, rfl, I2, turn_enumS x t (s1.heap.objs.size + 1) s1.heap.objs.size, ⟨⟨.none, he⟩, hit, Nat.succ_ne_self _⟩, fun b hb => ?_, q⟩
  have e' : b = s1.heap.objs.size + 1 ∨ b = s1.heap.objs.size := by simpa using hb
  have hle : s1.heap.objs.size ≤ b := by
    rcases e' with z | z
    · rw [z]; exact Nat.le_add_right _ _
    · rw [z]; exact Nat.le_refl _
  exact I1.fpOk hle (I1.hok.fresh hle)
def iEnumT (ta : TA) : TI := fun σ H R => ta σ H fun vs H1 => ∃ a xs, vs = [.ref a] ∧ H1 a = some (.tup xs) ∧ R (ItET a xs) H1
theorem walk_enumS {x : Str} : Walk (ItES x) x.cps.size (fun _ => True) (YPair (fun i => some (.int (i : Nat))) (fun i => x.cps[i]?.map fun c => .str ⟨#[c]⟩)) := by
  refine ⟨fun _ _ hi _ => hi, fun _ _ => rfl, fun i H v H' _ _ y => ?_⟩
  obtain ⟨T, c, h1, h2, h3, h4⟩ := y
  exact ⟨T, _, _, h1, h2, h3, rfl, by show x.cps[i]?.map _ = _; rw [h4]; rfl⟩
theorem walk_enumT {a : Addr} {xs : List V} : Walk (ItET a xs) xs.length (fun H => H a = some (.tup xs)) (YPair (fun i => some (.int (i : Nat))) (fun i => xs[i]?)) := by
  refine ⟨fun _ _ hi q => ⟨q, hi⟩, fun _ q => ⟨q, rfl⟩, fun i H v H' _ _ y => ?_⟩
  obtain ⟨T, x, h1, h2, h3, h4⟩ := y
  exact ⟨T, _, _, h1, h2, h3, rfl, h4⟩
end
/-- a dict comprehension over a walk -/
theorem dc_it {J : It} {n : Nat} {G : Hp → Prop} {Y : Nat → Hp → V → Hp → Prop} (w : Walk J n G Y) {g : TG} {tt : TT} {tk tv : TE} {vs : List Nat} {σ : St} {H1 : Hp} {D : Addr} {Qd : Hp → Prop} (Pv : Nat → Hp → Prop) (h0 : Pv 0 (upd H1 D (.dK []))) (hG : ∀ i H, i ≤ n → Pv i H → G H)
    (hs : ∀ i x H H', i < n → Pv i H → Y i H x H' → g x (wipe σ vs) H' fun σ2 H2 => wipe σ2 vs = wipe σ vs ∧ tt σ2 H2 fun b H3 =>
      if b = true then tk σ2 H3 fun y H4 => tv σ2 H4 fun z H5 => ∃ kvs k, y = kV k ∧ H5 D = some (.dK kvs) ∧ kvs.length < sizeLine ∧ Pv (i + 1) (upd H5 D (.dK (putK kvs k z))) else Pv (i + 1) H3) (hd : ∀ H, Pv n H → Qd H) :
    ∃ W : Nat → Nat → Hp → Prop, (∃ m, W 0 m (upd H1 D (.dK []))) ∧ ∀ i m H, W i m H →
      (J.stop i H ∧ Qd H) ∨ (J.go i H ∧ ∃ Nx : Hp → Prop, (∀ H', Nx H' → ∃ m', m' < m ∧ W (i + 1) m' H') ∧ ∀ x H', J.yld i H x H' → g x (wipe σ vs) H' fun σ2 H2 => wipe σ2 vs = wipe σ vs ∧ tt σ2 H2 fun b H3 =>
        if b = true then tk σ2 H3 fun y H4 => tv σ2 H4 fun z H5 => ∃ kvs k, y = kV k ∧ H5 D = some (.dK kvs) ∧ kvs.length < sizeLine ∧ Nx (upd H5 D (.dK (putK kvs k z))) else Nx H3) := by
  refine ⟨fun i m H => m + i = n ∧ Pv i H, ⟨n, rfl, h0⟩, fun i m H ⟨em, p⟩ => ?_⟩
  have q := hG i H (by omega) p
  rcases Nat.lt_or_ge i n with hlt | hge
  · exact .inr ⟨w.goes i H hlt q, Pv (i + 1), fun H' p' => ⟨n - (i + 1), by omega, by omega, p'⟩, fun x H' y => hs i x H H' hlt p (w.yields i H x H' hlt q y)⟩
  · obtain rfl : i = n := by omega
    exact .inl ⟨w.stops H q, hd H p⟩
end SK
namespace SK
open PySem PySem.Spec PyProof.Rows L2 LamX NdefX
/-- enumerate(v) with no start -/
theorem enum_new1 {v : Value} {o : Obj} {C : Heap → Prop} (B : Begins v o C) :
    Meets (Builtin.«enumerate.__new__» ⟨[.type "enumerate", v], []⟩) (fun _ R s => C s.heap ∧
      R (.ok (.ret (.ref (s.heap.push o).objs.size))) { s with heap := (s.heap.push o).push { cls := .type "enumerate", data := .fields #[.none, .bool false, .ref s.heap.objs.size, rawInt 0, .none, .none] } }) :=
  .of_wp fun prog w A R s h => by
    obtain ⟨hp, g, d, tk, os⟩ := s
    obtain ⟨h1, h⟩ := h
    have sub0 := sub_enumerate
    have it0 : ∀ {A' : Around} {E : Value → Shared → Prop} {Q : Value → Shared → Prop}, Q (.ref hp.objs.size) ⟨hp.push o, g, d, tk, os⟩ → wpAny (model prog w) A' (pyIter v) Q E ⟨hp, g, d, tk, os⟩ :=
      fun q => B.iter prog w _ _ ⟨hp, g, d, tk, os⟩ _ h1 q
    wp_walk using it0
    refine wpAny_stack_any fun st => wpAny_pure ?_
    split
    · rename_i c _ _ _ _ _
      cases (c == Value.type "enumerate")
      all_goals
        wp_walk using it0
        exact ⟨_, rfl, h⟩
    · wp_walk using it0
      exact ⟨_, rfl, h⟩
end SK
namespace SK
open PySem PySem.Spec PyProof.Rows L2 LamX NdefX
section
variable {prog : Program} {w : World} {A : Around} {E : Value → Shared → Prop} {s : Shared}
theorem enum_tuple {a : Addr} {items : Array Value} {Q : Value → Shared → Prop} (ht : s.heap.IsTuple a items)
    (h : ∀ h', IsEnum h' (s.heap.objs.size + 1) s.heap.objs.size 0 .none → h'.IsTupleIter s.heap.objs.size a 0 → (∀ b o, s.heap.get? b = some o → h'.get? b = some o) → Q (.ref (s.heap.objs.size + 1)) { s with heap := h' }) :
    wpAny (model prog w) A (call (.type "enumerate") [.ref a]) Q E s := by
  refine callType_new F.called_enumerate (by decide) (F.typeCall_enumerate_1 _) (F.newCall_enumerate_1 _) (fun obj => F.args_object_init_2 obj _) F.entry_enumerate_new (enum_new1 (begins_tuple a items)) ⟨ht, ?_⟩
  generalize ho : ({ cls := .type "tuple_iterator", data := .fields #[.ref a, .int 0 0] } : Obj) = o
  have hfr : o.isFreed = false := by
    rw [← ho]
    rfl
  have hz : (s.heap.push o).objs.size = s.heap.objs.size + 1 := Heap.size_push ..
  show _ ∧ _
  rw [hz]
  have he : IsEnum ((s.heap.push o).push { cls := .type "enumerate", data := .fields #[.none, .bool false, .ref s.heap.objs.size, rawInt 0, .none, .none] }) (s.heap.objs.size + 1) s.heap.objs.size 0 .none := by
    have q := Heap.get?_push_size (s.heap.push o) (o := { cls := .type "enumerate", data := .fields #[.none, .bool false, .ref s.heap.objs.size, rawInt 0, .none, .none] }) rfl
    rw [hz] at q
    exact q
  have hi : (s.heap.push o).get? s.heap.objs.size = some o := Heap.get?_push_size _ hfr
  refine ⟨⟨_, he, rfl⟩, h _ he ⟨o, Heap.get?_push_of_some _ hi, by rw [← ho], by rw [← ho]; rfl⟩ fun b u q => Heap.get?_push_of_some _ (Heap.get?_push_of_some _ q)⟩
end
section
variable {X : Cx}
theorem pi_enumT {e : Expr} {ta : TA} {p pos tpos : Pos} {elts : List Expr} {kk : Nat} (hg : Gl X "enumerate") (hm : X.mg "enumerate" = none) (ha : PA X [e] ta) (hs : starEach [e] X.env = [(false, eval e X.env)] := by rfl) :
    PI X (.Tuple elts kk tpos) (.Call (.Name "enumerate" p) [e] [] pos) (iEnumT ta) := by
  refine ⟨fun pins s σ H R I h => ?_⟩
  refine Call_ (ld_blt I hg hm boot_enumerate (PyProof.Rows.callWith_type1 (thn (ha.run pos pins s σ H _ I h) fun us s1 ⟨vs, H1, I1, r1, q1⟩ => ?_) hs rfl))
  obtain ⟨a, xs, rfl, hq, q⟩ := q1
  obtain ⟨u, rfl, ru⟩ := vals1 r1
  obtain rfl : u = Value.ref a := ru
  obtain ⟨its, rv, pt, hz⟩ := I1.tuple (.inl (.inl hq))
  have pt' : s1.heap.IsTuple a its.toArray := pt
  refine enum_tuple pt' fun h' he hit hk => wpAny_pyIter_enum he ?_
  have I2 : Inv X pins σ H1 { s1 with heap := h' } := I1.kept (t' := s1.toks) hk
  refine ⟨s1.heap.objs.size + 1, [s1.heap.objs.size + 1, s1.heap.objs.size], _, _, H1, rfl, I2, turn_enumT a xs (s1.heap.objs.size + 1) s1.heap.objs.size, ⟨⟨.none, he⟩, hit, Nat.succ_ne_self _⟩, fun b hb => ?_, q⟩
  have hle : s1.heap.objs.size ≤ b := by
    simp only [List.mem_cons, List.mem_nil_iff, or_false] at hb
    rcases hb with z | z
    · rw [z]; exact Nat.le_add_right _ _
    · rw [z]; exact Nat.le_refl _
  exact I1.fpOk hle (I1.hok.fresh hle)
/-- y = {k: v for .. in ..}, y a local name -/
theorem ps_setDc {i : Nat} {y : Str} {py : Pos} {kx vx tg iter : Expr} {ifs : List Expr} {scope : Scope} {own : List (Str × Nat)} {pos spos : Pos} {wi : TI} {g : TG} {tt : TT} {tk tv : TE} (hc : X.calm = true) (hN : X.N.Nodup) (hy : X.N[i]? = some y) (hyl : X.env.scope.names.lookup y = some .local)
    (hsw : swapsWith (.DictComp kx vx [⟨tg, iter, ifs, 0⟩] scope pos) (some (.Name y py)) spos.line X.env = pure true) (hi : PI X tg iter wi) (ok : BlkOk X.N X.env.scope scope own)
    (hg : ∀ (s : Shared) (H : Hp) (C : Addr) (cl : List (Str × Addr)) (fp : List Addr), PG (X.blk s H scope (compEnvC scope cl C X.env) fp) tg g) (ht : ∀ (s : Shared) (H : Hp) (C : Addr) (cl : List (Str × Addr)) (fp : List Addr), PTs (X.blk s H scope (compEnvC scope cl C X.env) fp) ifs tt)
    (hk : ∀ (s : Shared) (H : Hp) (C : Addr) (cl : List (Str × Addr)) (fp : List Addr), PE (X.blk s H scope (compEnvC scope cl C X.env) fp) kx tk)
    (he : ∀ (s : Shared) (H : Hp) (C : Addr) (cl : List (Str × Addr)) (fp : List Addr), PE (X.blk s H scope (compEnvC scope cl C X.env) fp) vx tv) (hs : ∀ x, foldedSetIterable iter X.env x = pure x := by intro _; rfl) :
    PS X (.Assign [.Name y py] (.DictComp kx vx [⟨tg, iter, ifs, 0⟩] scope pos) spos) (tAsg (tDc wi g tt tk tv (own.map (·.2))) (gName i)) := by
  refine ⟨fun pins s σ H D I h => ?_⟩
  rw [exec_Assign_Name_used _ _ _ _ hsw]
  refine wpAny_bind (wpAny_standAt (wpAny_bind ?_))
  show wpAny _ X.A (do let _ ← comprehension (.DictComp kx vx [⟨tg, iter, ifs, 0⟩] scope pos) scope X.env (firstIterPos [⟨tg, iter, ifs, 0⟩] pos) newDict false (eval iter X.env) (some (assign (.Name y py) X.env))) _ _ s
  have hh : tDc wi g tt tk tv (own.map (·.2)) σ H (fun x H1 => gName i x σ H1 D.nx) := h
  refine wpAny_bind (thn (dc_core (Qf := fun _ s' => SP X pins D .next s') hc hN I hi ok hg ht hk he hs hh fun L C s' m H' I' q hn f => ?_) fun _ s' hq => wpAny_pure (wpAny_pure hq))
  show wpAny _ _ (assign (.Name y py) X.env (.ref L)) _ _ _
  refine wpAny_assign_Name (store_ok2 (v := V.ref L) I' hN hy (.inl hyl) rfl (fun s2 I2 ⟨a, sb, ha⟩ => ?_) (.inr hyl))
  obtain ⟨f0, f1, f2, f3, f4, f5⟩ := f
  have haC : C ≠ a := ha.elim (fun z => by rw [z]; exact f1) fun z e => f4 y a z e.symm
  refine ⟨m, hn.sameBut sb haC, fun h3 sb3 => ?_⟩
  exact ⟨_, H', I2.turned (t' := s2.toks) (fun b o hb e => (sb3.2 b hb).trans e) f0 f1 f3 f4 f5, q⟩
theorem swD_true {kx vx : Expr} {gs : List Comprehension} {scope : Scope} {pos py : Pos} {y : Str} {l : Nat} {env : Env} (hk : env.scope.kind = .function) (hy : env.scope.names.lookup y = some .local) (hl : (py.line == pos.line) = true)
    (ha : (scope.names.any fun (n, k) => n == y && (k == .local || k == .cell)) = false) : swapsWith (.DictComp kx vx gs scope pos) (some (.Name y py)) l env = pure true := by
  have ky : env.kindOf y = some .local := hy
  have hb : env.blockKind = .function := by
    unfold Env.blockKind
    rw [hk]
    rfl
  unfold swapsWith
  simp only [hb, ky, ha, Expr.pos, hl]
  rfl
end
end SK
namespace SK
open PySem PySem.Spec PyProof.Rows L2 LamX NdefX
def top (i : Nat) : Stmt := PySem.Challenge.pw_lettertrees_k02_routines_read.main.body.getD i (.Pass ⟨0, 0, 0, 0⟩)
theorem upd_new {p : Addr} {o : HO} {H : Hp} (n : H p = none) : Same H (upd H p o) := fun c u h => by
  rw [upd_ne (ne_of_none h n)]
  exact h
/-- a def of the top whose code object is known -/
structure FunT (K : PySem.W.Frag) (x qual : Str) (st : Stmt) (f : Addr) (fd : FuncData) (c : Addr) : Prop where
  ex : ∃ (oc : Value) (od : Option Addr) (kV doc pm : Value) (an : Option Addr) (ct : Value) (osl : Array (Option Value)),
    fd = PySem.W.fnOf x qual (defArgs st) (defBody st) (defScope st) .none kV doc pm an (.ref c) ct ∧ K.lookup f = some ⟨oc, od, .func fd, osl⟩ ∧ PySem.W.codeIn K (.ref c) qual = true
  kp : PySem.W.keepIn K (.ref f) = true
theorem FunT.ok {P : Program} {w : World} {K : PySem.W.Frag} {mg : Str → Option Value} {base : Heap} {x qual : Str} {st : Stmt} {f c : Addr} {fd : FuncData} {N ps : List Str} {k : Nat} {sp : Sp} (F : FunT K x qual st f fd c) (S : FnScope N ps (defScope st)) (len : ∀ vs H Q E, sp vs H Q E → vs.length = ps.length)
    (hbody : ∀ (A : Around) (outer : List Env) (s : Shared) (H : Hp) (vs : List V) (Q : VK) (E : XK), Room k (A.deeper (envOfC qual (defScope st) s.heap.objs.size f (.ref c))) → sp vs H Q E →
      ∃ t, PSs (cxOf CX0 P w K mg base N qual (defScope st) f (.ref c) A outer s H E).nox (defBody st) t ∧ t { nx := fun _ H' => Q .non H', rt := Q } (start N vs) H) : FnOk P w K mg base CX0 (k + 1) f fd ps sp := by
  obtain ⟨oc, od, kV, doc, pm, an, ct, osl, rfl, lk, hcd⟩ := F.ex
  refine fn_of lk hcd S len fun A outer s H vs Q E hr hsp => ?_
  obtain ⟨t, h, q⟩ := hbody A outer s H vs Q E hr hsp
  exact ⟨t, h.nox, q⟩
end SK
namespace SK
open PySem PySem.Spec PyProof.Rows L2 LamX NdefX
open K0 (De DeAll)
def isS : PyData → Bool
  | .str _ => true
  | _ => false
def isB : PyData → Bool
  | .bool _ => true
  | _ => false
def isTL : PyData → Bool
  | .tuple _ => true
  | .list _ => true
  | _ => false
def okW (ls : Str) : PyData → Bool
  | .str x => decide (x.cps.size ≤ 200) && x.cps.toList.all fun c => decide (c ∈ ls.cps.toList)
  | _ => false
def okR3 (ls : Str) : List PyData → Bool
  | [a, b, c] => okW ls a && (isB b && isB c)
  | _ => false
def okR (ls : Str) : PyData → Bool
  | .tuple ds => okR3 ls ds
  | .list ds => okR3 ls ds
  | _ => false
theorem ty_of {K : PySem.W.Frag} {H : Hp} {v : V} {d : PyData} (h : De K H v d) : ∃ T : String, TyX K H v (.type T) ∧ kitB T "str" = some (isS d) ∧ kitB T "bool" = some (isB d) ∧ ∃ t1 t2, kitB T "tuple" = some t1 ∧ kitB T "list" = some t2 ∧ (t1 || t2) = isTL d := by
  cases h with
  | non => exact ⟨"NoneType", .base .non, (by show kitB "NoneType" "str" = some false; decide +kernel), (by show kitB "NoneType" "bool" = some false; decide +kernel), false, false, by decide +kernel, by decide +kernel, rfl⟩
  | bl b => exact ⟨"bool", .base (.bl b), (by show kitB "bool" "str" = some false; decide +kernel), (by show kitB "bool" "bool" = some true; decide +kernel), false, false, by decide +kernel, by decide +kernel, rfl⟩
  | int i => exact ⟨"int", .base (.int i), (by show kitB "int" "str" = some false; decide +kernel), (by show kitB "int" "bool" = some false; decide +kernel), false, false, by decide +kernel, by decide +kernel, rfl⟩
  | str x => exact ⟨"str", .base (.str x), (by show kitB "str" "str" = some true; decide +kernel), (by show kitB "str" "bool" = some false; decide +kernel), false, false, by decide +kernel, by decide +kernel, rfl⟩
  | lst ha hd => exact ⟨"list", .base (.lst ha), (by show kitB "list" "str" = some false; decide +kernel), (by show kitB "list" "bool" = some false; decide +kernel), false, true, by decide +kernel, by decide +kernel, rfl⟩
  | tup ha hd => exact ⟨"tuple", .base (.tup ha), (by show kitB "tuple" "str" = some false; decide +kernel), (by show kitB "tuple" "bool" = some false; decide +kernel), true, false, by decide +kernel, by decide +kernel, rfl⟩
  | dic ha => exact ⟨"dict", .base (.dK ha), (by show kitB "dict" "str" = some false; decide +kernel), (by show kitB "dict" "bool" = some false; decide +kernel), false, false, by decide +kernel, by decide +kernel, rfl⟩
theorem kit_two {K : PySem.W.Frag} {T : String} {t1 t2 : Bool} (h1 : kitB T "tuple" = some t1) (h2 : kitB T "list" = some t2) : PySem.W.kitAny K (.type T) [.type "tuple", .type "list"] = some (t1 || t2) := by
  refine kitAny_cons (b := t1) (kit_ty h1) (fun e => ?_) (fun e => by rw [e]; rfl)
  rw [e, Bool.false_or]
  refine kitAny_cons (b := t2) (kit_ty h2) (fun e => ?_) (fun e => e)
  rw [e]
  exact kitAny_nil
end SK
namespace SK
open PySem PySem.Spec PyProof.Rows L2 LamX NdefX
open K0 (De DeAll)
mutual
theorem de_mono {K : PySem.W.Frag} {H H' : Hp} (m : ∀ b o, H b = some o → H' b = some o) : ∀ (d : PyData) (v : V), De K H v d → De K H' v d
  | .none, _, h => by
    cases h
    exact .non
  | .bool b, _, h => by
    cases h
    exact .bl b
  | .int i, _, h => by
    cases h
    exact .int i
  | .str x, _, h => by
    cases h
    exact .str x
  | .list ds, _, h => by
    cases h with
    | lst ha hd => exact .lst (m _ _ ha) (de_monoAll m ds _ hd)
  | .tuple ds, _, h => by
    cases h with
    | tup ha hd => exact .tup (m _ _ ha) (de_monoAll m ds _ hd)
  | .dict _, _, h => by
    cases h with
    | dic ha => exact .dic (m _ _ ha)
theorem de_monoAll {K : PySem.W.Frag} {H H' : Hp} (m : ∀ b o, H b = some o → H' b = some o) : ∀ (ds : List PyData) (vs : List V), DeAll K H vs ds → DeAll K H' vs ds
  | [], _, h => by
    cases h
    exact .nil
  | d :: ds, _, h => by
    cases h with
    | cons h1 h2 => exact .cons (de_mono m d _ h1) (de_monoAll m ds _ h2)
end

/-- no text in it is too long -/
def Fit (d : PyData) : Prop := ∀ ds, (d = .tuple ds ∨ d = .list ds) → ∀ x, PyData.str x ∈ ds → x.cps.size ≤ 1000
def spRow (K : PySem.W.Frag) : Sp := fun vs H Q _ => ∃ (ls : Str) (v : V) (d : PyData), vs = [.str ls, v] ∧ De K H v d ∧ Fit d ∧ ∀ H', Same H H' → Q (.bl (okR ls d)) H'
theorem deAll_len {K : PySem.W.Frag} {H : Hp} : ∀ {vs : List V} {ds : List PyData}, DeAll K H vs ds → vs.length = ds.length
  | _, _, .nil => rfl
  | _, _, .cons _ t => congrArg Nat.succ (deAll_len t)
end SK
namespace SK
open PySem PySem.Spec PyProof.Rows L2 LamX NdefX
open K0 (De DeAll XCl spX withX)
/-- what is told of an own exception class, by its name -/
structure XR (P : Program) (w : World) (K : PySem.W.Frag) (mg : Str → Option Value) (base : Heap) (x : Str) (C : Addr) (fs : List Str) : Prop where
  cl : XCl K C
  gC : mg x = some (.ref C)
  no : ∀ n ∈ fs, PySem.W.findIn K (.ref C) n = some none
  ini : ∃ f fd, PySem.W.findIn K (.ref C) "__init__" = some (some (.ref f)) ∧ PySem.W.typeIn K (.ref f) = some (.type "function") ∧ FnOk P w K mg base CX0 1 f fd (("self" : Str) :: fs) (spX C fs) ∧ Binds K fd (("self" : Str) :: fs) []
theorem withX_at {H : Hp} {a dx C : Addr} {gs : List (Str × V)} : withX H C a dx gs a = some (exo a C (some dx)) := upd_same
theorem withX_dx {H : Hp} {a dx C : Addr} {gs : List (Str × V)} (ne : dx ≠ a) : withX H C a dx gs dx = some (exd dx gs) := (upd_ne ne).trans upd_same
/-- the making of such an exception, read behind its arguments -/
theorem rd_mk {C : Addr} {fs : List Str} {vs : List V} {H1 : Hp} {Q : XK} (hl : vs.length = fs.length) (hz : vs.length ≤ 1000) (k : ∀ (d : Addr) (H' : Hp), Same H1 H' → H1 d = none → H' d = some (.xd (fs.zip vs).reverse) → Q (.ref C) (some d) H') :
    vs.length ≤ 1000 ∧ ∀ a, H1 a = none → spX C fs (.ref a :: (vs ++ [])) (upd H1 a (exo a C none))
      (fun v H2 => v = .non ∧ ∃ (d : Addr) (gs : List (Str × V)), H2 a = some (exo a C (some d)) ∧ H2 d = some (exd d gs) ∧ H1 d = none ∧ Q (.ref C) (some d) (upd (del H2 a) d (.xd gs))) (fun _ _ _ => False) := by
  refine ⟨hz, fun a na => ⟨a, vs ++ [], rfl, by rw [List.append_nil]; exact hl, upd_same, fun dx nd ne => ?_⟩⟩
  rw [upd_ne ne] at nd
  refine ⟨rfl, dx, _, withX_at, withX_dx ne, nd, k dx _ (fun b o e => ?_) nd ?_⟩
  · have n1 : b ≠ a := ne_of_none e na
    have n2 : b ≠ dx := ne_of_none e nd
    rw [upd_ne n2, del_ne n1]
    show upd (upd (upd H1 a _) dx _) a _ b = some o
    rw [upd_ne n1, upd_ne n2, upd_ne n1]
    exact e
  · rw [List.append_nil]
    exact upd_same
/-- what is wanted of an exception of the class C with the fields gs -/
def Thrown (E : XK) (C : Addr) (H : Hp) (gs : List (Str × V)) : Prop := ∀ (H' : Hp) (d : Addr), Same H H' → H d = none → H' d = some (.xd gs) → E (.ref C) (some d) H'
end SK
namespace SK
open PySem PySem.Spec PyProof.Rows L2 LamX NdefX
open K0 (De DeAll XCl spX withX)
def elems : PyData → List PyData
  | .tuple ds => ds
  | .list ds => ds
  | _ => []
theorem deAll_at {K : PySem.W.Frag} {H : Hp} : ∀ {xs : List V} {ds : List PyData}, DeAll K H xs ds → ∀ {i : Nat} {x : V}, xs[i]? = some x → ∃ d, ds[i]? = some d ∧ De K H x d
  | _, _, .nil, i, x, h => by simp at h
  | _, _, .cons h1 t, 0, x, h => by
    simp at h
    subst h
    exact ⟨_, rfl, h1⟩
  | _, _, .cons h1 t, i + 1, x, h => deAll_at t (by simpa using h)
end SK
namespace SK
open PySem PySem.Spec PyProof.Rows L2 LamX NdefX
abbrev Cl := Value × (Addr → Value → Option Addr → TS)
/-- what the clauses wish; i is the slot of their name -/
def wAsM (K : PySem.W.Frag) (Wout : WX) (i : Nat) (D : Ends) : List Cl → WX
  | [] => Wout
  | (c, ts) :: r => wAs K c i ts (wAsM K Wout i D r) D
inductive HdsAs (X : Cx) (n : Str) : List ExceptHandler → List Cl → Prop
  | nil : HdsAs X n [] []
  | cons {x : Str} {c : Value} {ts : Addr → Value → Option Addr → TS} {b₀ : Stmt} {suite : List Stmt} {np pos' : Pos} {hds : List ExceptHandler} {l : List Cl} (hc : Names X x c)
      (hsu : ∀ (a : Addr) (oe : Obj) (cls : Value) (d : Option Addr) (pn : List (Addr × Obj)), Zc cls d oe → (∃ vs, oe.data = .fields vs) → PSs (X.suite a ((a, oe) :: pn)) (b₀ :: suite) (ts a cls d)) (r : HdsAs X n hds l) :
      HdsAs X n (.ExceptHandler (some (.Name x np)) (some n) (b₀ :: suite) pos' :: hds) ((c, ts) :: l)
section
variable {X : Cx} {n : Str} {i : Nat} {body : List Stmt} {h₀ : ExceptHandler} {hds : List ExceptHandler} {l : List Cl} {pos : Pos} {tb : WX → TS} {Wout : WX}
theorem ps_try_asM (hs : X.stack = X.env :: X.outer) (hf : X.env.frame = some X.env.locals) (hN : X.N.Nodup) (hi : X.N[i]? = some n) (hln : X.env.kindOf n = some .local) (tk : Takes X Wout)
    (hb : ∀ (W : WX) (pn : List (Addr × Obj)) (xe : Value → Shared → Prop), Takes (X.tr pn xe) W → PassesOwn (model X.prog X.w) X.A X.env xe → PSs (X.tr pn xe) body (tb W))
    (hh : HdsAs X n (h₀ :: hds) l) : PS X (.Try body (h₀ :: hds) [] [] pos) (fun D σ H => tb (wAsM X.K Wout i D l) D σ H) := by
  refine ⟨fun pins s σ H D I h => ?_⟩
  have ok := I.ok
  have hfr : X.A.frames = some (X.env :: X.outer) := by rw [ok.frames, hs]
  have hloc : Loc X.env.scope n := .inl hln
  refine wpAny_Try_except ?_
  refine wpAny_mono ((hb (wAsM X.K Wout i D l) (X.pn ++ pins) (fun e s₁ => wpAny (model X.prog X.w) X.A (noteFrame e X.env) (fun _ s₂ => wpAny (model X.prog X.w) X.A (setFlight e none) (fun _ s₃ =>
    wpAny (model X.prog X.w) X.A (handleBy e X.env (h₀ :: hds)) (SP X pins D) X.xe s₃) X.xe s₂) X.xe s₁) (fun u s' xx => ?_) PassesOwn.looking).run [] s σ H D (I.toTry _) h) (fun f s1 hsp => ?_) (fun e s1 he => he)
  · obtain ⟨a, B, sI, pins', σ', H', cls, d, rfl, J', nb, up, sky, na, os, ag, w⟩ := xx
    have J : Inv X pins σ' H' sI := J'.ofTry ok
    have sky' : Sky B (X.env :: X.outer) a (Zc cls d) X.env.locals s'.heap := by rw [← hs]; exact sky
    show wpAny (model X.prog X.w) X.A (noteFrame (.ref a) X.env) _ _ _
    refine Sky.land Zc.steady hfr hf sky' fun h3 fl3 up3 => ?_
    have J3 : Inv X pins σ' H' { s' with heap := h3 } := J.landed nb fl3.1 (up.trans up3) os ag
    obtain ⟨oe3, vs3, he3, hz3, hd3⟩ := fl3.there
    have apart : ∀ {h : Heap} {o : Obj} {vs : Array Value}, h.FunFrames B (X.env :: X.outer) → h.get? a = some o → o.data = .fields vs → a ∉ frs (X.env :: X.outer) := fun {h o vs} ff e dd hm => by
      obtain ⟨_, o', e', hnf⟩ := ff.mem hm
      rw [e] at e'
      cases e'
      exact hnf _ dd
    have nfr := apart fl3.2.2.1 he3 hd3
    have nL : a ≠ X.env.locals := fun z => nfr (List.mem_filterMap.mpr ⟨X.env, List.mem_cons_self, by rw [hf, z]⟩)
    have nF : a ∉ X.fs := fun hm => by
      obtain ⟨e, he, q⟩ := List.mem_filterMap.mp hm
      exact nfr (List.mem_filterMap.mpr ⟨e, List.mem_cons_of_mem _ he, q⟩)
    have S3 := J3.suite he3 hd3 na nL nF
    have go : ∀ {hds' : List ExceptHandler} {l' : List Cl}, HdsAs X n hds' l' → wAsM X.K Wout i D l' cls d σ' H' → wpAny (model X.prog X.w) X.A (handleBy (.ref a) X.env hds') (SP X pins D) X.xe { s' with heap := h3 } := by
      intro hds' l' hk
      induction hk with
      | nil =>
        intro w
        refine wpAny_handleBy_nil ?_
        obtain ⟨k1, k2, k3, oe, vs, T, oT, ts', he, hz, hd, h1, hr⟩ := id fl3
        unfold PySem.passOn
        refine wpAny_bind (wpAny_field he hd h1 ?_)
        rw [if_neg (show ¬ ((Value.ref T == Value.none) = true) from by simp)]
        have fin : wpAny (model X.prog X.w) X.A (setFlight (.ref a) X.env.frame) (fun _ s4 => wpAny (model X.prog X.w) X.A (throw (.ref a) : Sem Flow) (SP X pins D) X.xe s4) X.xe { s' with heap := h3 } := by
          rw [hf]
          refine HandSPX.setFlight_upZ fl3 fun h4 hh4 up4 => wpAny_throw (tk _ _ ?_)
          exact ⟨a, B, sI, pins, σ', H', cls, d, rfl, J, nb, (up.trans up3).trans up4, .inr (.inr (by rw [hs]; exact hh4)), na, os, ag, w⟩
        first
          | exact wpAny_bind (wpAny_pure (wpAny_bind fin))
          | exact wpAny_bind fin
      | @cons x c ts b₀ suite np pos' hds2 l2 hc hsu r ih =>
        intro w
        obtain ⟨b, hb1, hyes, hno⟩ := w
        refine wpAny_handleBy_cons (codeAny_handlers_test ?_) (by intro q; cases q)
        have LT : PySem.W.Looks (model X.prog X.w) h3 (typeOf (.ref a)) cls := fun A Q E s k q => wpAny_typeOf_ref (k _ _ he3) (by rw [hz3.1]; exact q)
        have LM := PySem.W.exm_one (M := model X.prog X.w) (J3.kIn) LT hb1
        have test : ∀ {Q : Value → Shared → Prop} {E : Value → Shared → Prop}, Q c { s' with heap := h3 } → wpAny (model X.prog X.w) (X.A.mark (some (.ref a))) (eval (.Name x np) X.env) Q E { s' with heap := h3 } := fun {Q E} q => by
          obtain ⟨hg, hdbg, hm | ⟨hm, hv, hnn⟩⟩ := hc
          · exact ld_glob (X := X.suite a ((a, oe3) :: (X.pn ++ pins))) S3 hg hm q hdbg
          · exact ld_blt (X := X.suite a ((a, oe3) :: (X.pn ++ pins))) S3 hg hm hv q hnn hdbg
        refine test (LM.here ?_)
        cases b with
        | true =>
          refine codeAny_handlers_suite_as ?_
          refine HandSPX.lands_againZ fl3 fun h4 fl4 up4 => ?_
          have J4 : Inv X pins σ' H' { s' with heap := h4 } := J.landed nb fl4.1 ((up.trans up3).trans up4) os ag
          obtain ⟨oe4, vs4, he4, hz4, hd4⟩ := fl4.there
          have S4 := J4.suite he4 hd4 na nL nF
          refine store_ok (X := X.suite a ((a, oe4) :: (X.pn ++ pins))) (v := .ref a) S4 hN hi hloc rfl (fun s5 S5 => ?_) (.inr hln)
          refine wpAny_mono ((hsu a oe4 cls d (X.pn ++ pins) hz4 ⟨_, hd4⟩).run [] s5 _ H' _ S5 (hyes rfl a na)) (fun f s6 hsp => ?_) (fun _ _ z => False.elim z)
          have ends : ∀ {σ6 : St} {H6 : Hp} {Q : Shared → Prop}, Inv (X.suite a ((a, oe4) :: (X.pn ++ pins))) [] σ6 H6 s6 → (∀ s7, Inv X pins (σ6.set i none) H6 s7 → Q s7) →
              wpAny (model X.prog X.w) X.A (do bindName X.env n .none; unbindBehindTheSuite X.env n pos') (fun _ s7 => Q s7) X.xe s6 := fun {σ6 H6 Q} S6 hq => gone_ok (S6.unsuite ok) hN hi hln hq
          cases f with
          | next =>
            obtain ⟨σ6, H6, S6, q6⟩ := hsp
            exact ends S6 fun s7 J7 => ⟨_, _, J7, q6⟩
          | brk =>
            obtain ⟨σ6, H6, S6, q6⟩ := hsp
            exact ends S6 fun s7 J7 => ⟨_, _, J7, q6⟩
          | cont =>
            obtain ⟨σ6, H6, S6, q6⟩ := hsp
            exact ends S6 fun s7 J7 => ⟨_, _, J7, q6⟩
          | ret u =>
            obtain ⟨v6, σ6, H6, S6, r6, q6⟩ := hsp
            exact ends S6 fun s7 J7 => ⟨_, _, _, J7, r6, q6⟩
        | false =>
          show wpAny _ X.A (handleBy (.ref a) X.env hds2) _ _ _
          exact ih (hno rfl)
    exact go hh w
  · cases f with
    | next =>
      obtain ⟨σ', H', J', q⟩ := hsp
      exact wpAny_execs_nil ⟨σ', H', J'.ofTry ok, q⟩
    | brk =>
      obtain ⟨σ', H', J', q⟩ := hsp
      exact ⟨σ', H', J'.ofTry ok, q⟩
    | cont =>
      obtain ⟨σ', H', J', q⟩ := hsp
      exact ⟨σ', H', J'.ofTry ok, q⟩
    | ret u =>
      obtain ⟨v, σ', H', J', r, q⟩ := hsp
      exact ⟨v, σ', H', J'.ofTry ok, r, q⟩
end
/-- isinstance(e, c), e the exception that the suite holds, with fields -/
def rIsD (K : PySem.W.Frag) (a : Addr) (cls : Value) (d : Option Addr) : List V → Hp → VK → Prop := fun xs H Q => ∃ (D dx : Addr) (fs : List (Str × V)), cls = .ref D ∧ d = some dx ∧ ExcC K D ∧ H dx = some (.xd fs) ∧ rIsE K D a xs H Q
theorem call_isD {X : Cx} {a : Addr} {cls : Value} {d : Option Addr} {oe : Obj} {pn : List (Addr × Obj)} (hz : Zc cls d oe) (hf : ∃ vs, oe.data = .fields vs) : CallR (X.suite a ((a, oe) :: pn)) (.builtin "isinstance") (rIsD X.K a cls d) := by
  intro pins s σ H xs us Q I r h
  obtain ⟨D, dx, fs, rfl, rfl, C, hdx, c, cv, b, rfl, hcv, e, q⟩ := h
  obtain ⟨u1, u2, rfl, r1, r2⟩ := vals2 r
  obtain rfl : u1 = Value.ref a := r1
  obtain rfl := hcv _ r2
  obtain ⟨hget, _⟩ := I.pin (a, oe) (List.mem_append.mpr (.inl List.mem_cons_self))
  obtain ⟨vs, hv⟩ := hf
  have hx : ObjOk X.prog X.w H s.heap dx (.xd fs) := I.hok dx _ hdx
  obtain ⟨mA, hns, hr⟩ := hx
  obtain ⟨od, ho, hl⟩ := lookIn_ns hns
  have J : PySem.W.InstAt s.heap a oe D (some od) := ⟨hget, hz.1, by unfold PySem.W.notCls; rw [hv] <;> rfl, by rw [hz.2]; exact ho⟩
  have hc : (PySem.W.clsIn X.K D).isSome = true := by
    obtain ⟨cd, hcd, _⟩ := PySem.W.any_some C.hd
    rw [hcd]
    rfl
  exact PySem.W.kia_one (PySem.W.kitx_exc (ox := oe) (od := some od) hc C.hg C.hk C.hs C.ha C.hn C.ht C.hm) I.kIn J e (fun z => nomatch z) fun tk => ⟨.bl b, H, I.kept (t' := tk) fun _ _ z => z, rfl, q⟩
end SK
namespace SK
open PySem PySem.Spec PyProof.Rows L2 LamX NdefX
open K0 (De DeAll XCl spX withX)
structure FnG (P : Program) (w : World) (K : PySem.W.Frag) (mg : Str → Option Value) (base : Heap) (CX : CXT) (k : Nat) (f : Addr) (fd : FuncData) (ps : List Str) (sp : Sp) : Prop where
  len : ∀ vs H Q E, sp vs H Q E → vs.length = ps.length
  run : ∀ (A : Around) (outer : List Env) (s : Shared) (H : Hp) (args : Args) (us : List Value) (vs : List V) (Q : VK) (E : XK), A.guards = some [] → Room k A → Env0 P w K mg base A outer s H → BindsTo s fd args (ps.zip us) → Vals vs us → sp vs H Q E →
    codeAny (model P w) A (.call (.ref f) args) (CR CX outer P w H s Q E) s
theorem FnG.ok {P : Program} {w : World} {K : PySem.W.Frag} {mg : Str → Option Value} {base : Heap} {x qual : Str} {st : Stmt} {f : Addr} {fd : FuncData} {N ps : List Str} {k : Nat} {sp : Sp} (F : Fun K x qual st f fd) (S : FnScope N ps (defScope st)) (len : ∀ vs H Q E, sp vs H Q E → vs.length = ps.length)
    (hbody : ∀ (cdv : Value) (A : Around) (outer : List Env) (s : Shared) (H : Hp) (vs : List V) (Q : VK) (E : XK), (A.deeper (envOfC qual (defScope st) s.heap.objs.size f cdv)).guards = some [] → Room k (A.deeper (envOfC qual (defScope st) s.heap.objs.size f cdv)) → sp vs H Q E →
      ∃ t, PSs (cxOf CX0 P w K mg base N qual (defScope st) f cdv A outer s H E).nox (defBody st) t ∧ t { nx := fun _ H' => Q .non H', rt := Q } (start N vs) H) : FnG P w K mg base CX0 (k + 1) f fd ps sp := by
  obtain ⟨oc, od, kV, doc, pm, an, cdv, ct, osl, rfl, lk, hcd⟩ := F.ex
  refine ⟨len, fun A outer s H args us vs Q E hg hr e0 hb r hsp => run_ofS lk hcd S hr e0 hb r (len _ _ _ _ hsp) fun hr' => ?_⟩
  obtain ⟨t, h, q⟩ := hbody cdv A outer s H vs Q E hg hr' hsp
  exact ⟨t, h.nox, q⟩
def tCallG (sp : Sp) (E : XK) (t : TA) : TE := fun σ H Q => t σ H fun vs H1 => sp vs H1 Q E
section
variable {X : Cx} {CX : CXT} {k : Nat} {f C : Addr} {fd : FuncData} {ps : List Str} {ds : List Value} {dvs : List V} {sp : Sp} {E : XK} {x : Str} {p pos : Pos} {e : Expr} {es : List Expr} {t : TA}
theorem run_fnG {pins : List (Addr × Obj)} {σ : St} {H : Hp} {s : Shared} {Q : VK} {us : List Value} {vs : List V} (F : FnG X.prog X.w X.K X.mg X.base CX k f fd ps sp) (hgd : X.A.guards = some []) (hr : Room k X.A) (hb : Binds X.K fd ps []) (hx : Passes CX X E) (I : Inv X pins σ H s) (r : Vals vs us)
    (h : sp vs H Q E) : wpAny (model X.prog X.w) X.A (call (.ref f) us) (EP X pins σ Q) X.xe s := by
  have hl : us.length = ps.length := by
    rw [← r.length]
    exact F.len _ _ _ _ h
  have b := hb s us I.kIn (by rw [List.append_nil]; exact hl)
  rw [List.append_nil] at b
  refine wpAny_call (codeAny_mono (F.run X.A X.stack s H ⟨us, []⟩ us vs Q E hgd hr I.env0 b r h) fun r s' hq => ?_)
  cases r with
  | error e => exact hx pins σ H s e s' I hq
  | ok fl =>
    cases fl with
    | ret u => exact I.after hq
    | next => exact False.elim hq
    | brk => exact False.elim hq
    | cont => exact False.elim hq
theorem pe_callG (F : FnG X.prog X.w X.K X.mg X.base CX k f fd ps sp) (hgd : X.A.guards = some []) (hr : Room k X.A) (hg : Gl X x) (hm : X.mg x = some (.ref f)) (hk : PySem.W.keepIn X.K (.ref f) = true) (hb : Binds X.K fd ps []) (hx : Passes CX X E)
    (ha : PA X (e :: es) t) (hdb : (x == ("__debug__" : Str)) = false := by decide) (he : starEach (e :: es) X.env = (false, eval e X.env) :: starEach es X.env := by rfl) (hpl : (backTo pos (starEach es X.env)).any (·.1) = false := by rfl) :
    PE X (.Call (.Name x p) (e :: es) [] pos) (tCallG sp E t) := by
  refine ⟨fun pins s σ H Q I h => ?_⟩
  refine wpAny_Call_Name_kw (ld_glob I hg hm ?_ hdb)
  refine PySem.W.callWith_K (h₀ := X.base) I.ok.mod.kin hk (thn (ha.run pos pins s σ H _ I h) fun us s1 ⟨vs, H1, I1, r, q⟩ => ⟨I1.kIn, ?_⟩) he hpl
  exact run_fnG F hgd hr hb hx I1 r q
/-- C(..), what is raised wished for at the caller's slots -/
def tMakeS (C : Addr) (sp : Sp) (E : St → XK) (t : TA) : TE := fun σ H Q => t σ H fun vs H1 => ∀ x dx, H1 x = none → H1 dx = none → dx ≠ x → sp (.ref x :: vs) (upd (upd H1 dx (.own x)) x (.ins C dx [])) (fun v H2 => v = .non ∧ Q (.ref x) H2) (E σ)
theorem pe_makeS {E : St → XK} (M : Mk X.K C f) (F : FnOk X.prog X.w X.K X.mg X.base CX k f fd ps sp) (hr : Room (k + 1) X.A) (hg : Gl X x) (hm : X.mg x = some (.ref C)) (hb : Binds X.K fd ps []) (hx : ∀ σ, PassesAt CX X σ (E σ)) (ha : PA X (e :: es) t)
    (hdb : (x == ("__debug__" : Str)) = false := by decide) (he : starEach (e :: es) X.env = (false, eval e X.env) :: starEach es X.env := by rfl) (hpl : (backTo pos (starEach es X.env)).any (·.1) = false := by rfl) :
    PE X (.Call (.Name x p) (e :: es) [] pos) (tMakeS C sp E t) := by
  refine ⟨fun pins s σ H Q I h => ?_⟩
  refine wpAny_Call_Name_kw (ld_glob I hg hm ?_ hdb)
  refine PySem.W.callWith_K (h₀ := X.base) I.ok.mod.kin M.kp (thn (ha.run pos pins s σ H _ I h) fun us s1 ⟨vs, H1, I1, r, q⟩ => ⟨I1.kIn, ?_⟩) he hpl
  have hq := q (s1.heap.objs.size + 1) s1.heap.objs.size (I1.hok.fresh (Nat.le_succ _)) (I1.hok.fresh (Nat.le_refl _)) (Nat.ne_of_lt (Nat.lt_succ_self _))
  have I2 := Inv.made (C := C) I1
  have r2 : Vals (V.ref (s1.heap.objs.size + 1) :: vs) (Value.ref (s1.heap.objs.size + 1) :: us) := .cons rfl r
  have hl : (Value.ref (s1.heap.objs.size + 1) :: us).length = ps.length := by
    have z := r2.length
    rw [F.len _ _ _ _ hq] at z
    exact z.symm
  have b := hb _ (Value.ref (s1.heap.objs.size + 1) :: us) I2.kIn (by rw [List.append_nil]; exact hl)
  rw [List.append_nil] at b
  show wpAny _ _ (call (.ref C) us) _ _ _
  refine wpAny_call (make_map (f := f) I1.kIn M.makes M.init (beq_iff_eq.mp M.fn) (codeAny_mono (F.run _ X.stack _ _ ⟨Value.ref (s1.heap.objs.size + 1) :: us, []⟩ (Value.ref (s1.heap.objs.size + 1) :: us) _ _ (E σ) (hr.make C us [])
    (I2.env0.make C us []) b r2 hq) fun r s' hq' => ?_))
  cases r with
  | error er => exact hx σ pins _ _ er s' I2 hq'
  | ok fl =>
    cases fl with
    | ret u =>
      obtain ⟨v, H', I3, rv, ev, q3⟩ := I2.after hq'
      subst ev
      exact ⟨rv, ⟨V.ref (s1.heap.objs.size + 1), H', I3, rfl, q3⟩⟩
    | next => exact False.elim hq'
    | brk => exact False.elim hq'
    | cont => exact False.elim hq'
/-- repr(x), x any data -/
def rRepD (K : PySem.W.Frag) : List V → Hp → VK → Prop := fun xs H Q => ∃ (v : V) (d : PyData), xs = [v] ∧ De K H v d ∧ d.showable = true ∧ d.depth ≤ 8 ∧ d.shown.length ≤ sizeLine ∧ Q (.str d.shown) H
theorem call_repD (hg : X.A.guards = some []) (hu : X.A.units + 64 < cLine) (hsys : ∃ o, X.K.lookup sysModules = some o) : CallR X (.builtin "repr") (rRepD X.K) := by
  intro pins s σ H xs us Q I r h
  obtain ⟨v, d, rfl, hd, hsh, hdp, hz, q⟩ := h
  cases hd with
  | non =>
    obtain ⟨u, rfl, ru⟩ := vals1 r
    obtain rfl : u = Value.none := ru
    exact PySem.P.repr_of_none ⟨.str _, H, I.tok _, ⟨_, rfl⟩, q⟩
  | bl b =>
    obtain ⟨u, rfl, ru⟩ := vals1 r
    obtain rfl : u = Value.bool b := ru
    exact PySem.P.repr_of_bool ⟨.str _, H, I.tok _, ⟨_, rfl⟩, by cases b <;> exact q⟩
  | int i =>
    obtain ⟨u, rfl, t, rfl⟩ := vals1 r
    refine PySem.P.repr_of_int (by simpa [PyData.showable] using hsh) ⟨.str _, H, I.tok _, ⟨_, rfl⟩, q⟩
  | str x =>
    obtain ⟨u, rfl, t, rfl⟩ := vals1 r
    exact PySem.P.repr_of_str ⟨.str _, H, I.tok _, ⟨_, rfl⟩, q⟩ hz
  | @lst a vs ds ha hds => exact K0.call_rep hg hu hsys pins s σ H _ us Q I r ⟨a, _, rfl, .lst ha hds, hsh, hdp, hz, q⟩
  | @tup a vs ds ha hds => exact K0.call_rep hg hu hsys pins s σ H _ us Q I r ⟨a, _, rfl, .tup ha hds, hsh, hdp, hz, q⟩
  | @dic a ha => exact K0.call_rep hg hu hsys pins s σ H _ us Q I r ⟨a, _, rfl, .dic ha, hsh, hdp, hz, q⟩
end
end SK
namespace SK
open PySem PySem.Spec PyProof.Rows L2 LamX NdefX
open K0 (De DeAll XCl spX withX)
theorem xf_of {K : PySem.W.Frag} {C : Addr} (c : XCl K C) : XfC K C := ⟨c.ga, c.gg, c.T.exC, c.hd⟩
theorem ec_of {K : PySem.W.Frag} {C : Addr} (c : XCl K C) : ExcC K C := ⟨c.ga, c.gg, c.T.exC, c.hd, c.ha, c.hn, c.ht, c.hm⟩
end SK
namespace SK
open PySem PySem.Spec PyProof.Rows L2 LamX NdefX
open K0 (De DeAll XCl spX withX)
theorem IxR.or {X : Cx} {r1 r2 : R2} (h1 : IxR X r1) (h2 : IxR X r2) : IxR X (fun x y H Q => r1 x y H Q ∨ r2 x y H Q) := by
  intro value slice pins s σ H x y v u Q I rx ry h hs
  rcases h with h | h
  · exact h1 value slice pins s σ H x y v u Q I rx ry h hs
  · exact h2 value slice pins s σ H x y v u Q I rx ry h hs
theorem CallR.or {X : Cx} {f : Value} {r1 r2 : List V → Hp → VK → Prop} (h1 : CallR X f r1) (h2 : CallR X f r2) : CallR X f (fun xs H Q => r1 xs H Q ∨ r2 xs H Q) := by
  intro pins s σ H xs us Q I r h
  rcases h with h | h
  · exact h1 pins s σ H xs us Q I r h
  · exact h2 pins s σ H xs us Q I r h
/-- a list or a text, and what stands in it -/
def Items (H : Hp) (v : V) (xs : List V) : Prop := (∃ a, v = .ref a ∧ H a = some (.lst xs)) ∨ ∃ z : Str, v = .str z ∧ xs = z.cps.toList.map fun c => V.str ⟨#[c]⟩
end SK
namespace SK
open PySem PySem.Spec PyProof.Rows L2 LamX NdefX
open K0 (De DeAll XCl spX withX)
theorem seq_ix {d : Int} {j n : Nat} (h : d = (j : Int)) (hj : j < n) : seqIndex? d n = some j := by
  subst h
  unfold seqIndex?
  have h1 : ¬ ((j : Int) < 0) := by omega
  have h2 : (j : Int) < (n : Int) := by omega
  simp [h1, h2, hj]
end SK
namespace SK
open PySem PySem.Spec PyProof.Rows L2 LamX NdefX
open K0 (De DeAll XCl spX withX)
theorem Same.seqT {K : PySem.W.Frag} {H H' : Hp} {a : Addr} {xs : List V} (s : Same H H') (h : SqT K H a xs) : SqT K H' a xs := by
  rcases h with (h | ⟨o, h⟩) | h
  · exact .inl (.inl (s _ _ h))
  · exact .inl (.inr ⟨o, s _ _ h⟩)
  · exact .inr h
section
variable {K : PySem.W.Frag} {a : Addr} {xs : List V} {g : TG} {tt : TT} {te : TE} {vs : List Nat} {σ : St} {H1 : Hp} {D : Addr} {Qd : Hp → Prop}
/-- what is asked of one turn -/
def TurnF (g : TG) (tt : TT) (te : TE) (vs : List Nat) (σ : St) (x y : V) (b : Bool) (H : Hp) : Prop :=
  ∀ (A : V → Hp → Prop) (B : Hp → Prop), (b = true → A y H) → (b = false → B H) → g x (wipe σ vs) H fun σ2 H2 => wipe σ2 vs = wipe σ vs ∧ tt σ2 H2 fun b H3 => if b = true then te σ2 H3 A else B H3
theorem same_new (nD : H1 D = none) {o : HO} : Same H1 (upd H1 D o) := fun c u h => by
  rw [upd_ne (ne_of_none h nD)]
  exact h
theorem same_upd {H : Hp} (nD : H1 D = none) {o : HO} (s : Same H1 H) : Same H1 (upd H D o) := fun c u h => by
  rw [upd_ne (ne_of_none h nD)]
  exact s _ _ h
theorem take_snoc {α : Type} {l : List α} {i : Nat} {x : α} (h : l[i]? = some x) : l.take (i + 1) = l.take i ++ [x] := by
  rw [List.take_add_one, h]
  rfl
theorem filt_snoc {α : Type} {ws : List α} {f : α → V} {c : α → Bool} {i : Nat} {x : α} (h : ws[i]? = some x) : ((ws.take (i + 1)).filter c).map f = ((ws.take i).filter c).map f ++ (if c x = true then [f x] else []) := by
  rw [take_snoc h, List.filter_append, List.map_append]
  by_cases hc : c x = true
  · rw [if_pos hc, List.filter_cons_of_pos hc]
    rfl
  · rw [if_neg hc, List.filter_cons_of_neg hc]
    rfl
theorem filt_len {α : Type} {ws : List α} {f : α → V} {c : α → Bool} {i : Nat} : (((ws.take i).filter c).map f).length ≤ ws.length := by
  rw [List.length_map]
  exact Nat.le_trans (List.length_filter_le _ _) (by rw [List.length_take]; omega)
theorem map_at {α : Type} {enc : α → V} {ws : List α} {i : Nat} {x : V} (h : (ws.map enc)[i]? = some x) : ∃ y, ws[i]? = some y ∧ x = enc y := by
  rw [List.getElem?_map] at h
  cases e : ws[i]? with
  | none =>
    rw [e] at h
    cases h
  | some y =>
    rw [e] at h
    exact ⟨y, rfl, (Option.some.inj h).symm⟩
theorem lcF_list {α : Type} {ws : List α} (enc : α → V) (nD : H1 D = none) (f : α → V) (c : α → Bool) (hS : SqL K H1 a (ws.map enc)) (hz : ws.length < sizeLine) (step : ∀ (i : Nat) (x : α) (H : Hp), ws[i]? = some x → Same H1 H → TurnF g tt te vs σ (enc x) (f x) (c x) H)
    (fin : ∀ H, Same H1 H → H D = some (.lst ((ws.filter c).map f)) → Qd H) :
    ∃ W : Nat → Nat → Hp → Prop, (∃ m, W 0 m (upd H1 D (.lst []))) ∧ ∀ i m H, W i m H →
      ((Itl K a).stop i H ∧ Qd H) ∨ ((Itl K a).go i H ∧ ∃ Nx : Hp → Prop, (∀ H', Nx H' → ∃ m', m' < m ∧ W (i + 1) m' H') ∧ ∀ x H', (Itl K a).yld i H x H' → g x (wipe σ vs) H' fun σ2 H2 => wipe σ2 vs = wipe σ vs ∧ tt σ2 H2 fun b H3 =>
        if b = true then te σ2 H3 fun y H4 => ∃ acc, H4 D = some (.lst acc) ∧ acc.length < sizeLine ∧ Nx (upd H4 D (.lst (acc ++ [y]))) else Nx H3) := by
  refine lc_list (K := K) (a := a) (xs := ws.map enc) (fun i H => Same H1 H ∧ H D = some (.lst (((ws.take i).filter c).map f))) ⟨same_new nD, upd_same⟩ (fun i H _ p => Same.seq p.1 hS) (fun i x H hx p => ?_) fun H p => fin H p.1 (by rw [List.length_map, List.take_length] at p; exact p.2)
  obtain ⟨s, hD⟩ := p
  obtain ⟨y, hy, rfl⟩ := map_at hx
  refine step i y H hy s _ _ (fun hc => ⟨_, hD, Nat.lt_of_le_of_lt filt_len hz, same_upd nD s, ?_⟩) fun hc => ⟨s, ?_⟩
  · rw [filt_snoc hy, if_pos hc]
    exact upd_same
  · rw [filt_snoc hy, if_neg (by rw [hc]; simp), List.append_nil]
    exact hD
theorem lcF_tup {α : Type} {ws : List α} (enc : α → V) (nD : H1 D = none) (f : α → V) (c : α → Bool) (hS : SqT K H1 a (ws.map enc)) (hz : ws.length < sizeLine) (step : ∀ (i : Nat) (x : α) (H : Hp), ws[i]? = some x → Same H1 H → TurnF g tt te vs σ (enc x) (f x) (c x) H)
    (fin : ∀ H, Same H1 H → H D = some (.lst ((ws.filter c).map f)) → Qd H) :
    ∃ W : Nat → Nat → Hp → Prop, (∃ m, W 0 m (upd H1 D (.lst []))) ∧ ∀ i m H, W i m H →
      ((Itt K a).stop i H ∧ Qd H) ∨ ((Itt K a).go i H ∧ ∃ Nx : Hp → Prop, (∀ H', Nx H' → ∃ m', m' < m ∧ W (i + 1) m' H') ∧ ∀ x H', (Itt K a).yld i H x H' → g x (wipe σ vs) H' fun σ2 H2 => wipe σ2 vs = wipe σ vs ∧ tt σ2 H2 fun b H3 =>
        if b = true then te σ2 H3 fun y H4 => ∃ acc, H4 D = some (.lst acc) ∧ acc.length < sizeLine ∧ Nx (upd H4 D (.lst (acc ++ [y]))) else Nx H3) := by
  refine lc_tup (K := K) (a := a) (xs := ws.map enc) (fun i H => Same H1 H ∧ H D = some (.lst (((ws.take i).filter c).map f))) ⟨same_new nD, upd_same⟩ (fun i H _ p => SK.Same.seqT p.1 hS) (fun i x H hx p => ?_) fun H p => fin H p.1 (by rw [List.length_map, List.take_length] at p; exact p.2)
  obtain ⟨s, hD⟩ := p
  obtain ⟨y, hy, rfl⟩ := map_at hx
  refine step i y H hy s _ _ (fun hc => ⟨_, hD, Nat.lt_of_le_of_lt filt_len hz, same_upd nD s, ?_⟩) fun hc => ⟨s, ?_⟩
  · rw [filt_snoc hy, if_pos hc]
    exact upd_same
  · rw [filt_snoc hy, if_neg (by rw [hc]; simp), List.append_nil]
    exact hD
end
end SK
namespace SK
open PySem PySem.Spec PyProof.Rows L2 LamX NdefX
open K0 (De DeAll XCl spX withX)
theorem neT {p : Prop} {A B : Prop} [inst : Decidable p] (h : p) (k : B) : if (!decide p) = true then A else B := by
  rw [decide_eq_true h]
  exact iteF k
end SK
namespace SK
open PySem PySem.Spec PyProof.Rows L2 LamX NdefX
open K0 (De DeAll XCl spX withX)
def Al (K : PySem.W.Frag) (H0 : Hp) (σ : St) (te : TE) (d : PyData) : Prop := ∀ (H : Hp) (R : VK), Same H0 H → (∀ H' v, Same H H' → De K H' v d → R v H') → te σ H R
def AlAll (K : PySem.W.Frag) (H0 : Hp) (σ : St) (ta : TA) (ds : List PyData) : Prop := ∀ (H : Hp) (R : List V → Hp → Prop), Same H0 H → (∀ H' vs, Same H H' → DeAll K H' vs ds → R vs H') → ta σ H R
section
variable {K : PySem.W.Frag} {H0 : Hp} {σ : St}
theorem al_non : Al K H0 σ (tC .non) .none := fun H R _ k => k H _ (Same.refl _) .non
theorem al_bl {b : Bool} : Al K H0 σ (tC (.bl b)) (.bool b) := fun H R _ k => k H _ (Same.refl _) (.bl b)
theorem al_int {i : Int} : Al K H0 σ (tC (.int i)) (.int i) := fun H R _ k => k H _ (Same.refl _) (.int i)
theorem al_str {x : Str} : Al K H0 σ (tC (.str x)) (.str x) := fun H R _ k => k H _ (Same.refl _) (.str x)
theorem al_var {i : Nat} {v : V} {d : PyData} (h : σ[i]? = some (some v)) (hd : De K H0 v d) : Al K H0 σ (tVar i) d := fun H R s k => ⟨v, h, k H v (Same.refl _) (de_mono s _ _ hd)⟩
theorem al_nil : AlAll K H0 σ tNil [] := fun H R s k => k H [] (Same.refl _) .nil
theorem al_cons {te : TE} {ta : TA} {d : PyData} {ds : List PyData} (h1 : Al K H0 σ te d) (h2 : AlAll K H0 σ ta ds) : AlAll K H0 σ (tCons te ta) (d :: ds) := fun H R s k => by
  refine h1 H _ s fun H1 v s1 hd => ?_
  exact h2 H1 _ (s.trans s1) fun H2 vs s2 hds => k H2 (v :: vs) (s1.trans s2) (.cons (de_mono s2 _ _ hd) hds)
theorem al_tup {ta : TA} {ds : List PyData} (h : AlAll K H0 σ ta ds) (hz : ds.length ≤ 1000) : Al K H0 σ (tTup ta) (.tuple ds) := fun H R s k => by
  refine h H _ s fun H1 vs s1 hds => ⟨?_, fun p np => ?_⟩
  · rw [deAll_len hds]
    exact Nat.le_trans hz (by decide)
  · exact k _ _ (s1.trans (upd_new np)) (.tup upd_same (de_monoAll (upd_new np) _ _ hds))
theorem al_lst {ta : TA} {ds : List PyData} (h : AlAll K H0 σ ta ds) (hz : ds.length ≤ 1000) : Al K H0 σ (tLst ta) (.list ds) := fun H R s k => by
  refine h H _ s fun H1 vs s1 hds => ⟨?_, fun p np => ?_⟩
  · rw [deAll_len hds]
    exact Nat.le_trans hz (by decide)
  · exact k _ _ (s1.trans (upd_new np)) (.lst upd_same (de_monoAll (upd_new np) _ _ hds))
theorem deAll_app {H : Hp} : ∀ {xs ys : List V} {ds es : List PyData}, DeAll K H xs ds → DeAll K H ys es → DeAll K H (xs ++ ys) (ds ++ es)
  | _, _, _, _, .nil, h => h
  | _, _, _, _, .cons h t, h2 => .cons h (deAll_app t h2)
theorem al_cat {t1 t2 : TE} {ds es : List PyData} (h1 : Al K H0 σ t1 (.list ds)) (h2 : Al K H0 σ t2 (.list es)) (hz : ds.length + es.length ≤ 1000) : Al K H0 σ (tOp rCat t1 t2) (.list (ds ++ es)) := fun H R s k => by
  refine h1 H _ s fun H1 v s1 hd => ?_
  refine h2 H1 _ (s.trans s1) fun H2 u s2 he => ?_
  cases de_mono s2 _ _ hd with
  | @lst a xs _ ha hx =>
    cases he with
    | @lst b ys _ hb hy =>
      refine ⟨a, b, xs, ys, rfl, rfl, ha, hb, ?_, fun p np => ?_⟩
      · rw [deAll_len hx, deAll_len hy]
        exact Nat.le_trans hz (by decide)
      · exact k _ _ ((s1.trans s2).trans (upd_new np)) (.lst upd_same (de_monoAll (upd_new np) _ _ (deAll_app hx hy)))
end
theorem deAll_mem {K : PySem.W.Frag} {H : Hp} {y : V} : ∀ {xs : List V} {ds : List PyData}, DeAll K H xs ds → y ∈ xs → ∃ d ∈ ds, De K H y d
  | _, _, .nil, h => absurd h (by simp)
  | _, _, .cons h t, hm => by
    rcases List.mem_cons.mp hm with rfl | hm
    · exact ⟨_, by simp, h⟩
    · obtain ⟨d, hd, he⟩ := deAll_mem t hm
      exact ⟨d, List.mem_cons_of_mem _ hd, he⟩
end SK
namespace SK
open PySem PySem.Spec PyProof.Rows L2 LamX NdefX
open K0 (De DeAll XCl spX withX)
def rInD (K : PySem.W.Frag) (neg : Bool) : R2 := fun x y H Q => ∃ (p : Addr) (xs : List V) (ds : List PyData) (d : PyData), y = .ref p ∧ (SqL K H p xs ∨ SqT K H p xs) ∧ DpAll K H xs ds ∧ Dp K H x d ∧ d.canLay0 = true ∧ PyData.canLayAll0 ds = true ∧ d.depth ≤ 32 ∧
  Q (.bl (if neg = true then !(ds.any fun e => PyData.eqv e d) else ds.any fun e => PyData.eqv e d)) H
theorem dp_items {X : Cx} {pins : List (Addr × Obj)} {σ : L2.St} {H : Hp} {s : Shared} (I : Inv X pins σ H s) {d : PyData} {v : Value} {bs : List Addr} (rd : Reads s.heap v d bs) (hd : d.canLay0 = true) (hz : d.depth ≤ 32) (hu : X.A.units + 64 < cLine) : ∀ {ds : List PyData} {xs : List V} {us : List Value}, DpAll X.K H xs ds → Vals xs us → PyData.canLayAll0 ds = true →
    ∃ f : Value → Bool, (∀ y ∈ us, SeqAt.EqAt X.A.in1 s y v (f y)) ∧ (us.any f = ds.any fun e => PyData.eqv e d) ∧ f = fun y => @decide (∃ e as, Reads s.heap y e as ∧ e.canLay0 = true ∧ PyData.eqv e d = true) (Classical.propDecidable _) := by
  intro ds xs us h r hc
  refine ⟨_, ?_, ?_, rfl⟩
  · intro y hy
    have go : ∀ {ds : List PyData} {xs : List V} {us : List Value}, DpAll X.K H xs ds → Vals xs us → PyData.canLayAll0 ds = true → y ∈ us → ∃ e as, Reads s.heap y e as ∧ e.canLay0 = true := fun {ds xs us} h => by
      induction us generalizing ds xs with
      | nil => intro _ _ hy; cases hy
      | cons u us ih =>
        intro r hc hy
        cases r with
        | cons r1 r2 =>
          cases h with
          | @cons v1 vs e es h1 h2 =>
            have hc' : e.canLay0 = true ∧ PyData.canLayAll0 es = true := by simpa only [PyData.canLayAll0, Bool.and_eq_true] using hc
            rcases List.mem_cons.mp hy with rfl | hy
            · obtain ⟨as, q⟩ := Dp.reads I e _ _ h1 r1
              exact ⟨e, as, q, hc'.1⟩
            · exact ih h2 r2 hc'.2 hy
    obtain ⟨e, as, q, hce⟩ := go h r hc hy
    have ev : @decide (∃ e as, Reads s.heap y e as ∧ e.canLay0 = true ∧ PyData.eqv e d = true) (Classical.propDecidable _) = PyData.eqv e d := by
      cases z : PyData.eqv e d with
      | true => exact @decide_eq_true _ (Classical.propDecidable _) ⟨e, as, q, hce, z⟩
      | false =>
        refine @decide_eq_false _ (Classical.propDecidable _) ?_
        rintro ⟨e2, as2, q2, hc2, z2⟩
        rw [SeqAt.Reads.unique e2 e y as2 as hc2 q2 q] at z2
        rw [z] at z2
        cases z2
    rw [ev]
    have hm : min e.depth d.depth ≤ d.depth := Nat.min_le_right _ _
    exact SeqAt.eqAt_reads e d X.A.in1 s y v as bs q rd hce hd (by show X.A.units + 1 + _ < cLine; omega)
  · have go : ∀ {ds : List PyData} {xs : List V} {us : List Value}, DpAll X.K H xs ds → Vals xs us → PyData.canLayAll0 ds = true → (us.any fun y => @decide (∃ e as, Reads s.heap y e as ∧ e.canLay0 = true ∧ PyData.eqv e d = true) (Classical.propDecidable _)) = ds.any fun e => PyData.eqv e d := fun {ds xs us} h => by
      induction us generalizing ds xs with
      | nil =>
        intro r _
        cases r
        cases h
        rfl
      | cons u us ih =>
        intro r hc
        cases r with
        | cons r1 r2 =>
          cases h with
          | @cons v1 vs e es h1 h2 =>
            have hc' : e.canLay0 = true ∧ PyData.canLayAll0 es = true := by simpa only [PyData.canLayAll0, Bool.and_eq_true] using hc
            obtain ⟨as, q⟩ := Dp.reads I e _ _ h1 r1
            have ev : @decide (∃ e as, Reads s.heap u e as ∧ e.canLay0 = true ∧ PyData.eqv e d = true) (Classical.propDecidable _) = PyData.eqv e d := by
              cases z : PyData.eqv e d with
              | true => exact @decide_eq_true _ (Classical.propDecidable _) ⟨e, as, q, hc'.1, z⟩
              | false =>
                refine @decide_eq_false _ (Classical.propDecidable _) ?_
                rintro ⟨e2, as2, q2, hc2, z2⟩
                rw [SeqAt.Reads.unique e2 e u as2 as hc2 q2 q] at z2
                rw [z] at z2
                cases z2
            rw [List.any_cons, List.any_cons, ev, ih h2 r2 hc'.2]
    exact go h r hc
theorem op_inD {X : Cx} (hu : X.A.units + 64 < cLine) : OpR X (compareOp .In) (rInD X.K false) := by
  intro pins s σ H x y v u Q I rx ry h
  obtain ⟨p, xs, ds, d, rfl, hq, hds, hd, c1, c2, hz, q⟩ := h
  obtain rfl : u = Value.ref p := ry
  obtain ⟨bs, rd⟩ := Dp.reads I d x v hd rx
  rcases hq with hq | hq
  · obtain ⟨its, r, pl, hzz⟩ := I.list hq
    obtain ⟨f, h1, h2, _⟩ := dp_items I rd c1 hz hu hds r c2
    refine SeqAt.in_listAt f pl.isList (fun w hw => h1 w (by simpa using hw)) ⟨.bl _, H, I, ?_, q⟩
    show Value.bool _ = Value.bool _
    rw [List.any_toArray, h2]
    rfl
  · obtain ⟨its, r, pl, hzz⟩ := I.tuple hq
    obtain ⟨f, h1, h2, _⟩ := dp_items I rd c1 hz hu hds r c2
    refine SeqAt.in_tupleAt f pl (fun w hw => h1 w (by simpa using hw)) ⟨.bl _, H, I, ?_, q⟩
    show Value.bool _ = Value.bool _
    rw [List.any_toArray, h2]
    rfl
theorem op_notInD {X : Cx} (hu : X.A.units + 64 < cLine) : OpR X (compareOp .NotIn) (rInD X.K true) := by
  intro pins s σ H x y v u Q I rx ry h
  obtain ⟨p, xs, ds, d, rfl, hq, hds, hd, c1, c2, hz, q⟩ := h
  obtain rfl : u = Value.ref p := ry
  obtain ⟨bs, rd⟩ := Dp.reads I d x v hd rx
  rcases hq with hq | hq
  · obtain ⟨its, r, pl, hzz⟩ := I.list hq
    obtain ⟨f, h1, h2, _⟩ := dp_items I rd c1 hz hu hds r c2
    refine SeqAt.notIn_listAt f pl.isList (fun w hw => h1 w (by simpa using hw)) ⟨.bl _, H, I, ?_, q⟩
    show Value.bool _ = Value.bool _
    rw [List.any_toArray, h2]
    rfl
  · obtain ⟨its, r, pl, hzz⟩ := I.tuple hq
    obtain ⟨f, h1, h2, _⟩ := dp_items I rd c1 hz hu hds r c2
    refine SeqAt.notIn_tupleAt f pl (fun w hw => h1 w (by simpa using hw)) ⟨.bl _, H, I, ?_, q⟩
    show Value.bool _ = Value.bool _
    rw [List.any_toArray, h2]
    rfl
end SK
namespace SK
open PySem PySem.Spec PyProof.Rows L2 LamX NdefX
open K0 (De DeAll XCl spX withX)
def ThrownN (E : XK) (C : Addr) (H : Hp) (gs : List (Str × V)) (T : List (Addr × Str)) : Prop := ∀ (H' : Hp) (d : Addr), ExtN H H' → Tabs T H' → H' d = some (.xd gs) → E (.ref C) (some d) H'
mutual
theorem de_insN {K : PySem.W.Frag} {H H' : Hp} {x CT dx : Addr} {fs : List (Str × V)} (hx : H x = some (.ins CT dx fs)) (m : ∀ b o, b ≠ x → H b = some o → (∀ ps, o ≠ .tbl ps) → H' b = some o) : ∀ {d : PyData} {v : V}, De K H v d → De K H' v d
  | _, _, .non => .non
  | _, _, .bl b => .bl b
  | _, _, .int i => .int i
  | _, _, .str x => .str x
  | _, _, .lst ha hd => .lst (m _ _ (ne_of ha hx (by intro z; cases z)) ha fun ps z => nomatch z) (de_insNAll hx m hd)
  | _, _, .tup ha hd => .tup (m _ _ (ne_of ha hx (by intro z; cases z)) ha fun ps z => nomatch z) (de_insNAll hx m hd)
  | _, _, .dic ha => .dic (m _ _ (ne_of ha hx (by intro z; cases z)) ha fun ps z => nomatch z)
theorem de_insNAll {K : PySem.W.Frag} {H H' : Hp} {x CT dx : Addr} {fs : List (Str × V)} (hx : H x = some (.ins CT dx fs)) (m : ∀ b o, b ≠ x → H b = some o → (∀ ps, o ≠ .tbl ps) → H' b = some o) : ∀ {ds : List PyData} {vs : List V}, DeAll K H vs ds → DeAll K H' vs ds
  | _, _, .nil => .nil
  | _, _, .cons h1 h2 => .cons (de_insN hx m h1) (de_insNAll hx m h2)
end
end SK
namespace SK
open PySem PySem.Spec PyProof.Rows L2 LamX NdefX
open K0 (De DeAll XCl spX withX)
def isI : PyData → Bool
  | .int _ => true
  | _ => false
def okC : PyData → Bool
  | .int i => decide (0 ≤ i) && decide (i ≤ 2)
  | _ => false
theorem ty_bi {K : PySem.W.Frag} {H : Hp} {v : V} {d : PyData} (h : De K H v d) : ∃ T : String, TyX K H v (.type T) ∧ kitB T "bool" = some (isB d) ∧ kitB T "int" = some (isB d || isI d) := by
  cases h with
  | non => exact ⟨"NoneType", .base .non, (by show kitB "NoneType" "bool" = some false; decide +kernel), (by show kitB "NoneType" "int" = some false; decide +kernel)⟩
  | bl b => exact ⟨"bool", .base (.bl b), (by show kitB "bool" "bool" = some true; decide +kernel), (by show kitB "bool" "int" = some true; decide +kernel)⟩
  | int i => exact ⟨"int", .base (.int i), (by show kitB "int" "bool" = some false; decide +kernel), (by show kitB "int" "int" = some true; decide +kernel)⟩
  | str x => exact ⟨"str", .base (.str x), (by show kitB "str" "bool" = some false; decide +kernel), (by show kitB "str" "int" = some false; decide +kernel)⟩
  | lst ha hd => exact ⟨"list", .base (.lst ha), (by show kitB "list" "bool" = some false; decide +kernel), (by show kitB "list" "int" = some false; decide +kernel)⟩
  | tup ha hd => exact ⟨"tuple", .base (.tup ha), (by show kitB "tuple" "bool" = some false; decide +kernel), (by show kitB "tuple" "int" = some false; decide +kernel)⟩
  | dic ha => exact ⟨"dict", .base (.dK ha), (by show kitB "dict" "bool" = some false; decide +kernel), (by show kitB "dict" "int" = some false; decide +kernel)⟩
end SK
namespace SK
open PySem PySem.Spec PyProof.Rows L2 LamX NdefX
open K0 (De DeAll XCl spX withX)
theorem fls {b : Bool} (h : b = true) {A B : Prop} (k : B) : if (!b) = true then A else B := by
  rw [h]
  exact iteF k
theorem eqv_self {d : PyData} (h : SeqAt.shaped d = true) : PyData.eqv d d = true := SeqAt.eqv_refl d (SeqAt.canLay_of_shaped h)
theorem dp_strs {K : PySem.W.Frag} {H : Hp} : ∀ ws : List Str, DpAll K H (ws.map V.str) (ws.map PyData.str)
  | [] => .nil
  | w :: ws => .cons (.str w) (dp_strs ws)
theorem filt_true {α : Type} (l : List α) : l.filter (fun _ => true) = l := List.filter_eq_self.mpr fun _ _ => rfl
end SK
namespace SK
open PySem PySem.Spec PyProof.Rows L2 LamX NdefX
open K0 (De DeAll XCl spX withX)
section
variable {K : PySem.W.Frag} {a : Addr} {xs : List V} {g : TG} {tt : TT} {te : TE} {vs : List Nat} {σ : St} {H1 : Hp} {D : Addr} {Qd : Hp → Prop}
def TurnS (g : TG) (tt : TT) (te : TE) (vs : List Nat) (σ : St) (x y : V) (b : Bool) (H : Hp) : Prop :=
  ∀ (A : V → Hp → Prop) (B : Hp → Prop), (b = true → ∀ H', Same H H' → A y H') → (b = false → ∀ H', Same H H' → B H') → g x (wipe σ vs) H fun σ2 H2 => wipe σ2 vs = wipe σ vs ∧ tt σ2 H2 fun b H3 => if b = true then te σ2 H3 A else B H3
theorem lcS_list {α : Type} {ws : List α} (enc : α → V) (nD : H1 D = none) (f : α → V) (c : α → Bool) (hS : SqL K H1 a (ws.map enc)) (hz : ws.length < sizeLine) (step : ∀ (i : Nat) (x : α) (H : Hp), ws[i]? = some x → Same H1 H → TurnS g tt te vs σ (enc x) (f x) (c x) H)
    (fin : ∀ H, Same H1 H → H D = some (.lst ((ws.filter c).map f)) → Qd H) :
    ∃ W : Nat → Nat → Hp → Prop, (∃ m, W 0 m (upd H1 D (.lst []))) ∧ ∀ i m H, W i m H →
      ((Itl K a).stop i H ∧ Qd H) ∨ ((Itl K a).go i H ∧ ∃ Nx : Hp → Prop, (∀ H', Nx H' → ∃ m', m' < m ∧ W (i + 1) m' H') ∧ ∀ x H', (Itl K a).yld i H x H' → g x (wipe σ vs) H' fun σ2 H2 => wipe σ2 vs = wipe σ vs ∧ tt σ2 H2 fun b H3 =>
        if b = true then te σ2 H3 fun y H4 => ∃ acc, H4 D = some (.lst acc) ∧ acc.length < sizeLine ∧ Nx (upd H4 D (.lst (acc ++ [y]))) else Nx H3) := by
  refine lc_list (K := K) (a := a) (xs := ws.map enc) (fun i H => Same H1 H ∧ H D = some (.lst (((ws.take i).filter c).map f))) ⟨same_new nD, upd_same⟩ (fun i H _ p => Same.seq p.1 hS) (fun i x H hx p => ?_) fun H p => fin H p.1 (by rw [List.length_map, List.take_length] at p; exact p.2)
  obtain ⟨s, hD⟩ := p
  obtain ⟨y, hy, rfl⟩ := map_at hx
  refine step i y H hy s _ _ (fun hc H' s' => ⟨_, s' _ _ hD, Nat.lt_of_le_of_lt filt_len hz, same_upd nD (s.trans s'), ?_⟩) fun hc H' s' => ⟨s.trans s', ?_⟩
  · rw [filt_snoc hy, if_pos hc]
    exact upd_same
  · rw [filt_snoc hy, if_neg (by rw [hc]; simp), List.append_nil]
    exact s' _ _ hD
end
end SK
namespace SK
open PySem PySem.Spec PyProof.Rows L2 LamX NdefX
open K0 (De DeAll XCl spX withX)
def rEqE (K : PySem.W.Frag) : R2 := fun x y H Q => ∃ (a b : Addr) (xs : List V), x = .ref a ∧ y = .ref b ∧ SqL K H a xs ∧ SqL K H b [] ∧ Q (.bl xs.isEmpty) H
theorem op_eqE {X : Cx} (hu : X.A.units < cLine) : OpR X (compareOp .Eq) (rEqE X.K) := by
  intro pins s σ H x y v u Q I rx ry h
  obtain ⟨a, b, xs, rfl, rfl, h1, h2, q⟩ := h
  obtain rfl : v = Value.ref a := rx
  obtain rfl : u = Value.ref b := ry
  obtain ⟨its, r1, p1, z1⟩ := I.list h1
  obtain ⟨js, r2, p2, z2⟩ := I.list h2
  cases r2
  show wpAny (model X.prog X.w) X.A (richCompare .Eq (.ref a) (.ref b)) (EP X pins σ Q) X.xe s
  cases xs with
  | nil =>
    cases r1
    exact SeqAt.RcAt.lists (e := fun _ => true) p1.isList p2.isList rfl hu (fun j h1 h2 => absurd h1 (by simp)) X.prog X.w _ _ ⟨.bl true, H, I, rfl, q⟩
  | cons x0 xr =>
    cases r1 with
    | cons g1 g2 => exact SeqAt.RcAt.lists_lengths p1.isList p2.isList (by simp) hu X.prog X.w _ _ ⟨.bl false, H, I, rfl, q⟩
end SK
namespace SK
open PySem PySem.Spec PyProof.Rows L2 LamX NdefX
open K0 (De DeAll XCl spX withX)
theorem FunT.okG {P : Program} {w : World} {K : PySem.W.Frag} {mg : Str → Option Value} {base : Heap} {x qual : Str} {st : Stmt} {f c : Addr} {fd : FuncData} {N ps : List Str} {k : Nat} {sp : Sp} (F : FunT K x qual st f fd c) (S : FnScope N ps (defScope st)) (len : ∀ vs H Q E, sp vs H Q E → vs.length = ps.length)
    (hbody : ∀ (A : Around) (outer : List Env) (s : Shared) (H : Hp) (vs : List V) (Q : VK) (E : XK), (A.deeper (envOfC qual (defScope st) s.heap.objs.size f (.ref c))).guards = some [] → Room k (A.deeper (envOfC qual (defScope st) s.heap.objs.size f (.ref c))) → sp vs H Q E →
      ∃ t, PSs (cxOf CX0 P w K mg base N qual (defScope st) f (.ref c) A outer s H E).nox (defBody st) t ∧ t { nx := fun _ H' => Q .non H', rt := Q } (start N vs) H) : FnG P w K mg base CX0 (k + 1) f fd ps sp := by
  obtain ⟨oc, od, kV, doc, pm, an, ct, osl, rfl, lk, hcd⟩ := F.ex
  refine ⟨len, fun A outer s H args us vs Q E hg hr e0 hb r hsp => run_ofS lk hcd S hr e0 hb r (len _ _ _ _ hsp) fun hr' => ?_⟩
  obtain ⟨t, h, q⟩ := hbody A outer s H vs Q E hg hr' hsp
  exact ⟨t, h.nox, q⟩
theorem FunT.bindsT {K : PySem.W.Frag} {x qual : Str} {st : Stmt} {f c : Addr} {fd : FuncData} {ps : List Str} (F : FunT K x qual st f fd c)
    (h : ∀ (kV doc pm : Value) (an : Option Addr) (cdv ct : Value) (us : List Value), us.length = ps.length → bindArgs (PySem.W.fnOf x qual (defArgs st) (defBody st) (defScope st) .none kV doc pm an cdv ct) ⟨us, []⟩ = pure (ps.zip us)) : Binds K fd ps [] := by
  obtain ⟨oc, od, kV, doc, pm, an, ct, osl, e, lk, hcd⟩ := F.ex
  exact Fun.binds (f := f) ⟨⟨oc, od, kV, doc, pm, an, .ref c, ct, osl, e, lk, hcd⟩, F.kp⟩ h
end SK
namespace SK
open PySem PySem.Spec PyProof.Rows L2 LamX NdefX
/-- what is told of a class with own operators -/
structure Own (K : PySem.W.Frag) (C : Addr) : Prop where
  cd : ∃ cd rest, PySem.W.clsIn K C = some cd ∧ cd.mro = .ref C :: rest
  s1 : PySem.W.subIn K (.type "int") (.ref C) = some false
  s2 : PySem.W.subIn K (.ref C) (.type "int") = some false
  s3 : PySem.W.subIn K (.type "tuple") (.ref C) = some false
  sf : PySem.W.selfFirst K C = true
structure Has (K : PySem.W.Frag) (C : Addr) (m : Str) (f : Addr) : Prop where
  at_ : PySem.W.findIn K (.ref C) m = some (some (.ref f))
  fn : PySem.W.isFn K (.ref f) = true
/-- an instance -/
def Ins (C : Addr) (H : Hp) (x : V) : Prop := ∃ a dx fs, x = .ref a ∧ H a = some (.ins C dx fs)
section
variable {X : Cx} {CX : CXT} {k : Nat} {f g C : Addr} {fd : FuncData} {ps : List Str} {sp : Sp} {E : XK}
theorem inst_of {pins : List (Addr × Obj)} {s : Shared} {σ : St} {H : Hp} {x : V} {v : Value} (I : Inv X pins σ H s) (h : Ins C H x) (r : RelV x v) : ∃ a dx od, x = .ref a ∧ v = .ref a ∧ PySem.W.InstAt s.heap a (PySem.W.instObj C dx) C (some od) := by
  obtain ⟨a, dx, fs, rfl, ha⟩ := h
  obtain rfl : v = Value.ref a := r
  obtain ⟨mA, J, _⟩ := ins_get I.hok ha
  obtain ⟨od, J, _⟩ := J.look
  exact ⟨a, dx, od, rfl, rfl, J⟩
/-- a def's call in a nearer around -/
theorem run_at {A : Around} {pins : List (Addr × Obj)} {σ : St} {H : Hp} {s : Shared} {Q : VK} {us : List Value} {vs : List V} (F : FnOk X.prog X.w X.K X.mg X.base CX k f fd ps sp) (hr : Room k A) (e0 : Env0 X.prog X.w X.K X.mg X.base A X.stack s H) (hb : Binds X.K fd ps []) (hx : Passes CX X E)
    (I : Inv X pins σ H s) (r : Vals vs us) (h : sp vs H Q E) : wpAny (model X.prog X.w) A (call (.ref f) us) (EP X pins σ Q) X.xe s := by
  have hl : us.length = ps.length := by
    rw [← r.length]
    exact F.len _ _ _ _ h
  have b := hb s us I.kIn (by rw [List.append_nil]; exact hl)
  rw [List.append_nil] at b
  refine wpAny_call (codeAny_mono (F.run A X.stack s H ⟨us, []⟩ us vs Q E hr e0 b r h) fun r s' hq => ?_)
  cases r with
  | error e => exact hx pins σ H s e s' I hq
  | ok fl =>
    cases fl with
    | ret u => exact I.after hq
    | next => exact False.elim hq
    | brk => exact False.elim hq
    | cont => exact False.elim hq
theorem back_of {pins : List (Addr × Obj)} {σ : St} {Q : VK} {u : Value} {s' : Shared} (h : EP X pins σ Q u s') : PySem.W.CmpBack (EP X pins σ Q) u s' := by
  obtain ⟨v, H', I, r, q⟩ := h
  cases u with
  | notImplemented => cases v <;> first | (obtain ⟨_, z⟩ := r; cases z) | cases r
  | _ => exact ⟨v, H', I, r, q⟩
/-- one == y -/
theorem rc_own {op : CmpOp} (O : Own X.K C) (M : Has X.K C (cmpInfo op).2.1 f) (F : FnOk X.prog X.w X.K X.mg X.base CX k f fd ps sp) (hr : Room k X.A) (hb : Binds X.K fd ps []) (hx : Passes CX X E) {pins : List (Addr × Obj)} {s : Shared} {σ : St} {H : Hp} {x y : V} {v u : Value} {Q : VK} (I : Inv X pins σ H s) (rx : RelV x v) (ry : RelV y u)
    (hX : Ins C H x) (hY : Ins C H y ∨ (∃ j, y = .int j) ∨ ∃ t xs, y = .ref t ∧ SqT X.K H t xs) (q : sp [x, y] H Q E) : wpAny (model X.prog X.w) X.A (richCompare op v u) (EP X pins σ Q) X.xe s := by
  obtain ⟨a, dx, od, rfl, rfl, J⟩ := inst_of I hX rx
  obtain ⟨m, hF⟩ := I.fr
  have fin : wpAny (model X.prog X.w) X.A (call (.ref f) [.ref a, u]) (PySem.W.CmpBack (EP X pins σ Q)) X.xe s := wpAny_mono (run_at F hr I.env0 hb hx I (.cons rx (.cons ry .nil)) q) (fun _ _ h => back_of h) fun _ _ z => z
  rcases hY with hY | ⟨j, rfl⟩ | ⟨t, xs, rfl, hT⟩
  · obtain ⟨b, dy, od2, rfl, rfl, J2⟩ := inst_of I hY ry
    exact PySem.W.cmp_K (tb := .ref C) hr.units0 hF I.ok.mod.kin J J2.type (by simp [PySem.W.notFirst]) M.at_ M.fn fin
  · obtain ⟨t, rfl⟩ := ry
    exact PySem.W.cmp_K (tb := .type "int") hr.units0 hF I.ok.mod.kin J (fun A Q E s' k q => wpAny_typeOf (typeIs_int s' j t) q) (by unfold PySem.W.notFirst; rw [O.s1]; rfl) M.at_ M.fn fin
  · obtain rfl : u = Value.ref t := ry
    obtain ⟨its, rv, hl, hz⟩ := I.tuple hT
    obtain ⟨o, ho, hc, _⟩ := hl
    exact PySem.W.cmp_K (tb := .type "tuple") hr.units0 hF I.ok.mod.kin J (fun A Q E s' k q => wpAny_typeOf (T := "tuple") ⟨o, k _ _ ho, hc⟩ q) (by unfold PySem.W.notFirst; rw [O.s3]; rfl) M.at_ M.fn fin
theorem op_ownEq (O : Own X.K C) (M : Has X.K C "__eq__" f) (F : FnOk X.prog X.w X.K X.mg X.base CX k f fd ps sp) (hr : Room k X.A) (hb : Binds X.K fd ps []) (hx : Passes CX X E) :
    OpR X (compareOp .Eq) (fun x y H Q => Ins C H x ∧ (Ins C H y ∨ (∃ j, y = .int j) ∨ ∃ t xs, y = .ref t ∧ SqT X.K H t xs) ∧ sp [x, y] H Q E) := by
  intro pins s σ H x y v u Q I rx ry ⟨hX, hY, q⟩
  exact rc_own (op := .Eq) O M F hr hb hx I rx ry hX hY q
end
end SK
/-! ### one != other, by its __eq__ -/
namespace PySem.W
open PySem PySem.Calls PyProof.Rows Builtin
section
variable {prog : Program} {w : World} {A : Around} {E : Value → Shared → Prop} {s : Shared} {K : Frag} {x C f : Addr} {ox : Obj} {od : Option Obj}
theorem slot_ne : Slot "object" "__ne__" "object.__ne__" := .of (owner := "object") (n := "__ne__") (by rw [typeLookup_type, builtinLookup_eq_fast]; kernel_rfl) (by decide +kernel) (by decide +kernel) (by decide +kernel) (by decide +kernel) (by rw [isSubtype_type]; kernel_rfl)
theorem isInst_K {M : Model} {T : String} {Q : Bool → Shared → Prop} (X : K.In s.heap) (I : InstAt s.heap x ox C od) (h : subIn K (.ref C) (.type T) = some true) (q : Q true s) : wpAny M A (isInstance (.ref x) (.type T)) Q E s := by
  unfold isInstance
  exact wpAny_bind (I.type.here ((looks_subIn X h).here q))
theorem check_K {M : Model} {id owner n : String} {rest : List Value} {Q : Unit → Shared → Prop} (X : K.In s.heap) (I : InstAt s.heap x ox C od) (hk : builtinKind id = some .slot) (hs : splitId id = some (owner, n)) (h : subIn K (.ref C) (.type owner) = some true)
    (ha : argsOk id ⟨.ref x :: rest, []⟩) (q : Q () s) : wpAny M A (checkBuiltinCall id ⟨.ref x :: rest, []⟩) Q E s := by
  simp only [checkBuiltinCall, hk, hs]
  refine wpAny_bind (isInst_K X I h ?_)
  cases hsig : Manifest.signature? id with
  | none => exact wpAny_pure q
  | some sig =>
    simp only [argsOk, hsig] at ha
    have h2 : Bind.checkArgs id sig ⟨.ref x :: rest, []⟩ = pure () := ha
    show wpAny M A (Bind.checkArgs id sig ⟨.ref x :: rest, []⟩) Q E _
    rw [h2]
    exact wpAny_pure q
/-- what __eq__ gives, told the other way round -/
def NotOf (Q : Value → Shared → Prop) (v : Value) (s' : Shared) : Prop := ∃ b, v = .bool b ∧ Q (.bool (!b)) s'
theorem call_ne {b : Value} {Q : Value → Shared → Prop} (hu : A.in1.units < cLine) (X : K.In s.heap) (I : InstAt s.heap x ox C od) (ho : subIn K (.ref C) (.type "object") = some true) (hs : findIn K (.ref C) "__eq__" = some (some (.ref f))) (hf : isFn K (.ref f) = true)
    (h : wpAny (model prog w) A.in1 (call (.ref f) [.ref x, b]) (NotOf Q) E s) : wpAny (model prog w) A (call (.builtin "object.__ne__") [.ref x, b]) Q E s := by
  refine wpAny_call (codeAny_call_builtin slot_ne.plain F.cmpEntry_ne (check_K X I F.cmpKind_ne F.cmpSplit_ne ho (F.cmpArgs_ne _ _) ?_))
  unfold Builtin.«object.__ne__»
  refine wpAny_bind (m := slotArgs "__ne__" 1 _) (wpAny_pure ?_)
  refine wpAny_bind (wpAny_cRoomFor hu ?_)
  refine wpAny_bind (ifBound_K X I hs hf (wpAny_mono h (fun v s' hv => ?_) fun _ _ e => e))
  obtain ⟨c, rfl, q⟩ := hv
  exact wpAny_bind (wpAny_truthy_bool (wpAny_pure q))
theorem ne_K {b tb : Value} {Q : Value → Shared → Prop} (hu : A.in1.units < cLine) (X : K.In s.heap) (I : InstAt s.heap x ox C od) (hb : Looks (model prog w) s.heap (typeOf b) tb) (hn : notFirst K C tb = true) (hne : findIn K (.ref C) "__ne__" = some (some (.builtin "object.__ne__")))
    (ho : subIn K (.ref C) (.type "object") = some true) (hs : findIn K (.ref C) "__eq__" = some (some (.ref f))) (hf : isFn K (.ref f) = true)
    (h : wpAny (model prog w) A.in1 (call (.ref f) [.ref x, b]) (NotOf Q) E s) : wpAny (model prog w) A (richCompare .NotEq (.ref x) b) Q E s := by
  have hu0 : A.units < cLine := by
    have z : A.units + 1 < cLine := hu
    omega
  have back : wpAny (model prog w) A (call (.builtin "object.__ne__") [.ref x, b]) (fun v s' => ∃ c, v = .bool c ∧ Q v s') E s := call_ne (Q := fun v s' => ∃ c, v = .bool c ∧ Q v s') hu X I ho hs hf (wpAny_mono h (fun v s' hv => by
    obtain ⟨c, e, q⟩ := hv
    exact ⟨c, e, _, rfl, q⟩) fun _ _ e => e)
  have one : wpAny (model prog w) A (tryCompare (.ref x) "__ne__" b) (fun r s' => ∃ v, r = some v ∧ Q v s') E s := by
    unfold tryCompare
    simp only [callSpecialIfBound?, bindSpecialIfBound?]
    refine wpAny_bind (wpAny_holding (wpAny_bind (wpAny_bind (wpAny_bind (I.type.here ((looks_findIn X hne).here ?_))))))
    refine wpAny_bind (wpAny_askSetting (wpAny_ite ?_))
    have fin : wpAny (model prog w) A (call (.builtin "object.__ne__") ([.ref x] ++ [b]) >>= fun v => pure (some v)) (fun a s' => wpAny (model prog w) A (match a with
      | some .notImplemented | none => pure none
      | some v => pure (some v)) (fun r s' => ∃ v, r = some v ∧ Q v s') E s') E s := wpAny_bind (wpAny_mono back (fun v s' h' => by
        obtain ⟨c, rfl, q⟩ := h'
        exact wpAny_pure (wpAny_pure ⟨_, rfl, q⟩)) fun _ _ e => e)
    rw [slot_ne.bind]
    split
    · exact wpAny_bind (wpAny_pure (wpAny_pure fin))
    · exact wpAny_tryCatch (wpAny_bind (wpAny_pure (wpAny_pure fin)))
  unfold richCompare
  simp only [oneThing_ref]
  refine wpAny_holding (wpAny_bind (wpAny_cRoomFor hu0 ?_))
  refine wpAny_bind (I.type.here (wpAny_bind (hb.here ?_)))
  split
  · rename_i q
    have e : subIn K tb (.ref C) = some false := by
      rcases Bool.or_eq_true_iff.mp hn with e | e
      · rw [beq_iff_eq.mp e] at q; simp at q
      · exact beq_iff_eq.mp e
    refine wpAny_bind ((looks_subIn X e).here ?_)
    simp only [Bool.false_eq_true, if_false]
    exact wpAny_bind (wpAny_mono one (fun r s' z => by obtain ⟨v, rfl, hq⟩ := z; exact wpAny_pure hq) fun _ _ e => e)
  · refine wpAny_bind (wpAny_pure ?_)
    simp only [Bool.false_eq_true, if_false]
    exact wpAny_bind (wpAny_mono one (fun r s' z => by obtain ⟨v, rfl, hq⟩ := z; exact wpAny_pure hq) fun _ _ e => e)
end
end PySem.W
namespace SK
open PySem PySem.Spec PyProof.Rows L2 LamX NdefX
section
variable {X : Cx} {CX : CXT} {k : Nat} {f C : Addr} {fd : FuncData} {ps : List Str} {sp : Sp} {E : XK}
theorem op_ownNe (O : Own X.K C) (hne : PySem.W.findIn X.K (.ref C) "__ne__" = some (some (.builtin "object.__ne__"))) (ho : PySem.W.subIn X.K (.ref C) (.type "object") = some true) (M : Has X.K C "__eq__" f) (F : FnOk X.prog X.w X.K X.mg X.base CX k f fd ps sp) (hr : Room (k + 1) X.A) (hb : Binds X.K fd ps []) (hx : Passes CX X E) :
    OpR X (compareOp .NotEq) (fun x y H Q => Ins C H x ∧ Ins C H y ∧ sp [x, y] H (fun v H' => ∃ b, v = .bl b ∧ Q (.bl (!b)) H') E) := by
  intro pins s σ H x y v u Q I rx ry ⟨hX, hY, q⟩
  obtain ⟨a, dx, od, rfl, rfl, J⟩ := inst_of I hX rx
  obtain ⟨b, dy, od2, rfl, rfl, J2⟩ := inst_of I hY ry
  show wpAny (model X.prog X.w) X.A (richCompare .NotEq (.ref a) (.ref b)) (EP X pins σ Q) X.xe s
  refine PySem.W.ne_K (tb := .ref C) hr.in1.units0 I.kIn J J2.type (by simp [PySem.W.notFirst]) hne ho M.at_ M.fn ?_
  refine wpAny_mono (run_at F hr.in1 I.env0.in1 hb hx I (.cons rx (.cons ry .nil)) q) (fun v s' h => ?_) fun _ _ z => z
  obtain ⟨v1, H', I', r1, b1, rfl, q1⟩ := h
  obtain rfl : v = Value.bool b1 := r1
  exact ⟨b1, rfl, .bl (!b1), H', I', rfl, q1⟩
end
end SK
namespace SK
open PySem PySem.Spec PyProof.Rows L2 LamX NdefX
open K0 (De DeAll XCl spX withX)
/-! ### the pen -/
def pen (l : Addr) (k lf : Int) : List (Key × V) := [(Sum.inr "cells", V.ref l), (Sum.inr "opened", V.int k), (Sum.inr "left", V.int lf)]
theorem pen_cells (l : Addr) (k lf : Int) : valV (pen l k lf) (Sum.inr "cells") = some (.ref l) := by kernel_rfl
theorem pen_opened (l : Addr) (k lf : Int) : valV (pen l k lf) (Sum.inr "opened") = some (.int k) := by kernel_rfl
theorem pen_left (l : Addr) (k lf : Int) : valV (pen l k lf) (Sum.inr "left") = some (.int lf) := by kernel_rfl
theorem pen_put_opened (l : Addr) (k lf j : Int) : putK (pen l k lf) (Sum.inr "opened") (.int j) = pen l j lf := by kernel_rfl
theorem pen_put_left (l : Addr) (k lf j : Int) : putK (pen l k lf) (Sum.inr "left") (.int j) = pen l k j := by kernel_rfl
theorem pen_merge (l : Addr) (k lf : Int) : mergeK [] (pen l k lf) = pen l k lf := by kernel_rfl
structure PenAt (H : Hp) (p l : Addr) (ns : List Int) (k lf : Int) : Prop where
  dc : H p = some (.dK (pen l k lf))
  ls : H l = some (.lst (ns.map V.int))
/-- all but p is as it was -/
def SameBut (p : Addr) (H H' : Hp) : Prop := ∀ b o, b ≠ p → H b = some o → H' b = some o
theorem SameBut.trans {p : Addr} {H H1 H2 : Hp} (a : SameBut p H H1) (b : SameBut p H1 H2) : SameBut p H H2 := fun c o n h => b c o n (a c o n h)
theorem SameBut.of {p : Addr} {H H' : Hp} (a : Same H H') : SameBut p H H' := fun c o _ h => a c o h
theorem cut63 {ns : List Int} (h : ns.length ≤ 63) : cutV (ns.map V.int) none (some 63) = ns.map V.int := by
  unfold cutV
  rw [HT.sIx_none, show ((63 : Int)) = ((63 : Nat) : Int) from rfl, HT.sIx_nat, List.drop_zero, List.length_map, Nat.min_eq_right h, Nat.sub_zero, List.take_of_length_le (by rw [List.length_map]; exact Nat.le_refl _)]
def spPen (K : PySem.W.Frag) : Sp := fun vs H Q _ => ∃ (a : Addr) (ns : List Int), vs = [.ref a] ∧ SqL K H a (ns.map V.int) ∧ ns.length ≤ 63 ∧ ∀ (H' : Hp) (p l : Addr), Same H H' → PenAt H' p l ns 0 0 → Q (.ref p) H'
section
variable {P : Program} {w : World} {K : PySem.W.Frag} {mg : Str → Option Value} {base : Heap} {f : Addr} {fd : FuncData}
theorem scPen : FnScope ["script"] ["script"] (defScope (top 51)) := ⟨rfl, rfl, rfl, by decide +kernel, rfl, by decide +kernel, by decide +kernel⟩
theorem ok_pen (F : Fun K "_law_pen" "_law_pen" (top 51) f fd) (gL : mg "list" = none) : FnOk P w K mg base CX0 1 f fd ["script"] (spPen K) := by
  refine F.ok scPen (fun vs H Q E h => ?_) (fun cdv A outer s H vs Q E hr h => ?_)
  · obtain ⟨a, ns, rfl, _⟩ := h
    rfl
  · obtain ⟨a, ns, rfl, hS, hn, k⟩ := h
    refine ⟨_, pss_one (ps_ret (pe_disp (pps_cons pe_str (pe_callTy call_list_of (by rfl) gL PyProof.Rows.boot_list (pa_cons (pe_slice sl_list (pv 0) po_none (po_some pe_int)) pa_nil)) (pps_cons pe_str pe_int (pps_cons pe_str pe_int pps_nil))) rfl rfl (by simp) (by decide))), ?_⟩
    intro p hp
    refine ⟨_, rfl, 63, rfl, a, ns.map V.int, rfl, ?_, fun q hq => ?_⟩
    · exact Same.seq (fun b o e => by rw [upd_ne (ne_of_none e hp)]; exact e) hS
    rw [cut63 hn]
    refine ⟨q, ns.map V.int, rfl, .inl (.inl (.inl upd_same)), fun l hl => ?_⟩
    have npq : p ≠ q := ne_of_none (H := upd H p (.dK [])) upd_same hq
    have npl : p ≠ l := ne_of_none (H := upd (upd H p (.dK [])) q (.lst (ns.map V.int))) (by rw [upd_ne npq, upd_same]) hl
    refine ⟨by rw [upd_ne npl, upd_ne npq, upd_same], pen l 0 0, rfl, (by show 3 ≤ 15; decide), ?_⟩
    rw [pen_merge]
    refine k _ p l (fun b o e => ?_) ⟨upd_same, ?_⟩
    · have n1 : b ≠ p := ne_of_none e hp
      have e1 : upd H p (.dK []) b = some o := by rw [upd_ne n1]; exact e
      have n2 : b ≠ q := ne_of_none e1 hq
      have e2 : upd (upd H p (.dK [])) q (.lst (ns.map V.int)) b = some o := by rw [upd_ne n2]; exact e1
      have n3 : b ≠ l := ne_of_none e2 hl
      rw [upd_ne n1, upd_ne n3]
      exact e2
    · rw [upd_ne npl.symm, upd_same]
theorem upd_but {p : Addr} {o : HO} (H : Hp) : SameBut p H (upd H p o) := fun c u n h => by
  rw [upd_ne n]
  exact h
/-- the draw: a number below the base; the pen's numbers may change -/
def spDraw : Sp := fun vs H Q _ => ∃ (p l : Addr) (ns : List Int) (k lf b : Int), vs = [.ref p, .int b] ∧ PenAt H p l ns k lf ∧ ns.length ≤ 63 ∧ 0 ≤ k ∧ k ≤ 100000 ∧ 0 ≤ lf ∧ 0 < b ∧ b ≤ 1000 ∧
  ∀ (H' : Hp) (k' lf' d : Int), k' ≤ k + 1 → 0 ≤ k' → 0 ≤ lf' → 0 ≤ d → d < b → SameBut p H H' → PenAt H' p l ns k' lf' → Q (.int d) H'
theorem scD : FnScope ["pen", "many", "digit", "k", "told_cells", "cell", "mix"] ["pen", "many"] (defScope (top 52)) := ⟨rfl, rfl, rfl, by decide +kernel, rfl, by decide +kernel, by decide +kernel⟩
theorem ok_draw (F : Fun K "_law_draw" "_law_draw" (top 52) f fd) (gI : mg "int" = none) (gN : mg "len" = none) (gA : mg "abs" = none) : FnOk P w K mg base CX0 1 f fd ["pen", "many"] spDraw := by
  refine F.ok scD (fun vs H Q E h => ?_) (fun cdv A outer s H vs Q E hr h => ?_)
  · obtain ⟨p, l, ns, k, lf, b, rfl, _⟩ := h
    rfl
  · obtain ⟨p, l, ns, k, lf, b, rfl, ⟨hd, hl⟩, hn, hk0, hk1, hf, hb0, hb1, kk⟩ := h
    have hu := hu_of hr
    have hu64 := hr.units
    have hu1 : _ < cLine := Nat.lt_of_le_of_lt (Nat.le_add_right _ 64) hr.units
    refine ⟨_, (pss_cons (ps_if (pt_cmpR op_gt (pe_dget hu (pv 0) pe_str (fun _ _ => rfl)) pe_int (nomark _)) (pss_cons (ps_set (i := 2) scD.nd rfl (Or.inl rfl) (pe_op op_mod (pe_callTy call_int1 (by rfl) gI PyProof.Rows.boot_int (pa_cons (pe_dget hu (pv 0) pe_str (fun _ _ => rfl)) pa_nil)) (pv 1)))
        (pss_cons (ps_dput hu (pv 0) pe_str (pe_op op_fdiv (pe_dget hu (pv 0) pe_str (fun _ _ => rfl)) (pv 1)) rfl)
        (pss_one (ps_ret (pv 2))))) pss_nil)
        (pss_cons (ps_par (i := 3) (j := 4) rfl scD.nd rfl rfl (by decide) rfl rfl (pa_cons (pe_dget hu (pv 0) pe_str (fun _ _ => rfl)) (pa_cons (pe_dget hu (pv 0) pe_str (fun _ _ => rfl)) pa_nil)) rfl)
        (pss_cons (ps_dput hu (pv 0) pe_str (pe_op op_add (pv 3) pe_int) rfl)
        (pss_cons (ps_if (pt_cmpR (op_eqE hu1) (pv 4) (pe_lst pa_nil) (nomark _)) (pss_one (ps_ret (pe_op op_mod (pe_callTy call_int1 (by rfl) gI PyProof.Rows.boot_int (pa_cons (pe_op op_add (pe_op op_mul pe_int (pv 3)) pe_int) pa_nil)) (pv 1)))) pss_nil)
        (pss_cons (ps_set (i := 5) scD.nd rfl (Or.inl rfl) (pe_ix ix_list (pv 4) (pe_op op_mod (pe_callTy call_int1 (by rfl) gI PyProof.Rows.boot_int (pa_cons (pv 3) pa_nil)) (pe_callB call_len_seq (by rfl) gN PySem.boot_len (pa_cons (pv 4) pa_nil))) (fun _ _ => rfl)))
        (pss_cons (ps_if (PW.pt (pw_and (pt_cmpR op_lt (pv 3) (pe_callB call_len_seq (by rfl) gN PySem.boot_len (pa_cons (pv 4) pa_nil)) (nomark _)) (pw_and1 (pt_cmpR op_ge (pe_callB call_abs (by rfl) gA PyProof.Rows.boot_abs (pa_cons (pv 5) pa_nil)) (pe_op op_pow pe_int pe_int) (nomark _))))) (pss_cons (ps_dput hu (pv 0) pe_str (pe_op op_fdiv (pe_op op_sub (pe_callB call_abs (by rfl) gA PyProof.Rows.boot_abs (pa_cons (pv 5) pa_nil)) (pe_op op_pow pe_int pe_int)) (pv 1)) rfl)
        (pss_one (ps_ret (pe_op op_mod (pe_callTy call_int1 (by rfl) gI PyProof.Rows.boot_int (pa_cons (pe_op op_sub (pe_callB call_abs (by rfl) gA PyProof.Rows.boot_abs (pa_cons (pv 5) pa_nil)) (pe_op op_pow pe_int pe_int)) pa_nil)) (pv 1))))) pss_nil)
        (pss_cons (ps_set (i := 6) scD.nd rfl (Or.inl rfl) (pe_op op_mod (pe_callTy call_int1 (by rfl) gI PyProof.Rows.boot_int (pa_cons (pe_op op_add (pe_op op_add (pe_op op_add (pe_op op_mul (pe_op op_mod (pe_callTy call_int1 (by rfl) gI PyProof.Rows.boot_int (pa_cons (pv 5) pa_nil)) pe_int) pe_int) (pe_op op_mul (pe_op op_mul pe_int (pv 3)) (pv 3))) (pe_op op_mul pe_int (pv 3))) pe_int) pa_nil)) pe_int))
        (pss_cons (ps_set (i := 6) scD.nd rfl (Or.inl rfl) (pe_op op_mod (pe_callTy call_int1 (by rfl) gI PyProof.Rows.boot_int (pa_cons (pe_op op_add (pe_op op_add (pe_op op_mul (pv 6) (pv 6)) (pe_op op_mul pe_int (pv 6))) (pe_op op_mul pe_int (pv 3))) pa_nil)) pe_int))
        (pss_one (ps_ret (pe_op op_mod (pe_callTy call_int1 (by rfl) gI PyProof.Rows.boot_int (pa_cons (pe_op op_fdiv (pe_op op_mod (pe_callTy call_int1 (by rfl) gI PyProof.Rows.boot_int (pa_cons (pe_op op_mul (pv 6) (pe_op op_add (pv 6) pe_int)) pa_nil)) pe_int) pe_int) pa_nil)) (pv 1)))))))))))), ?_⟩
    have npl : p ≠ l := ne_of hd hl (by intro z; cases z)
    have gL : DGet H p (.str "left") (some (.int lf)) := by
      have z := DGet.k (k := Sum.inr "left") hd
      rw [pen_left] at z
      exact z
    have gO : DGet H p (.str "opened") (some (.int k)) := by
      have z := DGet.k (k := Sum.inr "opened") hd
      rw [pen_opened] at z
      exact z
    have gC : DGet H p (.str "cells") (some (.ref l)) := by
      have z := DGet.k (k := Sum.inr "cells") hd
      rw [pen_cells] at z
      exact z
    have hlen : (ns.map V.int).length = ns.length := List.length_map _
    refine ⟨V.ref p, rfl, p, V.int lf, rfl, gL, lf, 0, rfl, rfl, _, rfl, ?_⟩
    refine ite2 (fun c => ?_) (fun c => ?_)
    · have c' : 0 < lf := of_decide_eq_true c
      refine ⟨V.ref p, rfl, p, V.int lf, rfl, gL, .inl ⟨lf, rfl, V.int b, rfl, lf, b, rfl, rfl, hb0, ?_⟩⟩
      refine ⟨V.ref p, rfl, p, V.int lf, rfl, gL, V.int b, rfl, lf, b, rfl, rfl, ⟨hb0, by omega⟩, V.ref p, rfl, p, _, rfl, DPut.k (k := Sum.inr "left") hd (by show 3 < sizeLine; decide), V.int (lf % b), rfl, ?_⟩
      rw [pen_put_left]
      exact kk _ k (lf / b) (lf % b) (by omega) hk0 (Int.ediv_nonneg hf (Int.le_of_lt hb0)) (Int.emod_nonneg _ (by omega)) (Int.emod_lt_of_pos _ hb0) (upd_but H) ⟨upd_same, by rw [upd_ne npl.symm]; exact hl⟩
    · refine ⟨V.ref p, rfl, p, V.int k, rfl, gO, V.ref p, rfl, p, V.ref l, rfl, gC, V.int k, V.ref l, rfl, ?_⟩
      refine ⟨V.int k, rfl, k, 1, rfl, rfl, V.ref p, rfl, p, _, rfl, DPut.k (k := Sum.inr "opened") hd (by show 3 < sizeLine; decide), ?_⟩
      rw [pen_put_opened]
      have s1 : SameBut p H (upd H p (.dK (pen l (k + 1) lf))) := upd_but H
      have hd1 : upd H p (.dK (pen l (k + 1) lf)) p = some (.dK (pen l (k + 1) lf)) := upd_same
      have hl1 : upd H p (.dK (pen l (k + 1) lf)) l = some (.lst (ns.map V.int)) := by
        rw [upd_ne npl.symm]
        exact hl
      generalize upd H p (.dK (pen l (k + 1) lf)) = H2 at s1 hd1 hl1
      refine ⟨V.ref l, rfl, Nat.zero_le _, fun q nq => ?_⟩
      have sq := upd_new (o := .lst []) nq
      have hq : upd H2 q (.lst []) q = some (.lst []) := upd_same
      have npq : q ≠ p := fun z => by rw [z, hd1] at nq; cases nq
      have s1 := s1.trans (SameBut.of (p := p) sq)
      have hd1 := sq _ _ hd1
      have hl1 := sq _ _ hl1
      generalize upd H2 q (.lst []) = H2 at s1 hd1 hl1 hq
      have S2 : SqL K H2 l (ns.map V.int) := .inl (.inl hl1)
      refine ⟨l, q, ns.map V.int, rfl, rfl, S2, .inl (.inl hq), _, rfl, ?_⟩
      cases hns : (ns.map V.int).isEmpty with
      | true =>
        refine iteT ⟨V.int k, rfl, 7, k, rfl, rfl, .inl ⟨by decide, by decide⟩, _, 3, rfl, rfl, .inl ⟨_, rfl, V.int b, rfl, _, b, rfl, rfl, hb0, ?_⟩⟩
        exact kk H2 (k + 1) lf _ (Int.le_refl _) (by omega) hf (Int.emod_nonneg _ (by omega)) (Int.emod_lt_of_pos _ hb0) s1 ⟨hd1, hl1⟩
      | false =>
      refine iteF ?_
      have hne : 0 < ns.length := by
        cases ns with
        | nil => cases hns
        | cons a b => exact Nat.succ_pos _
      have hne2 : 0 < (ns.map V.int).length := by rw [hlen]; exact hne
      have hi0 : 0 ≤ k % ((ns.map V.int).length : Int) := Int.emod_nonneg _ (by omega)
      have hi1 : k % ((ns.map V.int).length : Int) < ((ns.map V.int).length : Int) := Int.emod_lt_of_pos _ (by omega)
      obtain ⟨j, hj⟩ : ∃ j : Nat, k % ((ns.map V.int).length : Int) = (j : Int) := ⟨(k % ((ns.map V.int).length : Int)).toNat, (Int.toNat_of_nonneg hi0).symm⟩
      obtain ⟨c, hc⟩ : ∃ c, ns[j]? = some c := ⟨_, List.getElem?_eq_getElem (by omega)⟩
      have hcV : (ns.map V.int)[j]? = some (.int c) := by
        rw [List.getElem?_map, hc]
        all_goals rfl
      refine ⟨V.ref l, rfl, V.int k, rfl, .inl ⟨k, rfl, V.ref l, rfl, l, ns.map V.int, rfl, .inl (.inl (.inl hl1)), k, _, rfl, rfl, (by omega), l, ns.map V.int, _, .int c, rfl, rfl, S2, at_of hj hcV, ?_⟩⟩
      refine ⟨V.int k, rfl, V.ref l, rfl, l, ns.map V.int, rfl, .inl (.inl (.inl hl1)), k, _, rfl, rfl, _, rfl, ?_⟩
      refine ite2 (fun c3 => ?_) (fun c3 => iteF ?_)
      refine ⟨V.int c, rfl, c, rfl, 10, 18, rfl, rfl, ⟨by decide, by decide, by decide⟩, _, _, rfl, rfl, _, rfl, ?_⟩
      refine ite2 (fun c4 => ?_) (fun c4 => ?_)
      · have c4' := of_decide_eq_true c4
        refine ⟨V.int c, rfl, c, rfl, 10, 18, rfl, rfl, ⟨by decide, by decide, by decide⟩, _, _, rfl, rfl, V.int b, rfl, _, b, rfl, rfl, ⟨hb0, by omega⟩, V.ref p, rfl, p, _, rfl, DPut.k (k := Sum.inr "left") hd1 (by show 3 < sizeLine; decide), ?_⟩
        rw [pen_put_left]
        refine ⟨V.int c, rfl, c, rfl, 10, 18, rfl, rfl, ⟨by decide, by decide, by decide⟩, _, _, rfl, rfl, .inl ⟨_, rfl, V.int b, rfl, _, b, rfl, rfl, hb0, ?_⟩⟩
        exact kk _ (k + 1) _ _ (Int.le_refl _) (by omega) (Int.ediv_nonneg (by omega) (Int.le_of_lt hb0)) (Int.emod_nonneg _ (by omega)) (Int.emod_lt_of_pos _ hb0) (s1.trans (upd_but H2)) ⟨upd_same, by rw [upd_ne npl.symm]; exact hl1⟩
      all_goals
        refine ⟨V.int c, rfl, .inl ⟨c, rfl, c, 4294965361, rfl, rfl, (by show (0 : Int) < 4294965361; decide), _, 41903, rfl, rfl, .inr ⟨by decide, by decide⟩, ?_⟩⟩
        refine ⟨V.int k, rfl, 27011, k, rfl, rfl, .inl ⟨by decide, by decide⟩, V.int k, rfl, _, k, rfl, rfl, .inr ⟨by omega, by omega⟩, _, _, rfl, rfl, V.int k, rfl, 853, k, rfl, rfl, .inl ⟨by decide, by decide⟩, _, _, rfl, rfl, _, 71, rfl, rfl, .inl ⟨_, rfl, _, 4294965383, rfl, rfl, (by show (0 : Int) < 4294965383; decide), ?_⟩⟩
        dsimp only
        have a0 : 0 ≤ (c % 4294965361 * 41903 + 27011 * k * k + 853 * k + 71) % 4294965383 := Int.emod_nonneg _ (by decide)
        have a1 : (c % 4294965361 * 41903 + 27011 * k * k + 853 * k + 71) % 4294965383 < 4294965383 := Int.emod_lt_of_pos _ (by decide)
        generalize (c % 4294965361 * 41903 + 27011 * k * k + 853 * k + 71) % 4294965383 = m at a0 a1
        refine ⟨V.int m, rfl, V.int m, rfl, m, m, rfl, rfl, .inl ⟨by omega, by omega⟩, V.int m, rfl, 40213, m, rfl, rfl, .inl ⟨by decide, by decide⟩, _, _, rfl, rfl, V.int k, rfl, 37, k, rfl, rfl, .inl ⟨by decide, by decide⟩, _, _, rfl, rfl, .inl ⟨_, rfl, _, 4294965337, rfl, rfl, (by show (0 : Int) < 4294965337; decide), ?_⟩⟩
        dsimp only
        have b0' : 0 ≤ (m * m + 40213 * m + 37 * k) % 4294965337 := Int.emod_nonneg _ (by decide)
        have b1' : (m * m + 40213 * m + 37 * k) % 4294965337 < 4294965337 := Int.emod_lt_of_pos _ (by decide)
        generalize (m * m + 40213 * m + 37 * k) % 4294965337 = u at b0' b1'
        refine ⟨V.int u, rfl, V.int u, rfl, u, 60317, rfl, rfl, u, _, rfl, rfl, .inl ⟨by omega, by omega⟩, .inl ⟨_, rfl, _, 4294965313, rfl, rfl, (by show (0 : Int) < 4294965313; decide), _, 128, rfl, rfl, ⟨by decide, by decide⟩, .inl ⟨_, rfl, V.int b, rfl, _, b, rfl, rfl, hb0, ?_⟩⟩⟩
        exact kk H2 (k + 1) lf _ (Int.le_refl _) (by omega) hf (Int.emod_nonneg _ (by omega)) (Int.emod_lt_of_pos _ hb0) s1 ⟨hd1, hl1⟩
end
def spPick : Sp := fun vs H Q _ => ∃ (p l : Addr) (v : V) (ns : List Int) (k lf : Int) (xs : List V), vs = [.ref p, v] ∧ PenAt H p l ns k lf ∧ ns.length ≤ 63 ∧ 0 ≤ k ∧ k ≤ 100000 ∧ 0 ≤ lf ∧ Items H v xs ∧ 0 < xs.length ∧ xs.length ≤ 1000 ∧
  ∀ (H' : Hp) (k' lf' : Int) (y : V), k' ≤ k + 1 → 0 ≤ k' → 0 ≤ lf' → y ∈ xs → SameBut p H H' → PenAt H' p l ns k' lf' → Q y H'
section
variable {P : Program} {w : World} {K : PySem.W.Frag} {mg : Str → Option Value} {base : Heap} {f fD fP : Addr} {fd fdD fdP : FuncData}
theorem sc28 : FnScope ["pen", "some"] ["pen", "some"] (defScope (top 53)) := ⟨rfl, rfl, rfl, by decide +kernel, rfl, by decide +kernel, by decide +kernel⟩
theorem ok_pick (F : Fun K "_law_pick" "_law_pick" (top 53) f fd) (gN : mg "len" = none) (gD : mg "_law_draw" = some (.ref fD)) (kD : PySem.W.keepIn K (.ref fD) = true) (GD : FnOk P w K mg base CX0 1 fD fdD ["pen", "many"] spDraw)
    (bD : Binds K fdD ["pen", "many"] []) : FnOk P w K mg base CX0 2 f fd ["pen", "some"] spPick := by
  refine F.ok sc28 (fun vs H Q E h => ?_) (fun cdv A outer s H vs Q E hr h => ?_)
  · obtain ⟨p, l, v, ns, k, lf, xs, rfl, _⟩ := h
    rfl
  · obtain ⟨p, l, v, ns, k, lf, xs, rfl, hp, hn, hk0, hk1, hf, hv, h0, h1, kk⟩ := h
    refine ⟨_, pss_one (ps_ret (pe_ix (IxR.or ix_list ix_str) (pv 1) (pe_call GD hr (by rfl) gD kD bD .nil pass0 (pa_cons (pv 0) (pa_cons (pe_callB (CallR.or call_len_seq call_len_str) (by rfl) gN PySem.boot_len (pa_cons (pv 1) pa_nil)) pa_nil))) (fun _ _ => rfl))), ?_⟩
    rcases hv with ⟨a, rfl, ha⟩ | ⟨z, rfl, rfl⟩
    · have nap : a ≠ p := ne_of ha hp.dc (by intro z; cases z)
      refine ⟨V.ref a, rfl, V.ref p, rfl, V.ref a, rfl, .inl ⟨a, xs, rfl, .inl (.inl (.inl ha)), p, l, ns, k, lf, _, rfl, hp, hn, hk0, hk1, hf, by omega, by omega, fun H' k' lf' d e1 e2 e3 e4 e5 s5 P5 => ?_⟩⟩
      obtain ⟨j, hj⟩ : ∃ j : Nat, d = (j : Int) := ⟨d.toNat, (Int.toNat_of_nonneg e4).symm⟩
      obtain ⟨v, hv⟩ : ∃ v, xs[j]? = some v := ⟨_, List.getElem?_eq_getElem (by omega)⟩
      exact .inl ⟨a, xs, d, v, rfl, rfl, .inl (.inl (s5 _ _ nap ha)), at_of hj hv, kk H' k' lf' v e1 e2 e3 (List.mem_of_getElem? hv) s5 P5⟩
    · rw [List.length_map] at h0 h1
      have ez : z.length = z.cps.toList.length := by rw [Array.length_toList]; rfl
      have hz : z.length ≤ sizeLine := by
        have t : (1000 : Nat) < sizeLine := by decide
        omega
      refine ⟨V.str z, rfl, V.ref p, rfl, V.str z, rfl, .inr ⟨z, rfl, hz, p, l, ns, k, lf, _, rfl, hp, hn, hk0, hk1, hf, by omega, by omega, fun H' k' lf' d e1 e2 e3 e4 e5 s5 P5 => ?_⟩⟩
      obtain ⟨j, hj⟩ : ∃ j : Nat, d = (j : Int) := ⟨d.toNat, (Int.toNat_of_nonneg e4).symm⟩
      obtain ⟨c, hc⟩ : ∃ c, z.cps.toList[j]? = some c := ⟨_, List.getElem?_eq_getElem (by omega)⟩
      exact .inr ⟨z, d, c, rfl, rfl, hz, (by rw [hj]; exact atI_nat hc), kk H' k' lf' _ e1 e2 e3 (List.mem_map.mpr ⟨c, List.mem_of_getElem? hc, rfl⟩) s5 P5⟩
end
end SK
namespace SK
open PySem PySem.Spec PyProof.Rows L2 LamX NdefX
open K0 (De DeAll XCl spX withX)
/-! ### is_list, is_count, is_test -/
def nm : PyData → Option Str
  | .str x => some x
  | _ => none
theorem eqv_sl (x : Str) (d : PyData) : PyData.eqv (.str x) d = decide (nm d = some x) := by
  cases d with
  | str y =>
    show (x == y) = decide (some y = some x)
    by_cases h : x = y
    · subst h
      simp
    · have h2 : ¬ some y = some x := fun z => h (Option.some.inj z).symm
      rw [decide_eq_false h2]
      exact beq_eq_false_iff_ne.mpr h
  | _ => simp [PyData.eqv, nm]
theorem eqv_sr (x : Str) (d : PyData) : PyData.eqv d (.str x) = decide (nm d = some x) := by
  cases d with
  | str y =>
    show (y == x) = decide (some y = some x)
    rw [Bool.eq_iff_iff]
    simp
  | _ => simp [PyData.eqv, nm]
def inS (xs : List Str) (d : PyData) : Bool := xs.any fun x => decide (nm d = some x)
theorem any_strs (xs : List Str) (d : PyData) : ((xs.map PyData.str).any fun e => PyData.eqv e d) = inS xs d := by
  rw [List.any_map]
  unfold inS
  congr 1
  funext x
  exact eqv_sl x d
def plain10 : List Str := ["mark", "f", "x", "y", "root", "ends", "next", "p", "here", "true"]
/-- heads that can be looked at -/
inductive HdOk : PyData → Prop
  | non : HdOk .none
  | bl (b : Bool) : HdOk (.bool b)
  | int (i : Int) : HdOk (.int i)
  | str (x : Str) : PyData.strOk x = true → HdOk (.str x)
  | tup0 : HdOk (.tuple [])
  | lst0 : HdOk (.list [])
  | one (x : Str) : PyData.strOk x = true → HdOk (.tuple [.str x])
theorem HdOk.shaped {h : PyData} (k : HdOk h) : SeqAt.shaped h = true := by
  cases k with
  | str x e => simp [SeqAt.shaped, PyData.canLay0, PyData.depth, e]
  | one x e => simp [SeqAt.shaped, PyData.canLay0, PyData.canLayAll0, PyData.depth, PyData.depthAll, e]
  | _ => simp [SeqAt.shaped, PyData.canLay0, PyData.canLayAll0, PyData.depth, PyData.depthAll]
theorem HdOk.lay {h : PyData} (k : HdOk h) : h.canLay0 = true ∧ h.depth ≤ 32 := by
  cases k with
  | str x e => simp [PyData.canLay0, PyData.depth, e]
  | one x e => simp [PyData.canLay0, PyData.canLayAll0, PyData.depth, PyData.depthAll, e]
  | _ => simp [PyData.canLay0, PyData.canLayAll0, PyData.depth, PyData.depthAll]
theorem HdOk.dp {K : PySem.W.Frag} {H : Hp} {v : V} {h : PyData} (k : HdOk h) (d : De K H v h) : Dp K H v h := by
  cases k with
  | non => cases d; exact .non
  | bl b => cases d; exact .bl b
  | int i => cases d; exact .int i
  | str x e => cases d; exact .str x
  | tup0 =>
    cases d with
    | tup ha hd => cases hd; exact .tup (.inl (.inl ha)) .nil
  | lst0 =>
    cases d with
    | lst ha hd => cases hd; exact .lst (.inl (.inl ha)) .nil
  | one x e =>
    cases d with
    | tup ha hd =>
      cases hd with
      | cons h1 h2 =>
        cases h1
        cases h2
        exact .tup (.inl (.inl ha)) (.cons (.str x) .nil)
theorem plain_lay : PyData.canLayAll0 (plain10.map PyData.str) = true := by decide +kernel
def two (f : PyData → Bool) (e : PyData) : List PyData → Bool
  | [g] => f e && f g
  | _ => false
def okT2 (f : PyData → Bool) (h e : PyData) (r : List PyData) : Bool :=
  if nm h = some (Str.ofString "others") then (r.isEmpty && okC e) else if nm h = some (Str.ofString "not") then (r.isEmpty && f e) else
  if inS ["and", "or"] h = true then two f e r else false
def okTL (f : PyData → Bool) : List PyData → Bool
  | [] => false
  | [h] => inS plain10 h
  | h :: e :: r => okT2 f h e r
def okT : Nat → PyData → Bool
  | 0, _ => false
  | n + 1, d => isTL d && okTL (okT n) (elems d)
def hdT : Nat → PyData → Prop
  | 0, _ => True
  | n + 1, d => (∀ h r, isTL d = true → elems d = h :: r → HdOk h ∧ ∀ e ∈ r, hdT n e)
def spIsL (K : PySem.W.Frag) : Sp := fun vs H Q _ => ∃ (v : V) (d : PyData), vs = [v] ∧ De K H v d ∧ ∀ H', Same H H' → Q (.bl (isTL d)) H'
def spIsC (K : PySem.W.Frag) : Sp := fun vs H Q _ => ∃ (v : V) (d : PyData), vs = [v] ∧ De K H v d ∧ Q (.bl (okC d)) H
def spTst (K : PySem.W.Frag) (n : Nat) : Sp := fun vs H Q _ => ∃ (v : V) (d : PyData) (m : Nat), vs = [v, .int (m : Nat)] ∧ m < n ∧ De K H v d ∧ hdT m d ∧ ∀ H', Same H H' → Q (.bl (okT m d)) H'
theorem tl_shape {K : PySem.W.Frag} {H : Hp} {v : V} {d : PyData} (h : De K H v d) : isTL d = false ∨ ∃ (p : Addr) (xs : List V), v = .ref p ∧ DeAll K H xs (elems d) ∧ (SqL K H p xs ∨ SqT K H p xs) ∧ isTL d = true := by
  cases h with
  | @lst a vs ds ha hds => exact .inr ⟨a, vs, rfl, hds, .inl (.inl (.inl ha)), rfl⟩
  | @tup a vs ds ha hds => exact .inr ⟨a, vs, rfl, hds, .inr (.inl (.inl ha)), rfl⟩
  | _ => exact .inl rfl
section
variable {P : Program} {w : World} {K : PySem.W.Frag} {mg : Str → Option Value} {base : Heap} {f fL fC bP : Addr} {fd fdL fdC : FuncData}
theorem ok_isL (F : Fun K "is_list" "is_list" (top 11) f fd) (gI : mg "isinstance" = none) (gT : mg "tuple" = none) (gL : mg "list" = none) : FnOk P w K mg base CX0 1 f fd ["value"] (spIsL K) := by
  have S0 : FnScope ["value"] ["value"] (defScope (top 11)) := ⟨rfl, rfl, rfl, by decide +kernel, rfl, by decide +kernel, by decide +kernel⟩
  refine F.ok S0 (fun vs H Q E h => ?_) (fun cdv A outer s H vs Q E hr h => ?_)
  · obtain ⟨v, d, rfl, _⟩ := h
    rfl
  · obtain ⟨v, d, rfl, hd, kk⟩ := h
    refine ⟨_, (pss_one (ps_ret (pe_callB (r := rIsiT K) call_isiT (by rfl) gI PyProof.Rows.boot_isinstance (pa_cons (pv 0) (pa_cons (pe_tup (pa_cons (pe_bltn (v := .ty "tuple") (by rfl) gT PyProof.Rows.boot_tuple rfl) (pa_cons (pe_bltn (v := .ty "list") (by rfl) gL PyProof.Rows.boot_list rfl) pa_nil))) pa_nil))))), ?_⟩
    refine ⟨v, rfl, (by show 2 ≤ sizeLine; decide), fun tp hp => ?_⟩
    have s1 := upd_new (o := .tup [.ty "tuple", .ty "list"]) hp
    have t1 : upd H tp (.tup [.ty "tuple", .ty "list"]) tp = some (.tup [.ty "tuple", .ty "list"]) := upd_same
    generalize upd H tp (.tup [.ty "tuple", .ty "list"]) = H1 at s1 t1
    obtain ⟨Ty, tx, _, _, b1, b2, k1, k2, kt⟩ := ty_of (de_mono s1 d v hd)
    exact ⟨v, tp, [.ty "tuple", .ty "list"], .type Ty, [.type "tuple", .type "list"], isTL d, rfl, t1, .cons (.ty _) (.cons (.ty _) .nil), tx, (by rw [← kt]; exact kit_two k1 k2), kk H1 s1⟩
theorem ok_isC (F : Fun K "is_count" "is_count" (top 12) f fd) (gI : mg "isinstance" = none) (gB : mg "bool" = none) (gIn : mg "int" = none) : FnOk P w K mg base CX0 1 f fd ["value"] (spIsC K) := by
  have S0 : FnScope ["value"] ["value"] (defScope (top 12)) := ⟨rfl, rfl, rfl, by decide +kernel, rfl, by decide +kernel, by decide +kernel⟩
  refine F.ok S0 (fun vs H Q E h => ?_) (fun cdv A outer s H vs Q E hr h => ?_)
  · obtain ⟨v, d, rfl, _⟩ := h
    rfl
  · obtain ⟨v, d, rfl, hd, kk⟩ := h
    refine ⟨_, (pss_one (ps_ret (pe_and (pe_callB (r := rIsi K) call_isi (by rfl) gI PyProof.Rows.boot_isinstance (pa_cons (pv 0) (pa_cons (pe_bltn (v := .ty "int") (by rfl) gIn PyProof.Rows.boot_int rfl) pa_nil))) (pe_and (pe_not (pe_callB (r := rIsi K) call_isi (by rfl) gI PyProof.Rows.boot_isinstance (pa_cons (pv 0) (pa_cons (pe_bltn (v := .ty "bool") (by rfl) gB PyProof.Rows.boot_bool rfl) pa_nil)))) (pe_one (pe_chain op_le op_le pe_int (pv 0) pe_int)))))), ?_⟩
    obtain ⟨T3, x3, kb3, ki3⟩ := ty_bi hd
    refine ⟨v, rfl, v, .ty "int", .type T3, .type "int", (isB d || isI d), rfl, .ty _, x3, kit_ty ki3, _, rfl, ?_⟩
    cases d with
    | int i =>
      cases hd
      refine iteT ⟨V.int i, rfl, .int i, .ty "bool", .type T3, .type "bool", false, rfl, .ty _, x3, kit_ty kb3, _, rfl, true, rfl, iteT ?_⟩
      refine ⟨V.int i, rfl, 0, i, rfl, rfl, _, rfl, ?_⟩
      refine ite2 (fun c1 => ?_) (fun c1 => ?_)
      · have c1 := of_decide_eq_true c1
        have kk : Q (.bl (decide (0 ≤ i) && decide (i ≤ 2))) H := kk
        rw [decide_eq_true c1, Bool.true_and] at kk
        exact ⟨i, 2, rfl, rfl, kk⟩
      · have kk : Q (.bl (decide (0 ≤ i) && decide (i ≤ 2))) H := kk
        have c1 : ¬ (0 : Int) ≤ i := fun z => c1 (decide_eq_true z)
        rw [decide_eq_false c1, Bool.false_and] at kk
        exact kk
    | bool b => exact iteT ⟨v, rfl, v, .ty "bool", .type T3, .type "bool", true, rfl, .ty _, x3, kit_ty kb3, _, rfl, false, rfl, iteF kk⟩
    | _ => exact iteF kk
abbrev NTs : List Str := ["test", "most", "name"]
theorem ok_tst (F : Fun K "is_test" "is_test" (top 13) f fd) (gN : mg "len" = none) (gP : mg "PLAIN_TESTS_statements" = some (.ref bP)) (hP : ∀ H, SqT K H bP (plain10.map V.str))
    (gL : mg "is_list" = some (.ref fL)) (kL : PySem.W.keepIn K (.ref fL) = true) (GL : FnOk P w K mg base CX0 1 fL fdL ["value"] (spIsL K)) (bL : Binds K fdL ["value"] [])
    (gC : mg "is_count" = some (.ref fC)) (kC : PySem.W.keepIn K (.ref fC) = true) (GC : FnOk P w K mg base CX0 1 fC fdC ["value"] (spIsC K)) (bC : Binds K fdC ["value"] [])
    (gS : mg "is_test" = some (.ref f)) (bS : Binds K fd ["test", "most"] []) : ∀ n : Nat, FnOk P w K mg base CX0 (n + 2) f fd ["test", "most"] (spTst K n) := by
  have S0 : FnScope NTs ["test", "most"] (defScope (top 13)) := ⟨rfl, rfl, rfl, by decide +kernel, rfl, by decide +kernel, by decide +kernel⟩
  have nd := S0.nd
  have kS := F.kp
  intro n
  induction n with
  | zero =>
    refine F.ok S0 (fun vs H Q E h => ?_) (fun cdv A outer s H vs Q E hr h => ?_)
    · obtain ⟨v, d, m, rfl, hm, _⟩ := h
      omega
    · obtain ⟨v, d, m, rfl, hm, _⟩ := h
      omega
  | succ n GS =>
  refine F.ok S0 (fun vs H Q E h => ?_) (fun cdv A outer s H vs Q E hr h => ?_)
  · obtain ⟨v, d, m, rfl, _⟩ := h
    rfl
  · obtain ⟨v, d, m, rfl, hm, hd, hh, kk⟩ := h
    have hu64 := hr.units
    have hr1 : Room 1 _ := hr.mono (by omega)
    refine ⟨_, (pss_cons (ps_if (PW.pt (pw_or (pt_cmpR op_eq (pv 1) pe_int (nomark _)) (pw_or (pt_not (pt_val (pe_call GL hr1 (by rfl) gL kL bL .nil pass0 (pa_cons (pv 0) pa_nil)))) (pw_or1 (pt_cmpR op_eq (pe_callB call_len_seq (by rfl) gN PySem.boot_len (pa_cons (pv 0) pa_nil)) pe_int (nomark _)))))) (pss_one (ps_ret pe_bl)) pss_nil)
        (pss_cons (ps_set (i := 2) nd rfl (Or.inl rfl) (pe_ix (r := rIx K) ix_seq (pv 0) pe_int (fun _ _ => rfl)))
        (pss_cons (ps_if (pt_cmpR op_eq (pe_callB call_len_seq (by rfl) gN PySem.boot_len (pa_cons (pv 0) pa_nil)) pe_int (nomark _)) (pss_one (ps_ret (pe_cmpR (r := rInD K false) (op_inD hu64) (pv 2) (pe_glob (v := V.ref bP) (by rfl) gP rfl) (by rfl)))) pss_nil)
        (pss_cons (ps_if (pt_cmpR (r := rEqD K) (op_eqD hu64) (pv 2) pe_str (nomark _)) (pss_one (ps_ret (pe_and (pe_cmpR op_eq (pe_callB call_len_seq (by rfl) gN PySem.boot_len (pa_cons (pv 0) pa_nil)) pe_int (nomark _)) (pe_one (pe_call GC hr1 (by rfl) gC kC bC .nil pass0 (pa_cons (pe_ix (r := rIx K) ix_seq (pv 0) pe_int (fun _ _ => rfl)) pa_nil)))))) pss_nil)
        (pss_cons (ps_if (pt_cmpR (r := rEqD K) (op_eqD hu64) (pv 2) pe_str (nomark _)) (pss_one (ps_ret (pe_and (pe_cmpR op_eq (pe_callB call_len_seq (by rfl) gN PySem.boot_len (pa_cons (pv 0) pa_nil)) pe_int (nomark _)) (pe_one (pe_call GS hr (by rfl) gS kS bS .nil pass0 (pa_cons (pe_ix (r := rIx K) ix_seq (pv 0) pe_int (fun _ _ => rfl)) (pa_cons (pe_op op_sub (pv 1) pe_int) pa_nil))))))) pss_nil)
        (pss_cons (ps_if (pt_cmpR (r := rInD K false) (op_inD hu64) (pv 2) (pe_tup (pa_cons pe_str (pa_cons pe_str pa_nil))) (by rfl)) (pss_one (ps_ret (pe_and (pe_cmpR op_eq (pe_callB call_len_seq (by rfl) gN PySem.boot_len (pa_cons (pv 0) pa_nil)) pe_int (nomark _)) (pe_and (pe_call GS hr (by rfl) gS kS bS .nil pass0 (pa_cons (pe_ix (r := rIx K) ix_seq (pv 0) pe_int (fun _ _ => rfl)) (pa_cons (pe_op op_sub (pv 1) pe_int) pa_nil))) (pe_one (pe_call GS hr (by rfl) gS kS bS .nil pass0 (pa_cons (pe_ix (r := rIx K) ix_seq (pv 0) pe_int (fun _ _ => rfl)) (pa_cons (pe_op op_sub (pv 1) pe_int) pa_nil)))))))) pss_nil)
        (pss_one (ps_ret pe_bl)))))))), ?_⟩
    refine ⟨V.int (m : Nat), rfl, rfl, _, rfl, ?_⟩
    match m, hm, hh, kk with
    | 0, _, _, kk => exact iteT (kk H (Same.refl _))
    | m + 1, hm, hh, kk =>
    have ne0 : ¬ V.int ((m + 1 : Nat) : Int) = V.int 0 := fun z => by
      injection z with z
      omega
    rw [decide_eq_false ne0]
    refine iteF ⟨v, rfl, v, d, rfl, hd, fun H1 s1 => ⟨isTL d, rfl, ?_⟩⟩
    rcases tl_shape hd with e | ⟨p, xs, rfl, hds, hsq, e⟩
    · rw [e]
      refine iteT ?_
      have z := kk H1 s1
      unfold okT at z
      rw [e, Bool.false_and] at z
      exact z
    rw [e]
    have kk : ∀ b, okTL (okT m) (elems d) = b → ∀ H', Same H H' → Q (.bl b) H' := fun b eb H' s => by
      have z := kk H' s
      unfold okT at z
      rw [e, Bool.true_and, eb] at z
      exact z
    have hh : ∀ h r, elems d = h :: r → HdOk h ∧ ∀ e ∈ r, hdT m e := fun h r eh => hh h r e eh
    generalize elems d = ds at hds kk hh
    have sq : ∀ {H' : Hp}, Same H H' → (SqL K H' p xs ∨ SqT K H' p xs) := fun {H'} s => hsq.elim (fun h => .inl (Same.seq s h)) (fun h => .inr (Same.seqT s h))
    have ixF : ∀ {H' : Hp} (j : Nat) (v' : V) (R : VK), Same H H' → xs[j]? = some v' → R v' H' → rIx K (.ref p) (.int (j : Nat)) H' R := fun {H'} j v' R s hj hR => by
      rcases sq s with h | h
      · exact .inl ⟨p, xs, (j : Int), v', rfl, rfl, h, atI_nat hj, hR⟩
      · exact .inr (.inl ⟨p, xs, (j : Int), v', rfl, rfl, h, atI_nat hj, hR⟩)
    have lnF : ∀ n : Nat, xs.length = n → ∀ {H' : Hp} (R : VK), Same H H' → R (.int (n : Nat)) H' → ∃ q ys, ([V.ref p] : List V) = [.ref q] ∧ (SqL K H' q ys ∨ SqT K H' q ys) ∧ R (.int (ys.length : Nat)) H' := fun n hn {H'} R s hR => ⟨p, xs, rfl, sq s, by rw [hn]; exact hR⟩
    cases hds with
    | nil =>
      refine iteF ⟨V.ref p, rfl, p, [], rfl, sq s1, rfl, _, rfl, iteT ?_⟩
      exact kk false rfl H1 s1
    | @cons v1 vr h r hd1 hdr =>
    have hlr := deAll_len hdr
    obtain ⟨hh1, hhr⟩ := hh h r rfl
    refine iteF ⟨V.ref p, rfl, p, _, rfl, sq s1, rfl, _, rfl, ?_⟩
    rw [decide_eq_false (fun z : V.int _ = V.int 0 => by injection z with z; simp at z; omega)]
    refine iteF ⟨V.ref p, rfl, ixF 0 v1 _ s1 rfl ?_⟩
    have dp1 : ∀ {H' : Hp}, Same H H' → Dp K H' v1 h := fun {H'} s => hh1.dp (de_mono s _ _ hd1)
    have subE : ((m + 1 : Nat) : Int) - 1 = (m : Int) := by omega
    refine ⟨V.ref p, rfl, p, _, rfl, sq s1, rfl, _, rfl, ?_⟩
    cases hdr with
    | nil =>
      refine iteT ⟨v1, rfl, bP, plain10.map V.str, plain10.map PyData.str, h, rfl, .inr (hP _), dp_strs _, dp1 s1, hh1.lay.1, plain_lay, hh1.lay.2, ?_⟩
      rw [if_neg Bool.false_ne_true, any_strs]
      exact kk _ rfl _ s1
    | @cons v2 vr2 e2 r2 hd2 hdr2 =>
      rw [decide_eq_false (fun z : V.int _ = V.int 1 => by injection z with z; simp at z; omega)]
      refine iteF ⟨v1, rfl, h, .str "others", dp1 s1, .str _, hh1.shaped, by decide +kernel, _, rfl, ?_⟩
      rw [eqv_sr]
      have kk : ∀ b, okT2 (okT m) h e2 r2 = b → ∀ H', Same H H' → Q (.bl b) H' := kk
      have slf : ∀ (j : Nat) (v' : V) (e' : PyData) (H' : Hp) (R : VK), (v1 :: v2 :: vr2)[j]? = some v' → De K H v' e' → hdT m e' → Same H H' → (∀ H2, Same H' H2 → R (.bl (okT m e')) H2) → rIx K (.ref p) (.int (j : Nat)) H' fun x H2 => ∃ y, some (some (V.int ((m + 1 : Nat) : Int))) = some (some y) ∧ ∃ i i2, y = .int i ∧ V.int 1 = .int i2 ∧ spTst K n [x, .int (i - i2)] H2 R (fun _ _ _ => False) := fun j v' e' H' R hj hd' hh' s k =>
        ixF j v' _ s hj ⟨V.int ((m + 1 : Nat) : Int), rfl, ((m + 1 : Nat) : Int), 1, rfl, rfl, v', e', m, by rw [subE], by omega, de_mono s _ _ hd', hh', k⟩
      by_cases c1 : nm h = some (Str.ofString "others")
      · rw [decide_eq_true c1]
        refine iteT ⟨V.ref p, rfl, p, _, rfl, sq s1, rfl, _, rfl, ?_⟩
        have e0 : okT2 (okT m) h e2 r2 = (r2.isEmpty && okC e2) := if_pos c1
        cases hdr2 with
        | nil => exact iteT ⟨V.ref p, rfl, ixF 1 v2 _ s1 rfl ⟨v2, e2, rfl, de_mono s1 _ _ hd2, kk _ (by rw [e0]; rfl) _ s1⟩⟩
        | cons h3 h4 =>
          rw [decide_eq_false (fun z : V.int _ = V.int 2 => by injection z with z; simp at z; omega)]
          exact iteF (kk _ (by rw [e0]; rfl) _ s1)
      rw [decide_eq_false c1]
      refine iteF ⟨v1, rfl, h, .str "not", dp1 s1, .str _, hh1.shaped, by decide +kernel, _, rfl, ?_⟩
      rw [eqv_sr]
      by_cases c2 : nm h = some (Str.ofString "not")
      · rw [decide_eq_true c2]
        refine iteT ⟨V.ref p, rfl, p, _, rfl, sq s1, rfl, _, rfl, ?_⟩
        have e0 : okT2 (okT m) h e2 r2 = (r2.isEmpty && okT m e2) := (if_neg c1).trans (if_pos c2)
        cases hdr2 with
        | nil => exact iteT ⟨V.ref p, rfl, slf 1 v2 e2 _ _ rfl hd2 (hhr e2 (by simp)) s1 fun H2 s2 => kk _ (by rw [e0]; rfl) _ (s1.trans s2)⟩
        | cons h3 h4 =>
          rw [decide_eq_false (fun z : V.int _ = V.int 2 => by injection z with z; simp at z; omega)]
          exact iteF (kk _ (by rw [e0]; rfl) _ s1)
      rw [decide_eq_false c2]
      refine iteF ⟨v1, rfl, (by show 2 ≤ sizeLine; decide), fun q nq => ?_⟩
      have s2 := upd_new (o := .tup [.str "and", .str "or"]) nq
      have hq2 : upd H1 q (.tup [.str "and", .str "or"]) q = some (.tup [.str "and", .str "or"]) := upd_same
      generalize upd H1 q (.tup [.str "and", .str "or"]) = H2 at s2 hq2
      have s12 := s1.trans s2
      refine ⟨q, _, (["and", "or"] : List Str).map PyData.str, h, rfl, .inr (.inl (.inl hq2)), dp_strs ["and", "or"], dp1 s12, hh1.lay.1, by decide +kernel, hh1.lay.2, _, rfl, ?_⟩
      rw [if_neg Bool.false_ne_true, any_strs]
      cases c3 : inS ["and", "or"] h with
      | false => exact iteF (kk _ (by unfold okT2; rw [if_neg c1, if_neg c2, c3]; rfl) _ s12)
      | true =>
        refine iteT ⟨V.ref p, rfl, p, _, rfl, sq s12, rfl, _, rfl, ?_⟩
        have e0 : okT2 (okT m) h e2 r2 = two (okT m) e2 r2 := by
          unfold okT2
          rw [if_neg c1, if_neg c2, c3]
          rfl
        cases hdr2 with
        | nil => exact iteF (kk _ (by rw [e0]; rfl) _ s12)
        | @cons v3 vr3 e3 r3 hd3 hdr3 =>
          cases hdr3 with
          | cons h3 h4 =>
            rw [decide_eq_false (fun z : V.int _ = V.int 3 => by injection z with z; simp at z; omega)]
            exact iteF (kk _ (by rw [e0]; rfl) _ s12)
          | nil =>
            refine iteT ⟨V.ref p, rfl, ixF 1 v2 _ s12 rfl ⟨V.int ((m + 1 : Nat) : Int), rfl, ((m + 1 : Nat) : Int), 1, rfl, rfl, v2, e2, m, (by show [v2, V.int (((m + 1 : Nat) : Int) - 1)] = _; rw [subE]), by omega, de_mono s12 _ _ hd2, hhr e2 (by simp), fun H3 s3 => ⟨_, rfl, ?_⟩⟩⟩
            cases c4 : okT m e2 with
            | false => exact iteF (kk _ (by rw [e0]; show (okT m e2 && okT m e3) = _; rw [c4]; rfl) _ (s12.trans s3))
            | true => exact iteT ⟨V.ref p, rfl, slf 2 v3 e3 _ _ rfl hd3 (hhr e3 (by simp)) (s12.trans s3) fun H4 s4 => kk _ (by rw [e0]; show (okT m e2 && okT m e3) = _; rw [c4]; rfl) _ ((s12.trans s3).trans s4)⟩
end
end SK
namespace SK
open PySem PySem.Spec PyProof.Rows L2 LamX NdefX
open K0 (De DeAll XCl spX withX)
/-! ### statements -/
def letK : List Str := ["mark", "unmark", "make", "cut", "keep", "stop"]
def letD (z : Str) : List Str := if z = "mark" then ["down", "turn", "up"] else if z = "unmark" then ["down", "turn", "up"] else if z = "make" then ["down"] else if z = "cut" then ["turn", "up"] else
  if z = "keep" then ["down", "turn"] else if z = "stop" then ["down", "up"] else []
def blk3 : List Str := ["down", "turn", "up"]
structure LetIn (K : PySem.W.Frag) (w : World) (d : Addr) : Prop where
  D : ∃ es n, KDict K w d es n
  no : ∀ z, z ∉ letK → PySem.W.nsIn K d z = some none
  yes : ∀ z ∈ letK, ∃ a, PySem.W.nsIn K d z = some (some (.ref a)) ∧ ∀ H, SqT K H a ((letD z).map V.str)
theorem letD_no {z : Str} (h : z ∉ letK) : letD z = [] := by
  unfold letK at h
  simp only [List.mem_cons, List.mem_nil_iff, or_false, not_or] at h
  obtain ⟨h1, h2, h3, h4, h5, h6⟩ := h
  unfold letD
  rw [if_neg h1, if_neg h2, if_neg h3, if_neg h4, if_neg h5, if_neg h6]
theorem letD_lay : ∀ z ∈ letK, PyData.canLayAll0 ((letD z).map PyData.str) = true := by decide +kernel
theorem blk_ok : ∀ z ∈ blk3, HdOk (.str z) := fun z hz => .str z (by
  have q : ∀ z ∈ blk3, PyData.strOk z = true := by decide +kernel
  exact q z hz)
theorem inS_str (xs : List Str) (y : Str) : inS xs (.str y) = decide (y ∈ xs) := by
  unfold inS
  rw [Bool.eq_iff_iff, List.any_eq_true, decide_eq_true_eq]
  constructor
  · rintro ⟨x, hx, e⟩
    have e := Option.some.inj (of_decide_eq_true e)
    exact e ▸ hx
  · intro h
    exact ⟨y, h, decide_eq_true rfl⟩
def wordLet (d : PyData) (blk : Str) : Bool := match nm d with
  | some z => decide (blk ∈ letD z)
  | none => false
def okSet : List PyData → Bool
  | [_, a, b] => inS ["f", "x", "y"] a && isB b
  | _ => false
def spWl (K : PySem.W.Frag) : Sp := fun vs H Q _ => ∃ (v : V) (d : PyData) (blk : Str), vs = [v, .str blk] ∧ De K H v d ∧ blk ∈ blk3 ∧ Q (.bl (wordLet d blk)) H
def spSet (K : PySem.W.Frag) : Sp := fun vs H Q _ => ∃ (p : Addr) (xs : List V) (ds : List PyData), vs = [.ref p] ∧ (SqL K H p xs ∨ SqT K H p xs) ∧ DeAll K H xs ds ∧ (∀ h a r, ds = h :: a :: r → HdOk a) ∧ ∀ H', Same H H' → Q (.bl (okSet ds)) H'
section
variable {P : Program} {w : World} {K : PySem.W.Frag} {mg : Str → Option Value} {base : Heap} {f dL : Addr} {fd : FuncData}
theorem ok_wl (F : Fun K "is_word_let" "is_word_let" (top 14) f fd) (gI : mg "isinstance" = none) (gSt : mg "str" = none) (gD : mg "LET_IN" = some (.ref dL)) (LI : LetIn K w dL) : FnOk P w K mg base CX0 1 f fd ["name", "block"] (spWl K) := by
  have S0 : FnScope ["name", "block"] ["name", "block"] (defScope (top 14)) := ⟨rfl, rfl, rfl, by decide +kernel, rfl, by decide +kernel, by decide +kernel⟩
  refine F.ok S0 (fun vs H Q E h => ?_) (fun cdv A outer s H vs Q E hr h => ?_)
  · obtain ⟨v, d, blk, rfl, _⟩ := h
    rfl
  · obtain ⟨v, d, blk, rfl, hd, hb, kk⟩ := h
    have hu64 := hr.units
    obtain ⟨es, n, D⟩ := LI.D
    refine ⟨_, (pss_one (ps_ret (pe_and (pe_callB (r := rIsi K) call_isi (by rfl) gI PyProof.Rows.boot_isinstance (pa_cons (pv 0) (pa_cons (pe_bltn (v := .ty "str") (by rfl) gSt PyProof.Rows.boot_str rfl) pa_nil))) (pe_and (pe_cmpR (op_in_kd D) (pv 0) (pe_glob (v := V.ref dL) (by rfl) gD rfl) (by rfl)) (pe_one (pe_cmpR (r := rInD K false) (op_inD hu64) (pv 1) (pe_ix (r := rIxD K w) ix_kdict (pe_glob (v := V.ref dL) (by rfl) gD rfl) (pv 0) (fun _ _ => rfl)) (by rfl))))))), ?_⟩
    obtain ⟨Ty, tx, ks, _⟩ := ty_of hd
    refine ⟨v, rfl, v, .ty "str", .type Ty, .type "str", isS d, rfl, .ty _, tx, kit_ty ks, _, rfl, ?_⟩
    cases d with
    | str z =>
      cases hd
      have e0 : wordLet (.str z) blk = decide (blk ∈ letD z) := rfl
      rw [e0] at kk
      by_cases hz : z ∈ letK
      · obtain ⟨a, e1, e2⟩ := LI.yes z hz
        refine iteT ⟨V.str z, rfl, z, some (.ref a), rfl, rfl, e1, _, rfl, iteT ?_⟩
        refine ⟨V.str blk, rfl, V.str z, rfl, dL, z, V.ref a, rfl, rfl, ⟨es, n, .ref a, D.at_, D.lit, e1, rfl⟩, a, _, (letD z).map PyData.str, .str blk, rfl, .inr (e2 H), dp_strs _, .str _, (blk_ok blk hb).lay.1, letD_lay z hz, (blk_ok blk hb).lay.2, ?_⟩
        rw [if_neg Bool.false_ne_true, any_strs, inS_str]
        exact kk
      · rw [letD_no hz] at kk
        refine iteT ⟨V.str z, rfl, z, none, rfl, rfl, LI.no z hz, _, rfl, iteF ?_⟩
        exact kk
    | _ => exact iteF kk
theorem ok_set (F : Fun K "is_set" "is_set" (top 15) f fd) (gN : mg "len" = none) (gI : mg "isinstance" = none) (gB : mg "bool" = none) : FnOk P w K mg base CX0 1 f fd ["statement"] (spSet K) := by
  have S0 : FnScope ["statement"] ["statement"] (defScope (top 15)) := ⟨rfl, rfl, rfl, by decide +kernel, rfl, by decide +kernel, by decide +kernel⟩
  refine F.ok S0 (fun vs H Q E h => ?_) (fun cdv A outer s H vs Q E hr h => ?_)
  · obtain ⟨p, xs, ds, rfl, _⟩ := h
    rfl
  · obtain ⟨p, xs, ds, rfl, hsq, hds, hh, kk⟩ := h
    have hu64 := hr.units
    refine ⟨_, (pss_one (ps_ret (pe_and (pe_cmpR op_eq (pe_callB call_len_seq (by rfl) gN PySem.boot_len (pa_cons (pv 0) pa_nil)) pe_int (nomark _)) (pe_and (pe_cmpR (r := rInD K false) (op_inD hu64) (pe_ix (r := rIx K) ix_seq (pv 0) pe_int (fun _ _ => rfl)) (pe_tup (pa_cons pe_str (pa_cons pe_str (pa_cons pe_str pa_nil)))) (by rfl)) (pe_one (pe_callB (r := rIsi K) call_isi (by rfl) gI PyProof.Rows.boot_isinstance (pa_cons (pe_ix (r := rIx K) ix_seq (pv 0) pe_int (fun _ _ => rfl)) (pa_cons (pe_bltn (v := .ty "bool") (by rfl) gB PyProof.Rows.boot_bool rfl) pa_nil)))))))), ?_⟩
    have sq : ∀ {H' : Hp}, Same H H' → (SqL K H' p xs ∨ SqT K H' p xs) := fun {H'} s => hsq.elim (fun h => .inl (Same.seq s h)) (fun h => .inr (Same.seqT s h))
    have ixF : ∀ {H' : Hp} (j : Nat) (v' : V) (R : VK), Same H H' → xs[j]? = some v' → R v' H' → rIx K (.ref p) (.int (j : Nat)) H' R := fun {H'} j v' R s hj hR => by
      rcases sq s with h | h
      · exact .inl ⟨p, xs, (j : Int), v', rfl, rfl, h, atI_nat hj, hR⟩
      · exact .inr (.inl ⟨p, xs, (j : Int), v', rfl, rfl, h, atI_nat hj, hR⟩)
    have hxl := deAll_len hds
    refine ⟨V.ref p, rfl, p, xs, rfl, hsq, rfl, _, rfl, ?_⟩
    by_cases hl : xs.length = 3
    · rw [decide_eq_true (show V.int (xs.length : Nat) = V.int 3 by rw [hl]; rfl)]
      obtain ⟨h, a, b, rfl⟩ : ∃ h a b, ds = [h, a, b] := by
        match ds, hxl.symm.trans hl with
        | [h, a, b], _ => exact ⟨h, a, b, rfl⟩
      cases hds with
      | @cons v1 _ _ _ d1 hds =>
      cases hds with
      | @cons v2 _ _ _ d2 hds =>
      cases hds with
      | @cons v3 _ _ _ d3 hds =>
      cases hds
      have ha := hh h a [b] rfl
      refine iteT ⟨V.ref p, rfl, ixF 1 v2 _ (Same.refl _) rfl ⟨(by show 3 ≤ sizeLine; decide), fun q nq => ?_⟩⟩
      have s2 := upd_new (o := .tup [.str "f", .str "x", .str "y"]) nq
      have hq2 : upd H q (.tup [.str "f", .str "x", .str "y"]) q = some (.tup [.str "f", .str "x", .str "y"]) := upd_same
      generalize upd H q (.tup [.str "f", .str "x", .str "y"]) = H2 at s2 hq2
      refine ⟨q, _, (["f", "x", "y"] : List Str).map PyData.str, a, rfl, .inr (.inl (.inl hq2)), dp_strs ["f", "x", "y"], ha.dp (de_mono s2 _ _ d2), ha.lay.1, by decide +kernel, ha.lay.2, _, rfl, ?_⟩
      rw [if_neg Bool.false_ne_true, any_strs]
      have kk := kk H2 s2
      have e0 : okSet [h, a, b] = (inS ["f", "x", "y"] a && isB b) := rfl
      rw [e0] at kk
      cases e1 : inS ["f", "x", "y"] a with
      | false =>
        rw [e1, Bool.false_and] at kk
        exact iteF kk
      | true =>
        rw [e1, Bool.true_and] at kk
        obtain ⟨T3, x3, kb3, _⟩ := ty_bi (de_mono s2 _ _ d3)
        exact iteT ⟨V.ref p, rfl, ixF 2 v3 _ s2 rfl ⟨v3, .ty "bool", .type T3, .type "bool", isB b, rfl, .ty _, x3, kit_ty kb3, kk⟩⟩
    · rw [decide_eq_false (fun z : V.int (xs.length : Nat) = V.int 3 => hl (by injection z with z; omega))]
      refine iteF ?_
      have e0 : okSet ds = false := by
        unfold okSet
        split
        · simp at hxl
          omega
        · rfl
      rw [← e0]
      exact kk H (Same.refl _)
end
end SK
namespace SK
open PySem PySem.Spec PyProof.Rows L2 LamX NdefX
open K0 (De DeAll XCl spX withX)
/-! ### returns, ifs, statements -/
def ans4 : List Str := ["yes", "no", "node", "p"]
def okRc (blk : Str) : List PyData → Bool
  | [] => true
  | [c] => decide (nm c = some (Str.ofString "cut")) && decide (blk = Str.ofString "turn")
  | _ => false
def okRet (blk : Str) : List PyData → Bool
  | _ :: a :: r => inS ans4 a && okRc blk r
  | _ => false
def okIf : List PyData → Bool
  | [_, t, b1, b2] => okT 6 t && (isTL b1 && (!(elems b1).isEmpty && isTL b2))
  | _ => false
def okS2 (blk : Str) (h : PyData) (ds : List PyData) : Bool :=
  if nm h = some (Str.ofString "set") then okSet ds else if nm h = some (Str.ofString "return") then okRet blk ds else decide (nm h = some (Str.ofString "if")) && okIf ds
def okSL (blk : Str) : List PyData → Bool
  | [] => false
  | [h] => wordLet h blk
  | h :: a :: r => okS2 blk h (h :: a :: r)
def okS (blk : Str) (d : PyData) : Bool := isTL d && okSL blk (elems d)
/-- what can be looked at in a statement -/
def hdS (d : PyData) : Prop := ∀ h r, isTL d = true → elems d = h :: r → HdOk h ∧ ∀ a r', r = a :: r' → (nm h = some (Str.ofString "set") ∨ nm h = some (Str.ofString "return") → HdOk a ∧ ∀ c, r' = [c] → nm h = some (Str.ofString "return") → HdOk c) ∧ (nm h = some (Str.ofString "if") → hdT 6 a)
def spRet (K : PySem.W.Frag) : Sp := fun vs H Q _ => ∃ (p : Addr) (xs : List V) (ds : List PyData) (blk : Str), vs = [.ref p, .str blk] ∧ (SqL K H p xs ∨ SqT K H p xs) ∧ DeAll K H xs ds ∧ 2 ≤ ds.length ∧ (∀ h a r, ds = h :: a :: r → HdOk a ∧ ∀ c, r = [c] → HdOk c) ∧ ∀ H', Same H H' → Q (.bl (okRet blk ds)) H'
def spIf (K : PySem.W.Frag) : Sp := fun vs H Q _ => ∃ (p : Addr) (xs : List V) (ds : List PyData), vs = [.ref p] ∧ (SqL K H p xs ∨ SqT K H p xs) ∧ DeAll K H xs ds ∧ (∀ h a r, ds = h :: a :: r → hdT 6 a) ∧ ∀ H', Same H H' → Q (.bl (okIf ds)) H'
def spSt (K : PySem.W.Frag) : Sp := fun vs H Q _ => ∃ (v : V) (d : PyData) (blk : Str), vs = [v, .str blk] ∧ De K H v d ∧ blk ∈ blk3 ∧ hdS d ∧ ∀ H', Same H H' → Q (.bl (okS blk d)) H'
section
variable {P : Program} {w : World} {K : PySem.W.Frag} {mg : Str → Option Value} {base : Heap} {f fL fT fW fS fR fI aD : Addr} {fd fdL fdT fdW fdS fdR fdI : FuncData}
theorem ok_ret (F : Fun K "is_return" "is_return" (top 16) f fd) (gN : mg "len" = none) (gA : mg "ANSWERS" = some (.ref aD)) (hA : ∀ H, SqT K H aD (ans4.map V.str)) : FnOk P w K mg base CX0 1 f fd ["statement", "block"] (spRet K) := by
  have S0 : FnScope ["statement", "block"] ["statement", "block"] (defScope (top 16)) := ⟨rfl, rfl, rfl, by decide +kernel, rfl, by decide +kernel, by decide +kernel⟩
  refine F.ok S0 (fun vs H Q E h => ?_) (fun cdv A outer s H vs Q E hr h => ?_)
  · obtain ⟨p, xs, ds, blk, rfl, _⟩ := h
    rfl
  · obtain ⟨p, xs, ds, blk, rfl, hsq, hds, h2, hh, kk⟩ := h
    have hu64 := hr.units
    refine ⟨_, (pss_cons (ps_if (pt_cmpR (r := rInD K true) (op_notInD hu64) (pe_ix (r := rIx K) ix_seq (pv 0) pe_int (fun _ _ => rfl)) (pe_glob (v := V.ref aD) (by rfl) gA rfl) (by rfl)) (pss_one (ps_ret pe_bl)) pss_nil)
        (pss_one (ps_ret (pe_or (pe_cmpR op_eq (pe_callB call_len_seq (by rfl) gN PySem.boot_len (pa_cons (pv 0) pa_nil)) pe_int (nomark _)) (pe_one (pe_and (pe_cmpR op_eq (pe_callB call_len_seq (by rfl) gN PySem.boot_len (pa_cons (pv 0) pa_nil)) pe_int (nomark _)) (pe_and (pe_cmpR (r := rEqD K) (op_eqD hu64) (pe_ix (r := rIx K) ix_seq (pv 0) pe_int (fun _ _ => rfl)) pe_str (nomark _)) (pe_one (pe_cmpR op_eq (pv 1) pe_str (nomark _)))))))))), ?_⟩
    have sq : ∀ {H' : Hp}, Same H H' → (SqL K H' p xs ∨ SqT K H' p xs) := fun {H'} s => hsq.elim (fun h => .inl (Same.seq s h)) (fun h => .inr (Same.seqT s h))
    have ixF : ∀ {H' : Hp} (j : Nat) (v' : V) (R : VK), Same H H' → xs[j]? = some v' → R v' H' → rIx K (.ref p) (.int (j : Nat)) H' R := fun {H'} j v' R s hj hR => by
      rcases sq s with h | h
      · exact .inl ⟨p, xs, (j : Int), v', rfl, rfl, h, atI_nat hj, hR⟩
      · exact .inr (.inl ⟨p, xs, (j : Int), v', rfl, rfl, h, atI_nat hj, hR⟩)
    have hxl := deAll_len hds
    have s0 := Same.refl H
    have kk := kk H s0
    match ds, h2, hds, hh, kk, hxl with
    | h :: a :: r, h2, hds, hh, kk, hxl =>
    obtain ⟨ha, hc⟩ := hh h a r rfl
    cases hds with
    | @cons v1 _ _ _ d1 hds1 =>
    cases hds1 with
    | @cons v2 vr _ _ d2 hds2 =>
    have hlr := deAll_len hds2
    have e0 : okRet blk (h :: a :: r) = (inS ans4 a && okRc blk r) := rfl
    rw [e0] at kk
    refine ⟨V.ref p, rfl, ixF 1 v2 _ s0 rfl ⟨aD, _, ans4.map PyData.str, a, rfl, .inr (hA _), dp_strs ans4, ha.dp d2, ha.lay.1, by decide +kernel, ha.lay.2, _, rfl, ?_⟩⟩
    rw [if_pos rfl, any_strs]
    cases e1 : inS ans4 a with
    | false =>
      rw [e1, Bool.false_and] at kk
      exact iteT kk
    | true =>
      rw [e1, Bool.true_and] at kk
      refine iteF ⟨V.ref p, rfl, p, _, rfl, sq s0, rfl, _, rfl, ?_⟩
      cases hds2 with
      | nil => exact iteT kk
      | @cons v3 vr3 c r3 d3 hds3 =>
        rw [decide_eq_false (fun z : V.int _ = V.int 2 => by injection z with z; simp at z; omega)]
        refine iteF ⟨V.ref p, rfl, p, _, rfl, sq s0, rfl, _, rfl, ?_⟩
        cases hds3 with
        | cons y1 y2 =>
          rw [decide_eq_false (fun z : V.int _ = V.int 3 => by injection z with z; simp at z; omega)]
          exact iteF kk
        | nil =>
          have hc := hc c rfl
          refine iteT ⟨V.ref p, rfl, ixF 2 v3 _ s0 rfl ⟨c, .str "cut", hc.dp d3, .str _, hc.shaped, by decide +kernel, _, rfl, ?_⟩⟩
          rw [eqv_sr]
          have e2 : okRc blk [c] = (decide (nm c = some (Str.ofString "cut")) && decide (blk = Str.ofString "turn")) := rfl
          rw [e2] at kk
          by_cases c1 : nm c = some (Str.ofString "cut")
          · rw [decide_eq_true c1]
            rw [decide_eq_true c1, Bool.true_and] at kk
            refine iteT ⟨V.str blk, rfl, rfl, ?_⟩
            have e3 : decide (V.str blk = V.str (Str.ofString "turn")) = decide (blk = Str.ofString "turn") := decide_eq_decide.mpr ⟨fun z => V.str.inj z, fun z => by rw [z]⟩
            rw [e3]
            exact kk
          · rw [decide_eq_false c1]
            rw [decide_eq_false c1, Bool.false_and] at kk
            exact iteF kk
theorem ok_if (F : Fun K "is_if" "is_if" (top 17) f fd) (gN : mg "len" = none) {tM : Tok} (gM : mg "MOST_TESTS" = some (.int 6 tM))
    (gL : mg "is_list" = some (.ref fL)) (kL : PySem.W.keepIn K (.ref fL) = true) (GL : FnOk P w K mg base CX0 1 fL fdL ["value"] (spIsL K)) (bL : Binds K fdL ["value"] [])
    (gT : mg "is_test" = some (.ref fT)) (kT : PySem.W.keepIn K (.ref fT) = true) (GT : FnOk P w K mg base CX0 9 fT fdT ["test", "most"] (spTst K 7)) (bT : Binds K fdT ["test", "most"] []) : FnOk P w K mg base CX0 10 f fd ["statement"] (spIf K) := by
  have S0 : FnScope ["statement"] ["statement"] (defScope (top 17)) := ⟨rfl, rfl, rfl, by decide +kernel, rfl, by decide +kernel, by decide +kernel⟩
  refine F.ok S0 (fun vs H Q E h => ?_) (fun cdv A outer s H vs Q E hr h => ?_)
  · obtain ⟨p, xs, ds, rfl, _⟩ := h
    rfl
  · obtain ⟨p, xs, ds, rfl, hsq, hds, hh, kk⟩ := h
    have hu64 := hr.units
    have hr1 : Room 1 _ := hr.mono (by decide)
    refine ⟨_, (pss_cons (ps_if (PW.pt (pw_or (pt_cmpR op_ne (pe_callB call_len_seq (by rfl) gN PySem.boot_len (pa_cons (pv 0) pa_nil)) pe_int (nomark _)) (pw_or1 (pt_not (pt_val (pe_call GT hr (by rfl) gT kT bT .nil pass0 (pa_cons (pe_ix (r := rIx K) ix_seq (pv 0) pe_int (fun _ _ => rfl)) (pa_cons (pe_glob (v := V.int 6) (by rfl) gM ⟨_, rfl⟩) pa_nil)))))))) (pss_one (ps_ret pe_bl)) pss_nil)
        (pss_one (ps_ret (pe_and (pe_call GL hr1 (by rfl) gL kL bL .nil pass0 (pa_cons (pe_ix (r := rIx K) ix_seq (pv 0) pe_int (fun _ _ => rfl)) pa_nil)) (pe_and (pe_cmpR op_gt (pe_callB call_len_seq (by rfl) gN PySem.boot_len (pa_cons (pe_ix (r := rIx K) ix_seq (pv 0) pe_int (fun _ _ => rfl)) pa_nil)) pe_int (nomark _)) (pe_one (pe_call GL hr1 (by rfl) gL kL bL .nil pass0 (pa_cons (pe_ix (r := rIx K) ix_seq (pv 0) pe_int (fun _ _ => rfl)) pa_nil)))))))), ?_⟩
    have sq : ∀ {H' : Hp}, Same H H' → (SqL K H' p xs ∨ SqT K H' p xs) := fun {H'} s => hsq.elim (fun h => .inl (Same.seq s h)) (fun h => .inr (Same.seqT s h))
    have ixF : ∀ {H' : Hp} (j : Nat) (v' : V) (R : VK), Same H H' → xs[j]? = some v' → R v' H' → rIx K (.ref p) (.int (j : Nat)) H' R := fun {H'} j v' R s hj hR => by
      rcases sq s with h | h
      · exact .inl ⟨p, xs, (j : Int), v', rfl, rfl, h, atI_nat hj, hR⟩
      · exact .inr (.inl ⟨p, xs, (j : Int), v', rfl, rfl, h, atI_nat hj, hR⟩)
    have hxl := deAll_len hds
    have s0 := Same.refl H
    refine ⟨V.ref p, rfl, p, xs, rfl, sq s0, rfl, _, rfl, ?_⟩
    by_cases hl : xs.length = 4
    · rw [decide_eq_true (show V.int (xs.length : Nat) = V.int 4 by rw [hl]; rfl)]
      obtain ⟨h, t, b1, b2, rfl⟩ : ∃ h t b1 b2, ds = [h, t, b1, b2] := by
        match ds, hxl.symm.trans hl with
        | [h, t, b1, b2], _ => exact ⟨h, t, b1, b2, rfl⟩
      cases hds with
      | @cons v1 _ _ _ d1 hds =>
      cases hds with
      | @cons v2 _ _ _ d2 hds =>
      cases hds with
      | @cons v3 _ _ _ d3 hds =>
      cases hds with
      | @cons v4 _ _ _ d4 hds =>
      cases hds
      have ht := hh h t _ rfl
      have e0 : okIf [h, t, b1, b2] = (okT 6 t && (isTL b1 && (!(elems b1).isEmpty && isTL b2))) := rfl
      rw [e0] at kk
      refine iteF ⟨V.ref p, rfl, ixF 1 v2 _ s0 rfl ⟨v2, t, 6, rfl, by decide, d2, ht, fun H1 s1 => ⟨_, rfl, ?_⟩⟩⟩
      cases e1 : okT 6 t with
      | false =>
        rw [e1] at kk
        exact iteT (kk H1 s1)
      | true =>
        rw [e1] at kk
        have kk : ∀ H', Same H H' → Q (.bl (isTL b1 && (!(elems b1).isEmpty && isTL b2))) H' := kk
        refine iteF ⟨V.ref p, rfl, ixF 2 v3 _ s1 rfl ⟨v3, b1, rfl, de_mono s1 _ _ d3, fun H2 s2 => ⟨_, rfl, ?_⟩⟩⟩
        have s12 := s1.trans s2
        rcases tl_shape (de_mono s12 _ _ d3) with e | ⟨q, ys, rfl, hys, hsy, e⟩
        · rw [e] at kk ⊢
          exact iteF (kk H2 s12)
        · rw [e] at kk ⊢
          have kk : ∀ H', Same H H' → Q (.bl (!(elems b1).isEmpty && isTL b2)) H' := kk
          refine iteT ⟨V.ref p, rfl, ixF 2 (.ref q) _ s12 rfl ⟨q, ys, rfl, hsy, _, _, rfl, rfl, _, rfl, ?_⟩⟩
          have hyl := deAll_len hys
          refine ite2 (fun c => ?_) (fun c => ?_)
          · have c : (0 : Int) < (ys.length : Nat) := of_decide_eq_true c
            have e3 : (!(elems b1).isEmpty) = true := by
              cases hel : elems b1 with
              | nil =>
                rw [hel] at hyl
                simp only [List.length_nil] at hyl
                omega
              | cons y yr => rfl
            rw [e3] at kk
            exact ⟨V.ref p, rfl, ixF 3 v4 _ s12 rfl ⟨v4, b2, rfl, de_mono s12 _ _ d4, fun H3 s3 => kk H3 (s12.trans s3)⟩⟩
          · have e3 : (!(elems b1).isEmpty) = false := by
              cases hel : elems b1 with
              | nil => rfl
              | cons y yr =>
                rw [hel] at hyl
                simp only [List.length_cons] at hyl
                exact absurd (decide_eq_true (by show (0 : Int) < (ys.length : Nat); omega)) c
            rw [e3] at kk
            exact kk H2 s12
    · rw [decide_eq_false (fun z : V.int (xs.length : Nat) = V.int 4 => hl (by injection z with z; omega))]
      refine iteT ?_
      have e0 : okIf ds = false := by
        unfold okIf
        split
        · simp at hxl
          omega
        · rfl
      rw [← e0]
      exact kk H s0
end
end SK
namespace SK
open PySem PySem.Spec PyProof.Rows L2 LamX NdefX
open K0 (De DeAll XCl spX withX)
section
variable {P : Program} {w : World} {K : PySem.W.Frag} {mg : Str → Option Value} {base : Heap} {f fL fW fS fR fI : Addr} {fd fdL fdW fdS fdR fdI : FuncData}
theorem ok_st (F : Fun K "is_statement" "is_statement" (top 18) f fd) (gN : mg "len" = none)
    (gL : mg "is_list" = some (.ref fL)) (kL : PySem.W.keepIn K (.ref fL) = true) (GL : FnOk P w K mg base CX0 1 fL fdL ["value"] (spIsL K)) (bL : Binds K fdL ["value"] [])
    (gW : mg "is_word_let" = some (.ref fW)) (kW : PySem.W.keepIn K (.ref fW) = true) (GW : FnOk P w K mg base CX0 1 fW fdW ["name", "block"] (spWl K)) (bW : Binds K fdW ["name", "block"] [])
    (gS : mg "is_set" = some (.ref fS)) (kS : PySem.W.keepIn K (.ref fS) = true) (GS : FnOk P w K mg base CX0 1 fS fdS ["statement"] (spSet K)) (bS : Binds K fdS ["statement"] [])
    (gR : mg "is_return" = some (.ref fR)) (kR : PySem.W.keepIn K (.ref fR) = true) (GR : FnOk P w K mg base CX0 1 fR fdR ["statement", "block"] (spRet K)) (bR : Binds K fdR ["statement", "block"] [])
    (gI : mg "is_if" = some (.ref fI)) (kI : PySem.W.keepIn K (.ref fI) = true) (GI : FnOk P w K mg base CX0 10 fI fdI ["statement"] (spIf K)) (bI : Binds K fdI ["statement"] []) : FnOk P w K mg base CX0 11 f fd ["statement", "block"] (spSt K) := by
  have S0 : FnScope ["statement", "block", "name"] ["statement", "block"] (defScope (top 18)) := ⟨rfl, rfl, rfl, by decide +kernel, rfl, by decide +kernel, by decide +kernel⟩
  have nd := S0.nd
  refine F.ok S0 (fun vs H Q E h => ?_) (fun cdv A outer s H vs Q E hr h => ?_)
  · obtain ⟨v, d, blk, rfl, _⟩ := h
    rfl
  · obtain ⟨v, d, blk, rfl, hd, hb, hh, kk⟩ := h
    have hu64 := hr.units
    have hr1 : Room 1 _ := hr.mono (by decide)
    refine ⟨_, (pss_cons (ps_if (PW.pt (pw_or (pt_not (pt_val (pe_call GL hr1 (by rfl) gL kL bL .nil pass0 (pa_cons (pv 0) pa_nil)))) (pw_or1 (pt_cmpR op_eq (pe_callB call_len_seq (by rfl) gN PySem.boot_len (pa_cons (pv 0) pa_nil)) pe_int (nomark _))))) (pss_one (ps_ret pe_bl)) pss_nil)
        (pss_cons (ps_set (i := 2) nd rfl (Or.inl rfl) (pe_ix (r := rIx K) ix_seq (pv 0) pe_int (fun _ _ => rfl)))
        (pss_cons (ps_if (pt_cmpR op_eq (pe_callB call_len_seq (by rfl) gN PySem.boot_len (pa_cons (pv 0) pa_nil)) pe_int (nomark _)) (pss_one (ps_ret (pe_call GW hr1 (by rfl) gW kW bW .nil pass0 (pa_cons (pv 2) (pa_cons (pv 1) pa_nil))))) pss_nil)
        (pss_cons (ps_if (pt_cmpR (r := rEqD K) (op_eqD hu64) (pv 2) pe_str (nomark _)) (pss_one (ps_ret (pe_call GS hr1 (by rfl) gS kS bS .nil pass0 (pa_cons (pv 0) pa_nil)))) pss_nil)
        (pss_cons (ps_if (pt_cmpR (r := rEqD K) (op_eqD hu64) (pv 2) pe_str (nomark _)) (pss_one (ps_ret (pe_call GR hr1 (by rfl) gR kR bR .nil pass0 (pa_cons (pv 0) (pa_cons (pv 1) pa_nil))))) pss_nil)
        (pss_one (ps_ret (pe_and (pe_cmpR (r := rEqD K) (op_eqD hu64) (pv 2) pe_str (nomark _)) (pe_one (pe_call GI hr (by rfl) gI kI bI .nil pass0 (pa_cons (pv 0) pa_nil))))))))))), ?_⟩
    refine ⟨v, rfl, v, d, rfl, hd, fun H1 s1 => ⟨isTL d, rfl, ?_⟩⟩
    rcases tl_shape hd with e | ⟨p, xs, rfl, hds, hsq, e⟩
    · rw [e]
      refine iteT ?_
      have z := kk H1 s1
      unfold okS at z
      rw [e, Bool.false_and] at z
      exact z
    rw [e]
    have kk : ∀ b, okSL blk (elems d) = b → ∀ H', Same H H' → Q (.bl b) H' := fun b eb H' s => by
      have z := kk H' s
      unfold okS at z
      rw [e, Bool.true_and, eb] at z
      exact z
    have hh := fun h r => hh h r e
    generalize elems d = ds at hds kk hh
    have hds0 := hds
    have sq : ∀ {H' : Hp}, Same H H' → (SqL K H' p xs ∨ SqT K H' p xs) := fun {H'} s => hsq.elim (fun h => .inl (Same.seq s h)) (fun h => .inr (Same.seqT s h))
    have ixF : ∀ {H' : Hp} (j : Nat) (v' : V) (R : VK), Same H H' → xs[j]? = some v' → R v' H' → rIx K (.ref p) (.int (j : Nat)) H' R := fun {H'} j v' R s hj hR => by
      rcases sq s with h | h
      · exact .inl ⟨p, xs, (j : Int), v', rfl, rfl, h, atI_nat hj, hR⟩
      · exact .inr (.inl ⟨p, xs, (j : Int), v', rfl, rfl, h, atI_nat hj, hR⟩)
    cases hds with
    | nil => exact iteF ⟨V.ref p, rfl, p, [], rfl, sq s1, rfl, _, rfl, iteT (kk false rfl H1 s1)⟩
    | @cons v1 vr h r hd1 hdr =>
    have hlr := deAll_len hdr
    obtain ⟨hh1, hhr⟩ := hh h r rfl
    refine iteF ⟨V.ref p, rfl, p, _, rfl, sq s1, rfl, _, rfl, ?_⟩
    rw [decide_eq_false (fun z : V.int _ = V.int 0 => by injection z with z; simp at z; omega)]
    refine iteF ⟨V.ref p, rfl, ixF 0 v1 _ s1 rfl ?_⟩
    have dp1 : Dp K H1 v1 h := hh1.dp (de_mono s1 _ _ hd1)
    refine ⟨V.ref p, rfl, p, _, rfl, sq s1, rfl, _, rfl, ?_⟩
    cases hdr with
    | nil => exact iteT ⟨v1, rfl, V.str blk, rfl, v1, h, blk, rfl, de_mono s1 _ _ hd1, hb, kk _ rfl H1 s1⟩
    | @cons v2 vr2 e2 r2 hd2 hdr2 =>
      rw [decide_eq_false (fun z : V.int _ = V.int 1 => by injection z with z; simp at z; omega)]
      obtain ⟨hA, hI⟩ := hhr e2 r2 rfl
      have kk : ∀ b, okS2 blk h (h :: e2 :: r2) = b → ∀ H', Same H H' → Q (.bl b) H' := kk
      have hds1 := de_monoAll s1 _ _ hds0
      refine iteF ⟨v1, rfl, h, .str "set", dp1, .str _, hh1.shaped, by decide +kernel, _, rfl, ?_⟩
      rw [eqv_sr]
      by_cases c1 : nm h = some (Str.ofString "set")
      · rw [decide_eq_true c1]
        refine iteT ⟨V.ref p, rfl, p, _, _, rfl, sq s1, hds1, fun h' a' r' e' => ?_, fun H2 s2 => kk _ (if_pos c1) H2 (s1.trans s2)⟩
        injection e' with e1 e'
        injection e' with e1 e'
        rw [← e1]
        exact (hA (.inl c1)).1
      rw [decide_eq_false c1]
      refine iteF ⟨v1, rfl, h, .str "return", dp1, .str _, hh1.shaped, by decide +kernel, _, rfl, ?_⟩
      rw [eqv_sr]
      by_cases c2 : nm h = some (Str.ofString "return")
      · rw [decide_eq_true c2]
        refine iteT ⟨V.ref p, rfl, V.str blk, rfl, p, _, _, blk, rfl, sq s1, hds1, by simp, fun h' a' r' e' => ?_, fun H2 s2 => kk _ ((if_neg c1).trans (if_pos c2)) H2 (s1.trans s2)⟩
        injection e' with e1 e'
        injection e' with e1 e'
        rw [← e1]
        obtain ⟨q1, q2⟩ := hA (.inr c2)
        exact ⟨q1, fun c hc => q2 c (e'.trans hc) c2⟩
      rw [decide_eq_false c2]
      have e0 : okS2 blk h (h :: e2 :: r2) = (decide (nm h = some (Str.ofString "if")) && okIf (h :: e2 :: r2)) := (if_neg c1).trans (if_neg c2)
      refine iteF ⟨v1, rfl, h, .str "if", dp1, .str _, hh1.shaped, by decide +kernel, _, rfl, ?_⟩
      rw [eqv_sr]
      by_cases c3 : nm h = some (Str.ofString "if")
      · rw [decide_eq_true c3]
        refine iteT ⟨V.ref p, rfl, p, _, _, rfl, sq s1, hds1, fun h' a' r' e' => ?_, fun H2 s2 => kk _ (by rw [e0, decide_eq_true c3]; rfl) H2 (s1.trans s2)⟩
        injection e' with e1 e'
        injection e' with e1 e'
        rw [← e1]
        exact hI c3
      · rw [decide_eq_false c3]
        exact iteF (kk _ (by rw [e0, decide_eq_false c3]; rfl) H1 s1)
end
end SK
namespace SK
open PySem PySem.Spec PyProof.Rows L2 LamX NdefX HT
open K0 (De DeAll XCl spX withX)
/-! ### tuple[::-1], list.extend(tuple) -/
theorem rv_places (n : Nat) : Builtin.Slice.slicePlaces ((n : Int) - 1) (-1) (-1) = n := by
  unfold Builtin.Slice.slicePlaces
  rw [if_neg (by decide)]
  by_cases h : (n : Int) - 1 > -1
  · rw [if_pos h]
    have e : ((n : Int) - 1 - -1 - 1) / (- -1) + 1 = n := by
      rw [show (- -1 : Int) = 1 from rfl, Int.ediv_one]
      omega
    rw [e]
    rfl
  · rw [if_neg h]
    omega
theorem rv_adj (n : Nat) : Builtin.Slice.sliceAdjust none none (-1) (n : Int) = ((n : Int) - 1, -1) := rfl
theorem rv_list {α : Type} (l : List α) : ((List.range l.length).filterMap fun k => l[l.length - 1 - k]?) = l.reverse := by
  have h : ((List.range l.length).map fun k => l[l.length - 1 - k]?) = l.reverse.map some := by
    apply List.ext_getElem
    · simp
    · intro i h1 h2
      simp only [List.length_map, List.length_range] at h1
      simp only [List.getElem_map, List.getElem_range, List.getElem_reverse]
      exact List.getElem?_eq_getElem (by omega)
  have e : ((List.range l.length).filterMap fun k => l[l.length - 1 - k]?) = ((List.range l.length).map fun k => l[l.length - 1 - k]?).filterMap id := by
    rw [List.filterMap_map]
    rfl
  rw [e, h, List.filterMap_map]
  show l.reverse.filterMap some = l.reverse
  exact List.filterMap_some
theorem fm_congr {α β : Type} {f g : α → Option β} : ∀ {l : List α}, (∀ x ∈ l, f x = g x) → l.filterMap f = l.filterMap g
  | [], _ => rfl
  | a :: l, h => by
    rw [List.filterMap_cons, List.filterMap_cons, h a (by simp), fm_congr fun x hx => h x (List.mem_cons_of_mem _ hx)]
theorem rv_pick (xs : Array Value) : ((List.range xs.size).filterMap fun k : Nat => xs[(((xs.size : Int) - 1) + (k : Int) * (-1)).toNat]?).toArray = xs.toList.reverse.toArray := by
  rw [← rv_list, Array.length_toList]
  congr 1
  refine fm_congr fun k hk => ?_
  have hk := List.mem_range.mp hk
  have e : (((xs.size : Int) - 1) + (k : Int) * (-1)).toNat = xs.size - 1 - k := by omega
  rw [e, Array.getElem?_toList]
section
variable {prog : Program} {w : World} {A : Around} {E : Value → Shared → Prop} {s : Shared}
theorem rv_applied {sl : Addr} {vs : Value} {n : Nat} {Q : Int × Int × Nat → Shared → Prop} (hs : s.heap.IsSliceOf sl .none .none vs) (pv : IsPart vs (some (-1))) (h : Q ((n : Int) - 1, -1, n) s) : wpAny (model prog w) A (Builtin.Slice.sliceApplied (.ref sl) (pure (n : Int))) Q E s := by
  obtain ⟨os, h1, h2, h3⟩ := id hs
  unfold Builtin.Slice.sliceApplied; unfold Builtin.Slice.sliceFields
  refine wpAny_bind (wpAny_bind (wpAny_field h1 h3 (x := .none) rfl (wpAny_bind (wpAny_field h1 h3 (x := .none) rfl (wpAny_bind (wpAny_field h1 h3 (x := vs) rfl (wpAny_pure ?_)))))))
  refine wpAny_bind (slicePart_ pv ?_)
  show wpAny _ _ (if ((-1 : Int) == 0) = true then _ else _) _ _ s
  rw [if_neg (by decide)]
  refine wpAny_bind (slicePart_none (wpAny_bind (slicePart_none (wpAny_bind (wpAny_pure ?_)))))
  show wpAny _ _ (pure ((n : Int) - 1, (-1 : Int), Builtin.Slice.slicePlaces ((n : Int) - 1) (-1) (-1))) _ _ s
  rw [rv_places]
  exact wpAny_pure h
theorem item_tupRev {t sl : Addr} {items : Array Value} {vs : Value} {Q : Value → Shared → Prop} (ht : IsTup s.heap t items) (hs : s.heap.IsSliceOf sl .none .none vs) (pv : IsPart vs (some (-1)))
    (h : Q (.ref s.heap.objs.size) { s with heap := s.heap.push { cls := .type "tuple", data := .seq items.toList.reverse.toArray } }) (hz : items.size ≤ sizeLine) : wpAny (model prog w) A (getItem (.ref t) (.ref sl)) Q E s := by
  have hsz : sizeOk (.seq items.toList.reverse.toArray) := by
    show items.toList.reverse.toArray.size ≤ sizeLine
    rw [List.size_toArray, List.length_reverse, Array.length_toList]
    exact hz
  obtain ⟨os, h1, h2, h3⟩ := id hs
  have hT : s.TypeIs (.ref sl) "slice" := ⟨os, h1, h2⟩
  unfold getItem
  try (with_reducible refine wpAny_holding ?_)
  try refine wpAny_bind (wpAny_pure ?_)
  refine wpAny_bind (wpAny_sequenceKey ht.typeIs (by decide) (wpAny_bind (wpAny_callSpecial?_slot (name := Str.ofString "__getitem__") ht.typeIs PyProof.Rows.slot_tuple_getitem (wpAny_call_entry PyProof.Rows.slot_tuple_getitem ht.typeIs entry_tuple_getitem ?_ (args_tuple_getitem _ _)))))
  show wpAny _ _ (Builtin.Tuple.tupleItemsOf (.ref t) >>= _) _ _ s
  refine wpAny_bind (tupleItemsOf_ ht (wpAny_bind (wpAny_typeOf hT ?_)))
  rw [if_pos (by decide)]
  refine wpAny_bind (rv_applied hs pv ?_)
  have hno : ¬ ((((items.size : Int) - 1) == 0 && (-1 : Int) == 1 && items.size == items.size) = true) := by
    intro q
    rw [Bool.and_eq_true, Bool.and_eq_true] at q
    exact absurd q.1.2 (by decide)
  show wpAny _ _ (if (((items.size : Int) - 1) == 0 && (-1 : Int) == 1 && items.size == items.size) = true then _ else _) _ _ s
  rw [if_neg hno, rv_pick]
  exact wpAny_bind (m := Builtin.Tuple.tupleExact _) (wpAny_newObj_type (wpAny_pure ⟨_, rfl, wpAny_pure h⟩) hsz)
end
def tRevT (K : PySem.W.Frag) (te : TE) : TE := fun σ H Q => te σ H fun x H1 => ∃ a xs, x = .ref a ∧ SqT K H1 a xs ∧ ∀ p, H1 p = none → Q (.ref p) (upd H1 p (.tup xs.reverse))
theorem pe_revT {X : Cx} {e : Expr} {te : TE} {k : Nat} {p1 p2 p3 pos : Pos} (he : PE X e te) : PE X (.Subscript e (.Slice none none (some (.UnaryOp .USub (.Constant (.int 1) k p1) p2)) p3) pos) (tRevT X.K te) := by
  refine ⟨fun pins s σ H Q I h => Subscript_ (thn (he.run pins s σ H _ I h) fun v s1 ⟨x, H1, I1, r1, a, xs, ex, hx, q⟩ => ?_)⟩
  subst ex
  cases r1
  have st : PO X (some (.UnaryOp .USub (.Constant (.int 1) k p1) p2)) (tPart (tUn (rU fun i => .int (-i)) (tC (.int 1)))) := po_some (pe_un un_neg pe_int)
  refine wpAny_Slice (thn (po_none.run pins s1 σ H1 (fun o H2 => o = none ∧ H2 = H1) I1 ⟨rfl, rfl⟩) fun lo s2 ⟨l, H2, I2, pl, el, e2⟩ => ?_); subst el e2
  refine thn (po_none.run pins s2 σ H2 (fun o H3 => o = none ∧ H3 = H2) I2 ⟨rfl, rfl⟩) fun hi s3 ⟨u, H3, I3, pu, eu, e3⟩ => ?_; subst eu e3
  refine thn (st.run pins s3 σ H3 (fun o H4 => o = some (-1) ∧ H4 = H3) I3 ⟨1, rfl, -1, rfl, rfl, rfl⟩) fun vs s4 ⟨o, H4, I4, ps, eo, e4⟩ => ?_; subst eo e4
  have I5 : Inv X pins σ H4 { s4 with heap := s4.heap.push { cls := .type "slice", data := .fields #[lo, hi, vs] } } := I4.kept (t' := s4.toks) fun b ob q => Heap.get?_push_of_some _ q
  obtain ⟨its, r, ht, hz⟩ := I5.tuple hx
  show wpAny (model X.prog X.w) X.A (subscriptTail e (.Slice none none (some (.UnaryOp .USub (.Constant (.int 1) k p1) p2)) p3) (.ref a) (.ref s4.heap.objs.size)) (EP X pins σ Q) X.xe { s4 with heap := s4.heap.push { cls := .type "slice", data := .fields #[lo, hi, vs] } }
  cases pl
  cases pu
  refine tail_any (ops := [.ref a, .ref s4.heap.objs.size]) ht.typeIs (PyProof.Rows.slot_tuple_getitem.lookup) ?_ (by with_unfolding_all rfl)
  refine item_tupRev ht (Heap.IsSliceOf.new _ .none .none vs) ps ?_ (by rw [List.size_toArray, ← r.length]; exact hz)
  refine ⟨.ref _, _, I5.laid (t' := s4.toks) (o := .tup xs.reverse) (fun b ob q => Heap.get?_push_of_some _ q) (Nat.le_refl _) ?_, rfl, q _ (I5.hok.fresh (Nat.le_refl _))⟩
  exact ⟨by rw [List.length_reverse]; exact hz, _, r.reverse, IsTup.new _ _⟩
theorem pe_either {X : Cx} {e : Expr} {t1 t2 : TE} (h1 : PE X e t1) (h2 : PE X e t2) : PE X e (fun σ H Q => t1 σ H Q ∨ t2 σ H Q) := ⟨fun pins s σ H Q I h => h.elim (h1.run pins s σ H Q I) (h2.run pins s σ H Q I)⟩
end SK
namespace PySem.SeqAt
open PySem
theorem ext_tup (l b : Addr) (xs ys : Array Value) (n m : Nat) (dd : Option Addr) (sl : Array (Option Value)) (h0 : ¬ (!xs.isEmpty && Builtin.List.listTooLong (xs.size + ys.size)) = true) (h1 : xs.size ≤ sizeLine) (h2 : xs.size + ys.size ≤ sizeLine + 1) :
    Meets (Builtin.«list.extend» ⟨[.ref l, .ref b], []⟩) (fun _ R s => s.heap.get? l = some { cls := .type "list", dict := none, data := .seq xs n, slots := #[] } ∧ s.heap.get? b = some { cls := .type "tuple", dict := dd, data := .seq ys m, slots := sl } ∧ R (.ok (.ret Value.none)) { s with heap := s.heap.update l (Obj.mapSeq fun x => x ++ ys), toks := s.toks }) :=
  .of_wp fun prog w A R s h => by
    obtain ⟨hp, g, d, tk, os⟩ := s
    obtain ⟨hl, hb, h⟩ := h
    have f1 := PySem.F.sub_tuple_tuple
    have f2 := PySem.F.sub_list_list
    have f3 := PySem.F.sub_tuple_list
    have f4 := PySem.F.sub_list_tuple
    have hz' : (xs ++ ys).size ≤ sizeLine + 1 := by rw [Array.size_append]; exact h2
    wp_walk using (wpAny_updateSeq hl rfl (hz := h1) (_hz' := hz')), wpAny_loadPart' hl, wpAny_loadPart' hb
    exact ⟨_, rfl, h⟩
end PySem.SeqAt
namespace SK
open PySem PySem.Spec PyProof.Rows L2 LamX NdefX
open K0 (De DeAll XCl spX withX)
section
variable {X : Cx}
def rExtT (K : PySem.W.Frag) : V → List V → Hp → VK → Prop := fun x vs H Q => ∃ l b xs zs, x = .ref l ∧ vs = [.ref b] ∧ H l = some (.lst xs) ∧ SqT K H b zs ∧ xs.length + zs.length ≤ sizeLine ∧ Q .non (upd H l (.lst (xs ++ zs)))
theorem mt_extT : MtM X "list.extend" (rExtT X.K) := by
  intro pins s σ H x vs v us Q I rx rv h
  obtain ⟨l, b, xs, zs, rfl, rfl, h1, h2, hz, q⟩ := h
  cases rx
  obtain ⟨u, rfl, ru⟩ := rv.one
  cases ru
  obtain ⟨z, its, n, r, hl, e⟩ := I.lstM h1
  obtain ⟨jts, r2, ht, z2⟩ := I.tuple h2
  obtain ⟨⟨cls, dd, data, sl⟩, ho, hc, m, hd⟩ := id ht
  simp only at hc hd
  subst hc hd
  have l1 := r.length
  have l2 := r2.length
  have hs : its.toArray.size + jts.toArray.size ≤ sizeLine := by simp only [List.size_toArray]; omega
  have hno : ¬ (!its.toArray.isEmpty && Builtin.List.listTooLong (its.toArray.size + jts.toArray.size)) = true := by rw [notLongL hs, Bool.and_false]; simp
  refine call_meets F.slot_list_extend ⟨_, e, rfl⟩ F.entry_list_extend (F.args_list_extend_2 _ _) (SeqAt.ext_tup l b its.toArray jts.toArray n m dd sl hno (by simp only [List.size_toArray] at hs ⊢; omega) (by omega)) ⟨e, ho, ?_⟩
  exact ⟨.non, _, I.lset (its' := its ++ jts) h1 e (by simp) (r.append r2) (by rw [List.length_append]; omega), rfl, q⟩
theorem mtm_or {id : String} {r r' : V → List V → Hp → VK → Prop} (h : MtM X id r) (h' : MtM X id r') : MtM X id (fun x xs H Q => r x xs H Q ∨ r' x xs H Q) := fun pins s σ H x xs v us Q I rx rv q =>
  q.elim (h pins s σ H x xs v us Q I rx rv) (h' pins s σ H x xs v us Q I rx rv)
end
end SK
namespace SK
open PySem PySem.Spec PyProof.Rows L2 LamX NdefX
open K0 (De DeAll XCl spX withX)
/-! ### how many statements -/
def inner (d : PyData) : List PyData := match elems d with
  | [h, _, b1, b2] => if nm h = some (Str.ofString "if") then elems b1 ++ elems b2 else []
  | _ => []
/-- the number of statements, or the number of the first wrong one -/
def scanF (blk : Str) : Nat → List PyData → Nat → Option (Nat ⊕ Nat)
  | _, [], n => some (.inr n)
  | 0, _ :: _, _ => none
  | F + 1, d :: r, n => if okS blk d = true then scanF blk F (inner d ++ r) (n + 1) else some (.inl n)
def scanH (blk : Str) : Nat → List PyData → Prop
  | 0, _ => True
  | F + 1, ws => ws.length ≤ 5000 ∧ ∀ d r, ws = d :: r → hdS d ∧ (okS blk d = true → (elems d).length ≤ 5000 ∧ scanH blk F (inner d ++ r))
def spNum (K : PySem.W.Frag) (C : Addr) : Sp := fun vs H Q E => ∃ (v : V) (d : PyData) (blk : Str), vs = [.str blk, v] ∧ De K H v d ∧ blk ∈ blk3 ∧
  (isTL d = false → Thrown E C H [("number", .int 0), ("block", .str blk)]) ∧
  (isTL d = true → ∃ F res, scanF blk F (elems d) 0 = some res ∧ scanH blk (F + 1) (elems d) ∧ (∀ n : Nat, res = .inr n → ∀ H', Same H H' → Q (.int (n : Nat)) H') ∧ (∀ n : Nat, res = .inl n → Thrown E C H [("number", .int (n : Nat)), ("block", .str blk)]))
theorem none_of {H H1 : Hp} {a : Addr} (s : Same H H1) (n : H1 a = none) : H a = none := by
  cases e : H a with
  | none => rfl
  | some o =>
    rw [s _ _ e] at n
    cases n
theorem rev_go {K : PySem.W.Frag} {te : TE} {σ : St} {H1 : Hp} {p : Addr} {xs : List V} {Q : VK} (ht : ∀ Q' : VK, Q' (.ref p) H1 → te σ H1 Q') (hs : SqL K H1 p xs ∨ SqT K H1 p xs)
    (k : ∀ (G : Hp) (r : Addr), Same H1 G → H1 r = none → (G r = some (.lst xs.reverse) ∨ G r = some (.tup xs.reverse)) → Q (.ref r) G) : tRevL K te σ H1 Q ∨ tRevT K te σ H1 Q := by
  rcases hs with h | h
  · exact .inl (ht _ ⟨p, xs, rfl, h, fun r nr => k _ r (upd_new nr) nr (.inl upd_same)⟩)
  · exact .inr (ht _ ⟨p, xs, rfl, h, fun r nr => k _ r (upd_new nr) nr (.inr upd_same)⟩)
theorem ext_go {K : PySem.W.Frag} {G : Hp} {q r : Addr} {cur zs : List V} {R : VK} (h : G r = some (.lst zs) ∨ G r = some (.tup zs)) (hq : G q = some (.lst cur)) (hz : cur.length + zs.length ≤ sizeLine) (k : R .non (upd G q (.lst (cur ++ zs)))) :
    rExtend (.ref q) [.ref r] G R ∨ rExtT K (.ref q) [.ref r] G R := h.elim (fun h => .inl ⟨q, r, cur, zs, rfl, rfl, hq, h, hz, k⟩) (fun h => .inr ⟨q, r, cur, zs, rfl, rfl, hq, .inl (.inl h), hz, k⟩)
/-- what a statement that is right is made of -/
theorem okS_shape {blk : Str} {d : PyData} (h : okS blk d = true) : isTL d = true ∧ ∃ h' r, elems d = h' :: r ∧ (nm h' = some (Str.ofString "if") → ∃ t b1 b2, r = [t, b1, b2] ∧ isTL b1 = true ∧ isTL b2 = true) := by
  unfold okS at h
  rw [Bool.and_eq_true] at h
  refine ⟨h.1, ?_⟩
  have h2 := h.2
  generalize elems d = ds at h2
  match ds, h2 with
  | [x], h2 =>
    refine ⟨x, [], rfl, fun e => ?_⟩
    have z : wordLet x blk = true := h2
    unfold wordLet at z
    rw [e] at z
    have e2 : letD (Str.ofString "if") = [] := by decide +kernel
    have z : decide (blk ∈ letD (Str.ofString "if")) = true := z
    rw [e2] at z
    cases z
  | x :: a :: r, h2 =>
    refine ⟨x, a :: r, rfl, fun e => ?_⟩
    have z : okS2 blk x (x :: a :: r) = true := h2
    unfold okS2 at z
    rw [if_neg (fun q => by rw [e] at q; exact absurd q (by decide)), if_neg (fun q => by rw [e] at q; exact absurd q (by decide)), Bool.and_eq_true] at z
    have z := z.2
    match r, z with
    | [b1, b2], z =>
      have z : (okT 6 a && (isTL b1 && (!(elems b1).isEmpty && isTL b2))) = true := z
      simp only [Bool.and_eq_true] at z
      exact ⟨a, b1, b2, rfl, z.2.1, z.2.2.2⟩
section
variable {P : Program} {w : World} {K : PySem.W.Frag} {mg : Str → Option Value} {base : Heap} {f fL fSt C : Addr} {fd fdL fdSt : FuncData}
abbrev NNu : List Str := ["name", "block", "number", "ahead", "statement"]
theorem ok_num (F : Fun K "number_of_statements" "number_of_statements" (top 19) f fd) (D : XR P w K mg base "BadStatement" C ["block", "number"]) (gLi : mg "list" = none)
    (gL : mg "is_list" = some (.ref fL)) (kL : PySem.W.keepIn K (.ref fL) = true) (GL : FnOk P w K mg base CX0 1 fL fdL ["value"] (spIsL K)) (bL : Binds K fdL ["value"] [])
    (gSt : mg "is_statement" = some (.ref fSt)) (kSt : PySem.W.keepIn K (.ref fSt) = true) (GSt : FnOk P w K mg base CX0 11 fSt fdSt ["statement", "block"] (spSt K)) (bSt : Binds K fdSt ["statement", "block"] []) :
    FnOk P w K mg base (L2.CX P w) 12 f fd ["name", "block"] (spNum K C) := by
  have S0 : FnScope NNu ["name", "block"] (defScope (top 19)) := ⟨rfl, rfl, rfl, by decide +kernel, rfl, by decide +kernel, by decide +kernel⟩
  have nd := S0.nd
  refine F.okX S0 (fun vs H Q E h => ?_) (fun cdv A outer s H vs Q E hr h => ?_)
  · obtain ⟨v, d, blk, rfl, _⟩ := h
    rfl
  · obtain ⟨v, d, blk, rfl, hd, hb, k1, k2⟩ := h
    obtain ⟨fi, fdi, iC, tI, F1, b1⟩ := D.ini
    have hu64 := hr.units
    have hr1 : Room 1 _ := hr.mono (by decide)
    have hr2 : Room 2 _ := hr.mono (by decide)
    refine ⟨_, (pss_cons (ps_if (pt_not (pt_val (pe_call GL hr1 (by rfl) gL kL bL .nil pass0 (pa_cons (pv 1) pa_nil)))) (pss_one (ps_raise rfl (takes_of rfl rfl rfl rfl) (pmk_oex D.cl.T iC tI F1 hr2 b1 .nil pass0 (by rfl) D.gC (pa_cons (pv 0) (pa_cons pe_int pa_nil))))) pss_nil)
        (pss_cons (ps_set (i := 2) nd rfl (Or.inl rfl) pe_int)
        (pss_cons (ps_set (i := 3) nd rfl (Or.inl rfl) (pe_callTy call_list_of (by rfl) gLi PyProof.Rows.boot_list (pa_cons (pe_either (pe_revL (pv 1)) (pe_revT (pv 1))) pa_nil)))
        (pss_cons (ps_while (passes_of rfl) (pt_truth (pv 3) (fun _ => rfl)) (pss_cons (ps_set (i := 4) nd rfl (Or.inl rfl) (pe_bm0 PySem.F.plainAttrs_list PySem.F.slot_list_pop PySem.F.type_list_pop mt_pop (pv 3)))
        (pss_cons (ps_if (pt_not (pt_val (pe_call GSt hr (by rfl) gSt kSt bSt .nil pass0 (pa_cons (pv 4) (pa_cons (pv 0) pa_nil))))) (pss_one (ps_raise rfl (takes_of rfl rfl rfl rfl) (pmk_oex D.cl.T iC tI F1 hr2 b1 .nil pass0 (by rfl) D.gC (pa_cons (pv 0) (pa_cons (pv 2) pa_nil))))) pss_nil)
        (pss_cons (ps_aug (i := 2) nd rfl (Or.inl rfl) pe_int ip_add)
        (pss_one (ps_if (pt_cmpR (r := rEqD K) (op_eqD hu64) (pe_ix (r := rIx K) ix_seq (pv 4) pe_int (fun _ _ => rfl)) pe_str (nomark _)) (pss_cons (ps_expr (pe_bm PySem.F.plainAttrs_list PySem.F.slot_list_extend PySem.F.type_list_extend (mtm_or mt_extend mt_extT) (pv 3) (pa_cons (pe_either (pe_revL (pe_ix (r := rIx K) ix_seq (pv 4) pe_int (fun _ _ => rfl))) (pe_revT (pe_ix (r := rIx K) ix_seq (pv 4) pe_int (fun _ _ => rfl)))) pa_nil)))
        (pss_one (ps_expr (pe_bm PySem.F.plainAttrs_list PySem.F.slot_list_extend PySem.F.type_list_extend (mtm_or mt_extend mt_extT) (pv 3) (pa_cons (pe_either (pe_revL (pe_ix (r := rIx K) ix_seq (pv 4) pe_int (fun _ _ => rfl))) (pe_revT (pe_ix (r := rIx K) ix_seq (pv 4) pe_int (fun _ _ => rfl)))) pa_nil))))) pss_nil))))))
        (pss_one (ps_ret (pv 2))))))), ?_⟩
    refine ⟨v, rfl, v, d, rfl, hd, fun H1 s1 => ⟨isTL d, rfl, ?_⟩⟩
    rcases tl_shape hd with e | ⟨p, xs, rfl, hds, hsq, e⟩
    · rw [e]
      exact iteT ⟨V.str blk, rfl, rd_mk rfl (by show 2 ≤ 1000; decide) fun dx H' s' n' q => k1 e H' dx (s1.trans s') (none_of s1 n') q⟩
    rw [e]
    refine iteF ?_
    obtain ⟨F0, res, hsc, hsh, r1, r2⟩ := k2 e
    generalize elems d = ds at hds hsc hsh
    have sq : ∀ {H' : Hp}, Same H H' → (SqL K H' p xs ∨ SqT K H' p xs) := fun {H'} s => hsq.elim (fun h => .inl (Same.seq s h)) (fun h => .inr (Same.seqT s h))
    refine rev_go (p := p) (xs := xs) (fun Q' h => ⟨V.ref p, rfl, h⟩) (sq s1) fun G0 r0 s0 nr0 hr0 => ⟨r0, _, rfl, hr0.elim (fun h => .inl (.inl (.inl h))) (fun h => .inr (.inl (.inl h))), fun q nq => ?_⟩
    have s2 := upd_new (o := .lst xs.reverse) nq
    have hq2 : upd G0 q (.lst xs.reverse) q = some (.lst xs.reverse) := upd_same
    have s02 := (s1.trans s0).trans s2
    have nqH : H q = none := none_of (s1.trans s0) nq
    generalize upd G0 q (.lst xs.reverse) = G2 at s2 hq2 s02
    refine ⟨fun m σ G => ∃ (ws : List PyData) (ys : List V) (n : Nat) (x4 : Option V), σ = [some (.str blk), some (.ref p), some (.int (n : Nat)), some (.ref q), x4] ∧ G q = some (.lst ys.reverse) ∧ DeAll K H ys ws ∧ scanF blk m ws n = some res ∧ scanH blk (m + 1) ws ∧ Same H G, ⟨F0, ds, xs, 0, none, rfl, hq2, hds, hsc, hsh, s02⟩, ?_⟩
    rintro m σ G ⟨ws, ys, n, x4, rfl, hq, hdw, hsc, hsh, sG⟩
    refine ⟨V.ref q, rfl, !ys.reverse.isEmpty, .inl ⟨ys.reverse, .inl (.inl hq), rfl⟩, ?_⟩
    cases hdw with
    | nil =>
      have er : res = .inr n := by
        have z : scanF blk m [] n = some (.inr n) := by cases m <;> rfl
        rw [z] at hsc
        exact (Option.some.inj hsc).symm
      exact iteF ⟨V.int n, rfl, r1 n er G sG⟩
    | @cons v1 vr dd r hd1 hdr =>
      cases m with
      | zero => cases hsc
      | succ m =>
      have hsc : (if okS blk dd = true then scanF blk m (inner dd ++ r) (n + 1) else some (.inl n)) = some res := hsc
      obtain ⟨hwl, hsh⟩ := hsh
      obtain ⟨hdd, hnx⟩ := hsh dd r rfl
      rw [List.reverse_cons] at hq ⊢
      have hne : (!(vr.reverse ++ [v1]).isEmpty) = true := by simp
      rw [hne]
      refine iteT ⟨fun σ G => ∃ (ws : List PyData) (ys : List V) (n : Nat) (x4 : Option V), σ = [some (.str blk), some (.ref p), some (.int (n : Nat)), some (.ref q), x4] ∧ G q = some (.lst ys.reverse) ∧ DeAll K H ys ws ∧ scanF blk m ws n = some res ∧ scanH blk (m + 1) ws ∧ Same H G, fun σ' H' h => ⟨m, by omega, h⟩, ?_⟩
      refine ⟨V.ref q, rfl, .inl ⟨rfl, _, .inl (.inl hq)⟩, q, _, v1, rfl, rfl, hq, by simp, ?_⟩
      rw [List.dropLast_concat]
      have sU : ∀ {G' : Hp} {o : HO}, Same H G' → Same H (upd G' q o) := fun {G' o} s c u h => by
        rw [upd_ne (ne_of_none h nqH)]
        exact s _ _ h
      have s3 : Same H (upd G q (.lst vr.reverse)) := sU sG
      have hq3 : upd G q (.lst vr.reverse) q = some (.lst vr.reverse) := upd_same
      generalize upd G q (.lst vr.reverse) = G3 at s3 hq3
      refine ⟨v1, rfl, V.str blk, rfl, v1, dd, blk, rfl, de_mono s3 _ _ hd1, hb, hdd, fun G4 s4 => ⟨okS blk dd, rfl, ?_⟩⟩
      have s34 := s3.trans s4
      have hq4 := s4 _ _ hq3
      cases eo : okS blk dd with
      | false =>
        rw [eo, if_neg Bool.false_ne_true] at hsc
        exact iteT ⟨V.str blk, rfl, V.int n, rfl, rd_mk rfl (by show 2 ≤ 1000; decide) fun dx H' s' n' q => r2 n (Option.some.inj hsc).symm H' dx (s34.trans s') (none_of s34 n') q⟩
      | true =>
        rw [eo, if_pos rfl] at hsc
        obtain ⟨hel, hnx⟩ := hnx eo
        obtain ⟨ht, h', r', ee, hif⟩ := okS_shape eo
        rcases tl_shape hd1 with z | ⟨p1, us, rfl, hus, hsu, _⟩
        · rw [z] at ht
          cases ht
        have squ : ∀ {H' : Hp}, Same H H' → (SqL K H' p1 us ∨ SqT K H' p1 us) := fun {H'} s => hsu.elim (fun h => .inl (Same.seq s h)) (fun h => .inr (Same.seqT s h))
        have ixF : ∀ {H' : Hp} (j : Nat) (v' : V) (R : VK), Same H H' → us[j]? = some v' → R v' H' → rIx K (.ref p1) (.int (j : Nat)) H' R := fun {H'} j v' R s hj hR => by
          rcases squ s with h | h
          · exact .inl ⟨p1, us, (j : Int), v', rfl, rfl, h, atI_nat hj, hR⟩
          · exact .inr (.inl ⟨p1, us, (j : Int), v', rfl, rfl, h, atI_nat hj, hR⟩)
        have hh' : HdOk h' := (hdd h' r' ht ee).1
        rw [ee] at hus
        have hus0 := hus
        cases hus with
        | @cons u0 ur _ _ hu0 hur =>
        refine iteF ⟨V.int n, rfl, (n : Int), 1, rfl, rfl, ?_⟩
        refine ⟨V.ref p1, rfl, ixF 0 u0 _ s34 rfl ⟨h', .str "if", hh'.dp (de_mono s34 _ _ hu0), .str _, hh'.shaped, by decide +kernel, _, rfl, ?_⟩⟩
        rw [eqv_sr]
        by_cases c1 : nm h' = some (Str.ofString "if")
        · rw [decide_eq_true c1]
          obtain ⟨t, b1', b2', rfl, hT1, hT2⟩ := hif c1
          cases hur with
          | @cons u1 _ _ _ hu1 hur =>
          cases hur with
          | @cons u2 _ _ _ hu2 hur =>
          cases hur with
          | @cons u3 _ _ _ hu3 hur =>
          cases hur
          rcases tl_shape hu2 with z | ⟨p2, ys1, rfl, hy1, hs2, _⟩
          · rw [z] at hT1
            cases hT1
          rcases tl_shape hu3 with z | ⟨p3, ys2, rfl, hy2, hs3, _⟩
          · rw [z] at hT2
            cases hT2
          have ei : inner dd = elems b1' ++ elems b2' := by
            unfold inner
            rw [ee]
            exact if_pos c1
          have hz5 := hnx.1
          rw [ei] at hsc hnx hz5
          have l1 := deAll_len hy1
          have l2 := deAll_len hy2
          have l3 := deAll_len hdr
          rw [List.length_append, List.length_append] at hz5
          have b5 : (5000 : Nat) < sizeLine := by decide
          refine iteT ⟨V.ref q, rfl, .inl ⟨rfl, _, .inl (.inl hq4)⟩, rev_go (p := p3) (xs := ys2) (fun Q' h => ⟨V.ref p1, rfl, ixF 3 (.ref p3) _ s34 rfl h⟩) (hs3.elim (fun h => .inl (Same.seq s34 h)) (fun h => .inr (Same.seqT s34 h))) fun G5 r5 s5 nr5 hr5 => ext_go hr5 (s5 _ _ hq4) (by rw [List.length_reverse, List.length_reverse]; omega) ?_⟩
          have s6 : Same H (upd G5 q (.lst (vr.reverse ++ ys2.reverse))) := sU (s34.trans s5)
          have hq6 : upd G5 q (.lst (vr.reverse ++ ys2.reverse)) q = some (.lst (vr.reverse ++ ys2.reverse)) := upd_same
          generalize upd G5 q (.lst (vr.reverse ++ ys2.reverse)) = G6 at s6 hq6
          refine ⟨V.ref q, rfl, .inl ⟨rfl, _, .inl (.inl hq6)⟩, rev_go (p := p2) (xs := ys1) (fun Q' h => ⟨V.ref p1, rfl, ixF 2 (.ref p2) _ s6 rfl h⟩) (hs2.elim (fun h => .inl (Same.seq s6 h)) (fun h => .inr (Same.seqT s6 h))) fun G7 r7 s7 nr7 hr7 => ext_go hr7 (s7 _ _ hq6) (by rw [List.length_append, List.length_reverse, List.length_reverse, List.length_reverse]; omega) ?_⟩
          refine ⟨elems b1' ++ elems b2' ++ r, ys1 ++ ys2 ++ vr, n + 1, _, rfl, ?_, deAll_app (deAll_app hy1 hy2) hdr, hsc, hnx, sU (s6.trans s7)⟩
          rw [upd_same, List.reverse_append, List.reverse_append, List.append_assoc]
        · rw [decide_eq_false c1]
          have ei : inner dd = [] := by
            unfold inner
            rw [ee]
            split
            · rename_i e
              injection e with e1 e2
              rw [← e1, if_neg c1]
            · rfl
          rw [ei, List.nil_append] at hsc hnx
          exact iteF ⟨r, vr, n + 1, _, rfl, hq4, hdr, hsc, hnx, s34⟩
end
end SK
namespace SK
open PySem PySem.Spec PyProof.Rows L2 LamX NdefX
open K0 (De DeAll XCl spX withX)
/-! ### three blocks -/
section
variable {K : PySem.W.Frag} {a : Addr} {xs : List V} {g : TG} {tt : TT} {te : TE} {vs : List Nat} {σ : St} {H1 : Hp} {D : Addr} {Qd : Hp → Prop}
theorem lcS_tup {α : Type} {ws : List α} (enc : α → V) (nD : H1 D = none) (f : α → V) (c : α → Bool) (hS : SqT K H1 a (ws.map enc)) (hz : ws.length < sizeLine) (step : ∀ (i : Nat) (x : α) (H : Hp), ws[i]? = some x → Same H1 H → TurnS g tt te vs σ (enc x) (f x) (c x) H)
    (fin : ∀ H, Same H1 H → H D = some (.lst ((ws.filter c).map f)) → Qd H) :
    ∃ W : Nat → Nat → Hp → Prop, (∃ m, W 0 m (upd H1 D (.lst []))) ∧ ∀ i m H, W i m H →
      ((Itt K a).stop i H ∧ Qd H) ∨ ((Itt K a).go i H ∧ ∃ Nx : Hp → Prop, (∀ H', Nx H' → ∃ m', m' < m ∧ W (i + 1) m' H') ∧ ∀ x H', (Itt K a).yld i H x H' → g x (wipe σ vs) H' fun σ2 H2 => wipe σ2 vs = wipe σ vs ∧ tt σ2 H2 fun b H3 =>
        if b = true then te σ2 H3 fun y H4 => ∃ acc, H4 D = some (.lst acc) ∧ acc.length < sizeLine ∧ Nx (upd H4 D (.lst (acc ++ [y]))) else Nx H3) := by
  refine lc_tup (K := K) (a := a) (xs := ws.map enc) (fun i H => Same H1 H ∧ H D = some (.lst (((ws.take i).filter c).map f))) ⟨same_new nD, upd_same⟩ (fun i H _ p => SK.Same.seqT p.1 hS) (fun i x H hx p => ?_) fun H p => fin H p.1 (by rw [List.length_map, List.take_length] at p; exact p.2)
  obtain ⟨s, hD⟩ := p
  obtain ⟨y, hy, rfl⟩ := map_at hx
  refine step i y H hy s _ _ (fun hc H' s' => ⟨_, s' _ _ hD, Nat.lt_of_le_of_lt filt_len hz, same_upd nD (s.trans s'), ?_⟩) fun hc H' s' => ⟨s.trans s', ?_⟩
  · rw [filt_snoc hy, if_pos hc]
    exact upd_same
  · rw [filt_snoc hy, if_neg (by rw [hc]; simp), List.append_nil]
    exact s' _ _ hD
end
/-- a block that is right, of so many statements -/
def BlkR (K : PySem.W.Frag) (H : Hp) (blk : Str) (v : V) (n : Nat) : Prop := ∃ (d : PyData) (F : Nat), De K H v d ∧ isTL d = true ∧ scanF blk F (elems d) 0 = some (.inr n) ∧ scanH blk (F + 1) (elems d)
theorem BlkR.mono {K : PySem.W.Frag} {H H' : Hp} {blk : Str} {v : V} {n : Nat} (b : BlkR K H blk v n) (s : Same H H') : BlkR K H' blk v n := by
  obtain ⟨d, F, h1, h2⟩ := b
  exact ⟨d, F, de_mono s _ _ h1, h2⟩
def spCbR (K : PySem.W.Frag) : Sp := fun vs H Q _ => ∃ (v1 v2 v3 : V) (n1 n2 n3 : Nat), vs = [v1, v2, v3] ∧ BlkR K H (Str.ofString "down") v1 n1 ∧ BlkR K H (Str.ofString "turn") v2 n2 ∧ BlkR K H (Str.ofString "up") v3 n3 ∧ n1 + n2 + n3 ≤ 40 ∧ ∀ H', Same H H' → Q .non H'
section
variable {P : Program} {w : World} {K : PySem.W.Frag} {mg : Str → Option Value} {base : Heap} {f fN C CM : Addr} {fd fdN : FuncData}
abbrev NCb : List Str := ["down", "turn", "up", "many", "name", "block"]
theorem ok_cb (F : Fun K "check_blocks" "check_blocks" (top 20) f fd) (D : XR P w K mg base "TooMany" CM ["what", "many", "most"]) (gSu : mg "sum" = none) {tM : Tok} (gMo : mg "MOST_STATEMENTS" = some (.int 40 tM))
    (gN : mg "number_of_statements" = some (.ref fN)) (kN : PySem.W.keepIn K (.ref fN) = true) (GN : FnOk P w K mg base (L2.CX P w) 12 fN fdN ["name", "block"] (spNum K C)) (bN : Binds K fdN ["name", "block"] []) :
    FnOk P w K mg base (L2.CX P w) 13 f fd ["down", "turn", "up"] (spCbR K) := by
  have S0 : FnScope NCb ["down", "turn", "up"] (defScope (top 20)) := ⟨rfl, rfl, rfl, by decide +kernel, rfl, by decide +kernel, by decide +kernel⟩
  have nd := S0.nd
  refine F.okX S0 (fun vs H Q E h => ?_) (fun cdv A outer s H vs Q E hr h => ?_)
  · obtain ⟨v1, v2, v3, n1, n2, n3, rfl, _⟩ := h
    rfl
  · obtain ⟨v1, v2, v3, n1, n2, n3, rfl, B1, B2, B3, hz, kk⟩ := h
    obtain ⟨fi, fdi, iC, tI, F1, b1⟩ := D.ini
    have hu64 := hr.units
    have hr2 : Room 2 _ := hr.mono (by decide)
    refine ⟨_, (pss_cons (ps_set (i := 3) nd rfl (Or.inl rfl) (pe_callB (cr_sum rfl) (by rfl) gSu PyProof.Rows.boot_sum (pa_cons (pe_lc (own := [("name", 4), ("block", 5)]) (g := gTup K 2 (gCons (gName 4) (gCons (gName 5) gNil))) (tt := tYes) rfl nd (pi_tup (pe_tup (pa_cons (pe_tup (pa_cons pe_str (pa_cons (pv 0) pa_nil))) (pa_cons (pe_tup (pa_cons pe_str (pa_cons (pv 1) pa_nil))) (pa_cons (pe_tup (pa_cons pe_str (pa_cons (pv 2) pa_nil))) pa_nil))))) (blkOk_by (N := NCb) (sc := defScope (top 20)) (by decide +kernel)) (fun _ _ _ _ _ => (pg_tup rfl (pgs_cons (pg_name (i := 4) nd rfl (Or.inl rfl)) (pgs_cons (pg_name (i := 5) nd rfl (Or.inl rfl)) pgs_nil)))) (fun _ _ _ _ _ => pts_nil) (fun _ _ _ _ _ => (pe_call GN hr (by rfl) gN kN bN .nil (passes_call LamX.takes0 (fun _ _ _ _ h => h)) (pa_cons (pv 4) (pa_cons (pv 5) pa_nil))))) pa_nil)))
        (pss_one (ps_if (pt_cmpR op_gt (pv 3) (pe_glob (v := V.int 40) (by rfl) gMo ⟨_, rfl⟩) (nomark _)) (pss_one (ps_raise rfl (takes_of rfl rfl rfl rfl) (pmk_oex D.cl.T iC tI F1 hr2 b1 .nil pass0 (by rfl) D.gC (pa_cons pe_str (pa_cons (pv 3) (pa_cons (pe_glob (v := V.int 40) (by rfl) gMo ⟨_, rfl⟩) pa_nil)))))) pss_nil))), ?_⟩
    refine ⟨v1, rfl, (by show 2 ≤ sizeLine; decide), fun a1 na1 => ?_⟩
    have s1 := upd_new (o := .tup [.str "down", v1]) na1
    have h1 : upd H a1 (.tup [.str "down", v1]) a1 = some (.tup [.str "down", v1]) := upd_same
    generalize upd H a1 (.tup [.str "down", v1]) = G1 at s1 h1
    refine ⟨v2, rfl, (by show 2 ≤ sizeLine; decide), fun a2 na2 => ?_⟩
    have s2 := upd_new (o := .tup [.str "turn", v2]) na2
    have h2 : upd G1 a2 (.tup [.str "turn", v2]) a2 = some (.tup [.str "turn", v2]) := upd_same
    generalize upd G1 a2 (.tup [.str "turn", v2]) = G2 at s2 h2
    refine ⟨v3, rfl, (by show 2 ≤ sizeLine; decide), fun a3 na3 => ?_⟩
    have s3 := upd_new (o := .tup [.str "up", v3]) na3
    have h3 : upd G2 a3 (.tup [.str "up", v3]) a3 = some (.tup [.str "up", v3]) := upd_same
    generalize upd G2 a3 (.tup [.str "up", v3]) = G3 at s3 h3
    refine ⟨(by show 3 ≤ sizeLine; decide), fun t nt => ?_⟩
    have s4 := upd_new (o := .tup [.ref a1, .ref a2, .ref a3]) nt
    have h4 : upd G3 t (.tup [.ref a1, .ref a2, .ref a3]) t = some (.tup [.ref a1, .ref a2, .ref a3]) := upd_same
    generalize upd G3 t (.tup [.ref a1, .ref a2, .ref a3]) = G4 at s4 h4
    have s04 : Same H G4 := s1.trans (s2.trans (s3.trans s4))
    have rows : ∀ (i : Nat) (x : Addr × Str × V × Nat), [(a1, Str.ofString "down", v1, n1), (a2, Str.ofString "turn", v2, n2), (a3, Str.ofString "up", v3, n3)][i]? = some x → G4 x.1 = some (.tup [.str x.2.1, x.2.2.1]) ∧ BlkR K H x.2.1 x.2.2.1 x.2.2.2 ∧ x.2.1 ∈ blk3 := fun i x hx => by
      have hm := List.mem_of_getElem? hx
      simp only [List.mem_cons, List.mem_nil_iff, or_false] at hm
      rcases hm with rfl | rfl | rfl
      · exact ⟨s4 _ _ (s3 _ _ (s2 _ _ h1)), B1, by show Str.ofString "down" ∈ blk3; decide +kernel⟩
      · exact ⟨s4 _ _ (s3 _ _ h2), B2, by show Str.ofString "turn" ∈ blk3; decide +kernel⟩
      · exact ⟨s4 _ _ h3, B3, by show Str.ofString "up" ∈ blk3; decide +kernel⟩
    refine ⟨t, rfl, ⟨_, .inl (.inl h4)⟩, fun D nD => lcS_tup (K := K) (ws := [(a1, Str.ofString "down", v1, n1), (a2, Str.ofString "turn", v2, n2), (a3, Str.ofString "up", v3, n3)]) (fun x => V.ref x.1) nD (fun x => V.int (x.2.2.2 : Nat)) (fun _ => true) (.inl (.inl h4)) (by show 3 < sizeLine; decide) (fun i x G hx sG A B kA kB => ?_) fun G sG hD => ?_⟩
    · obtain ⟨hrow, ⟨d, F0, hd, ht, hsc, hsh⟩, hbk⟩ := rows i x hx
      refine ⟨x.1, _, rfl, .inl (.inl (sG _ _ hrow)), rfl, _, _, rfl, _, _, rfl, rfl, rfl, V.str x.2.1, rfl, x.2.2.1, rfl, x.2.2.1, d, x.2.1, rfl, de_mono (s04.trans sG) _ _ hd, hbk, fun z => ?_, fun _ => ⟨F0, .inr x.2.2.2, hsc, hsh, fun n e H' s => ?_, fun n e => nomatch e⟩⟩
      · rw [ht] at z
        cases z
      · injection e with e
        subst e
        exact kA rfl H' s
    · have hD : G D = some (.lst ([(n1 : Int), (n2 : Int), (n3 : Int)].map V.int)) := hD
      refine ⟨D, [(n1 : Int), (n2 : Int), (n3 : Int)], rfl, .inl (.inl hD), ?_⟩
      refine ⟨V.int _, rfl, _, 40, rfl, rfl, _, rfl, ite2 (fun c => ?_) (fun c => ?_)⟩
      · have c : (40 : Int) < [(n1 : Int), (n2 : Int), (n3 : Int)].sum := of_decide_eq_true c
        simp only [List.sum_cons, List.sum_nil] at c
        omega
      · exact kk G (s04.trans sG)
end
end SK
namespace SK
open PySem PySem.Spec PyProof.Rows L2 LamX NdefX
open K0 (De DeAll XCl spX withX)
/-! ### lists as tuples -/
theorem pi_either {X : Cx} {tg iter : Expr} {w1 w2 : TI} (h1 : PI X tg iter w1) (h2 : PI X tg iter w2) : PI X tg iter (fun σ H R => w1 σ H R ∨ w2 σ H R) := ⟨fun pins s σ H R I h => h.elim (h1.run pins s σ H R I) (h2.run pins s σ H R I)⟩
mutual
def fz : PyData → PyData
  | .tuple ds => .tuple (fzAll ds)
  | .list ds => .tuple (fzAll ds)
  | .none => .none
  | .bool b => .bool b
  | .int i => .int i
  | .str x => .str x
  | d => d
def fzAll : List PyData → List PyData
  | [] => []
  | d :: ds => fz d :: fzAll ds
end
mutual
def lev : PyData → Nat
  | .tuple ds => levAll ds + 1
  | .list ds => levAll ds + 1
  | _ => 0
def levAll : List PyData → Nat
  | [] => 0
  | d :: ds => max (lev d) (levAll ds)
end
theorem fzAll_map : ∀ ds : List PyData, fzAll ds = ds.map fz
  | [] => by simp [fzAll]
  | d :: ds => by simp [fzAll, fzAll_map ds]
theorem lev_mem {d : PyData} : ∀ {ds : List PyData}, d ∈ ds → lev d ≤ levAll ds
  | e :: ds, h => by
    simp only [levAll]
    rcases List.mem_cons.mp h with rfl | h
    · exact Nat.le_max_left _ _
    · exact Nat.le_trans (lev_mem h) (Nat.le_max_right _ _)
theorem lev_tl {d : PyData} (h : isTL d = true) : lev d = levAll (elems d) + 1 := by
  cases d with
  | tuple ds => simp [lev, elems]
  | list ds => simp [lev, elems]
  | _ => cases h
theorem fz_tl {d : PyData} (h : isTL d = true) : fz d = .tuple ((elems d).map fz) := by
  cases d with
  | tuple ds => simp [fz, elems, fzAll_map]
  | list ds => simp [fz, elems, fzAll_map]
  | _ => cases h
/-- all but lists stays -/
def KeepN (G G' : Hp) : Prop := ∀ b o, (∀ xs, o ≠ .lst xs) → G b = some o → G' b = some o
mutual
theorem de_fz {K : PySem.W.Frag} {G G' : Hp} (m : KeepN G G') : ∀ (d : PyData) (v : V), De K G v (fz d) → De K G' v (fz d)
  | .tuple ds, v, h => by
    simp only [fz] at h ⊢
    cases h with
    | tup ha hd => exact .tup (m _ _ (fun _ z => nomatch z) ha) (de_fzAll m ds _ hd)
  | .list ds, v, h => by
    simp only [fz] at h ⊢
    cases h with
    | tup ha hd => exact .tup (m _ _ (fun _ z => nomatch z) ha) (de_fzAll m ds _ hd)
  | .none, v, h => by
    simp only [fz] at h ⊢
    cases h
    exact .non
  | .bool b, v, h => by
    simp only [fz] at h ⊢
    cases h
    exact .bl b
  | .int i, v, h => by
    simp only [fz] at h ⊢
    cases h
    exact .int i
  | .str x, v, h => by
    simp only [fz] at h ⊢
    cases h
    exact .str x
  | .dict ds, v, h => by
    simp only [fz] at h ⊢
    cases h with
    | dic ha => exact .dic (m _ _ (fun _ z => nomatch z) ha)
theorem de_fzAll {K : PySem.W.Frag} {G G' : Hp} (m : KeepN G G') : ∀ (ds : List PyData) (vs : List V), DeAll K G vs (fzAll ds) → DeAll K G' vs (fzAll ds)
  | [], vs, h => by
    simp only [fzAll] at h ⊢
    cases h
    exact .nil
  | d :: ds, vs, h => by
    simp only [fzAll] at h ⊢
    cases h with
    | cons h1 h2 => exact .cons (de_fz m d _ h1) (de_fzAll m ds _ h2)
end
/-- lists that are not too long -/
def hdW : Nat → PyData → Prop
  | 0, _ => True
  | n + 1, d => isTL d = true → (elems d).length ≤ 1000 ∧ ∀ e ∈ elems d, hdW n e
def spFz (K : PySem.W.Frag) (n : Nat) : Sp := fun vs H Q _ => ∃ (v : V) (d : PyData), vs = [v] ∧ De K H v d ∧ lev d < n ∧ hdW n d ∧ (∀ H' u, Same H H' → De K H' u (fz d) → Q u H')
section
variable {P : Program} {w : World} {K : PySem.W.Frag} {mg : Str → Option Value} {base : Heap} {f fL : Addr} {fd fdL : FuncData}
abbrev NFz : List Str := ["value", "part"]
theorem ok_fz (F : Fun K "frozen" "frozen" (top 21) f fd) (gTu : mg "tuple" = none)
    (gL : mg "is_list" = some (.ref fL)) (kL : PySem.W.keepIn K (.ref fL) = true) (GL : FnOk P w K mg base CX0 1 fL fdL ["value"] (spIsL K)) (bL : Binds K fdL ["value"] [])
    (gS : mg "frozen" = some (.ref f)) (bS : Binds K fd ["value"] []) : ∀ n : Nat, FnOk P w K mg base CX0 (n + 2) f fd ["value"] (spFz K n) := by
  have S0 : FnScope NFz ["value"] (defScope (top 21)) := ⟨rfl, rfl, rfl, by decide +kernel, rfl, by decide +kernel, by decide +kernel⟩
  have nd := S0.nd
  have kS := F.kp
  intro n
  induction n with
  | zero =>
    refine F.ok S0 (fun vs H Q E h => ?_) (fun cdv A outer s H vs Q E hr h => ?_)
    · obtain ⟨v, d, rfl, _⟩ := h
      rfl
    · obtain ⟨v, d, rfl, _, hm, _⟩ := h
      omega
  | succ n GS =>
  refine F.ok S0 (fun vs H Q E h => ?_) (fun cdv A outer s H vs Q E hr h => ?_)
  · obtain ⟨v, d, rfl, _⟩ := h
    rfl
  · obtain ⟨v, d, rfl, hd, hl, hw, kk⟩ := h
    have hr1 : Room 1 _ := hr.mono (by omega)
    refine ⟨_, (pss_one (ps_ret (pe_ifExp (pt_val (pe_call GL hr1 (by rfl) gL kL bL .nil pass0 (pa_cons (pv 0) pa_nil))) (pe_callTy call_tuple_of (by rfl) gTu PyProof.Rows.boot_tuple (pa_cons (pe_lc (own := [("part", 1)]) (g := gName 1) (tt := tYes) (te := tCall (spFz K n) [] E0 (tCons (tVar 1) tNil)) rfl nd (pi_either (pi_list (pv 0)) (pi_tup (pv 0))) (blkOk_by (N := NFz) (sc := defScope (top 21)) (by decide +kernel)) (fun _ _ _ _ _ => pg_name (i := 1) nd rfl (Or.inl rfl)) (fun _ _ _ _ _ => pts_nil) (fun _ _ _ _ _ => (pe_call GS hr (by rfl) gS kS bS .nil pass0 (pa_cons (pv 1) pa_nil)))) pa_nil)) (pv 0)))), ?_⟩
    refine ⟨v, rfl, v, d, rfl, hd, fun H1 s1 => ⟨isTL d, rfl, ?_⟩⟩
    rcases tl_shape hd with e | ⟨p, xs, rfl, hds, hsq, e⟩
    · rw [e]
      have ef : fz d = d := by
        cases d with
        | tuple ds => cases e
        | list ds => cases e
        | _ => simp [fz]
      exact iteF ⟨v, rfl, kk H1 v s1 (by rw [ef]; exact de_mono s1 _ _ hd)⟩
    rw [e]
    rw [fz_tl e] at kk
    rw [lev_tl e] at hl
    obtain ⟨hz, hw⟩ := hw e
    generalize elems d = ds at hds kk hl hz hw
    have hxl := deAll_len hds
    have b5 : (5000 : Nat) < sizeLine := by decide
    refine iteT ?_
    rcases hsq with hq | hq
    · refine .inl ⟨V.ref p, rfl, p, rfl, ⟨xs, Same.seq s1 hq⟩, fun D nD => lc_it (walk_list (K := K) (xs := xs)) (fun i G => Same H1 G ∧ ∃ acc : List V, G D = some (.lst acc) ∧ acc.length = i ∧ DeAll K G acc ((ds.take i).map fz)) ⟨upd_new nD, [], upd_same, rfl, .nil⟩ (fun i G _ q => Same.seq (s1.trans q.1) hq) ?_ ?_⟩
      · rintro i x G G' hi ⟨sG, acc, hD, hal, hacc⟩ ⟨rfl, hx⟩
        obtain ⟨dd, hdd, hde⟩ := deAll_at hds hx
        have hm := List.mem_of_getElem? hdd
        refine ⟨rfl, x, rfl, x, dd, rfl, de_mono (s1.trans sG) _ _ hde, by have := lev_mem hm; omega, hw dd hm, fun G2 u s2 hu => ?_⟩
        have hD2 := s2 _ _ hD
        have kp : KeepN G2 (upd G2 D (.lst (acc ++ [u]))) := fun b o nl hb => by
          rw [upd_ne (fun z => by rw [z, hD2] at hb; exact nl acc (Option.some.inj hb).symm)]
          exact hb
        refine ⟨acc, hD2, by omega, fun b o hb => ?_, acc ++ [u], upd_same, by rw [List.length_append, hal]; rfl, ?_⟩
        · rw [upd_ne (ne_of_none hb nD)]
          exact s2 _ _ (sG _ _ hb)
        · rw [take_snoc hdd, List.map_append]
          have z := deAll_app (de_monoAll s2 _ _ hacc) (DeAll.cons hu DeAll.nil)
          have e2 : (ds.take i).map fz ++ [fz dd] = fzAll (ds.take i ++ [dd]) := by rw [fzAll_map, List.map_append]; rfl
          rw [e2] at z
          have z := de_fzAll kp _ _ z
          rw [← e2] at z
          exact z
      · rintro G ⟨sG, acc, hD, hal, hacc⟩
        rw [hxl, List.take_length] at hacc
        refine ⟨D, acc, rfl, .inl ⟨.inl (.inl hD), fun r nr => ?_⟩⟩
        exact kk _ (.ref r) ((s1.trans sG).trans (upd_new nr)) (.tup upd_same (de_monoAll (upd_new nr) _ _ hacc))
    · refine .inr ⟨V.ref p, rfl, p, rfl, ⟨xs, Same.seqT s1 hq⟩, fun D nD => lc_it (walk_tup (K := K) (xs := xs)) (fun i G => Same H1 G ∧ ∃ acc : List V, G D = some (.lst acc) ∧ acc.length = i ∧ DeAll K G acc ((ds.take i).map fz)) ⟨upd_new nD, [], upd_same, rfl, .nil⟩ (fun i G _ q => Same.seqT (s1.trans q.1) hq) ?_ ?_⟩
      · rintro i x G G' hi ⟨sG, acc, hD, hal, hacc⟩ ⟨rfl, hx⟩
        obtain ⟨dd, hdd, hde⟩ := deAll_at hds hx
        have hm := List.mem_of_getElem? hdd
        refine ⟨rfl, x, rfl, x, dd, rfl, de_mono (s1.trans sG) _ _ hde, by have := lev_mem hm; omega, hw dd hm, fun G2 u s2 hu => ?_⟩
        have hD2 := s2 _ _ hD
        have kp : KeepN G2 (upd G2 D (.lst (acc ++ [u]))) := fun b o nl hb => by
          rw [upd_ne (fun z => by rw [z, hD2] at hb; exact nl acc (Option.some.inj hb).symm)]
          exact hb
        refine ⟨acc, hD2, by omega, fun b o hb => ?_, acc ++ [u], upd_same, by rw [List.length_append, hal]; rfl, ?_⟩
        · rw [upd_ne (ne_of_none hb nD)]
          exact s2 _ _ (sG _ _ hb)
        · rw [take_snoc hdd, List.map_append]
          have z := deAll_app (de_monoAll s2 _ _ hacc) (DeAll.cons hu DeAll.nil)
          have e2 : (ds.take i).map fz ++ [fz dd] = fzAll (ds.take i ++ [dd]) := by rw [fzAll_map, List.map_append]; rfl
          rw [e2] at z
          have z := de_fzAll kp _ _ z
          rw [← e2] at z
          exact z
      · rintro G ⟨sG, acc, hD, hal, hacc⟩
        rw [hxl, List.take_length] at hacc
        refine ⟨D, acc, rfl, .inl ⟨.inl (.inl hD), fun r nr => ?_⟩⟩
        exact kk _ (.ref r) ((s1.trans sG).trans (upd_new nr)) (.tup upd_same (de_monoAll (upd_new nr) _ _ hacc))
end
end SK
namespace SK
open PySem PySem.Spec PyProof.Rows L2 LamX NdefX
open K0 (De DeAll XCl spX withX)
/-! ### routines -/
abbrev ro (i : Nat) : Stmt := inClass (top 49) i
structure RoP (K : PySem.W.Frag) (H : Hp) (fs : List (Str × V)) (d1 d2 d3 : PyData) (u1 u2 u3 : V) : Prop where
  f1 : fs.lookup ("down" : Str) = some u1
  f2 : fs.lookup ("turn" : Str) = some u2
  f3 : fs.lookup ("up" : Str) = some u3
  no : ∀ g : Str, g ≠ "down" → g ≠ "turn" → g ≠ "up" → fs.lookup g = none
  e1 : De K H u1 (fz d1)
  e2 : De K H u2 (fz d2)
  e3 : De K H u3 (fz d3)
def RoF (K : PySem.W.Frag) (CR : Addr) (H : Hp) (x : V) (d1 d2 d3 : PyData) : Prop := ∃ (a dx : Addr) (fs : List (Str × V)) (u1 u2 u3 : V), x = .ref a ∧ H a = some (.ins CR dx fs) ∧ RoP K H fs d1 d2 d3 u1 u2 u3
def BlkQ (K : PySem.W.Frag) (H : Hp) (blk : Str) (v : V) (d : PyData) (n : Nat) : Prop := De K H v d ∧ isTL d = true ∧ lev d < 20 ∧ hdW 20 d ∧ ∃ F, scanF blk F (elems d) 0 = some (.inr n) ∧ scanH blk (F + 1) (elems d)
theorem BlkQ.r {K : PySem.W.Frag} {H : Hp} {blk : Str} {v : V} {d : PyData} {n : Nat} (b : BlkQ K H blk v d n) : BlkR K H blk v n := by
  obtain ⟨h1, h2, _, _, F, h3⟩ := b
  exact ⟨d, F, h1, h2, h3⟩
def spInitRo (K : PySem.W.Frag) (CR : Addr) : Sp := fun vs H Q _ => ∃ (x dx : Addr) (v1 v2 v3 : V) (d1 d2 d3 : PyData) (n1 n2 n3 : Nat), vs = [.ref x, v1, v2, v3] ∧ H x = some (.ins CR dx []) ∧ BlkQ K H (Str.ofString "down") v1 d1 n1 ∧ BlkQ K H (Str.ofString "turn") v2 d2 n2 ∧ BlkQ K H (Str.ofString "up") v3 d3 n3 ∧ n1 + n2 + n3 ≤ 40 ∧
  ∀ (H' : Hp) (fs : List (Str × V)) (u1 u2 u3 : V), (∀ b o, b ≠ x → H b = some o → H' b = some o) → H' x = some (.ins CR dx fs) → RoP K H' fs d1 d2 d3 u1 u2 u3 → Q .non H'
section
variable {P : Program} {w : World} {K : PySem.W.Frag} {mg : Str → Option Value} {base : Heap} {f fF fC CR : Addr} {fd fdF fdC : FuncData}
theorem ok_initRo (F : Fun K "__init__" "Routine.__init__" (ro 0) f fd) (cT : Cls K CR) (n1 : NoAttr K CR "down") (n2 : NoAttr K CR "turn") (n3 : NoAttr K CR "up")
    (gC : mg "check_blocks" = some (.ref fC)) (kC : PySem.W.keepIn K (.ref fC) = true) (GC : FnOk P w K mg base (L2.CX P w) 13 fC fdC ["down", "turn", "up"] (spCbR K)) (bC : Binds K fdC ["down", "turn", "up"] [])
    (gF : mg "frozen" = some (.ref fF)) (kF : PySem.W.keepIn K (.ref fF) = true) (GF : FnOk P w K mg base CX0 22 fF fdF ["value"] (spFz K 20)) (bF : Binds K fdF ["value"] []) : FnOk P w K mg base (L2.CX P w) 23 f fd ["self", "down", "turn", "up"] (spInitRo K CR) := by
  have S0 : FnScope ["self", "down", "turn", "up"] ["self", "down", "turn", "up"] (defScope (ro 0)) := ⟨rfl, rfl, rfl, by decide +kernel, rfl, by decide +kernel, by decide +kernel⟩
  have nd := S0.nd
  refine F.okX S0 (fun vs H Q E h => ?_) (fun cdv A outer s H vs Q E hr h => ?_)
  · obtain ⟨x, dx, v1, v2, v3, d1, d2, d3, m1, m2, m3, rfl, _⟩ := h
    rfl
  · obtain ⟨x, dx, v1, v2, v3, d1, d2, d3, m1, m2, m3, rfl, hx, B1, B2, B3, hz, kk⟩ := h
    have hrF : Room 22 _ := hr
    have hrC : Room 13 _ := hr.mono (by decide)
    refine ⟨_, (pss_cons (ps_expr (pe_call GC hrC (by rfl) gC kC bC .nil (passes_call LamX.takes0 (fun _ _ _ _ h => h)) (pa_cons (pv 1) (pa_cons (pv 2) (pa_cons (pv 3) pa_nil)))))
        (pss_cons (ps_fld (pv 0) (pe_call GF hrF (by rfl) gF kF bF .nil pass0 (pa_cons (pv 1) pa_nil)) rfl)
        (pss_cons (ps_fld (pv 0) (pe_call GF hrF (by rfl) gF kF bF .nil pass0 (pa_cons (pv 2) pa_nil)) rfl)
        (pss_one (ps_fld (pv 0) (pe_call GF hrF (by rfl) gF kF bF .nil pass0 (pa_cons (pv 3) pa_nil)) rfl))))), ?_⟩
    obtain ⟨a1, _, l1, w1, _⟩ := id B1
    obtain ⟨a2, _, l2, w2, _⟩ := id B2
    obtain ⟨a3, _, l3, w3, _⟩ := id B3
    refine ⟨v1, rfl, v2, rfl, v3, rfl, v1, v2, v3, m1, m2, m3, rfl, B1.r, B2.r, B3.r, hz, fun H1 s1 => ?_⟩
    refine ⟨v1, rfl, v1, d1, rfl, de_mono s1 _ _ a1, l1, w1, fun H2 u1 s2 hu1 => ⟨V.ref x, rfl, x, CR, dx, _, rfl, s2 _ _ (s1 _ _ hx), cT, n1, (by decide), ?_⟩⟩
    have s02 := s1.trans s2
    have hx2 := s02 _ _ hx
    have m23 : ∀ b o, b ≠ x → H2 b = some o → (∀ ps, o ≠ .tbl ps) → upd H2 x (.ins CR dx (putF "down" u1 [])) b = some o := fun b o hb e _ => by
      rw [upd_ne hb]
      exact e
    have c2 := de_insN hx2 m23 (de_mono s02 _ _ a2)
    have c3 := de_insN hx2 m23 (de_mono s02 _ _ a3)
    have cu := de_insN hx2 m23 hu1
    have sb : ∀ b o, b ≠ x → H b = some o → upd H2 x (.ins CR dx (putF "down" u1 [])) b = some o := fun b o hb e => by
      rw [upd_ne hb]
      exact s02 _ _ e
    have hx3 : upd H2 x (.ins CR dx (putF "down" u1 [])) x = some (.ins CR dx (putF "down" u1 [])) := upd_same
    generalize upd H2 x (.ins CR dx (putF "down" u1 [])) = H3 at c2 c3 cu sb hx3
    refine ⟨v2, rfl, v2, d2, rfl, c2, l2, w2, fun H4 u2 s4 hu2 => ⟨V.ref x, rfl, x, CR, dx, _, rfl, s4 _ _ hx3, cT, n2, (by show 1 < 1000; decide), ?_⟩⟩
    have hx4 := s4 _ _ hx3
    have m45 : ∀ b o, b ≠ x → H4 b = some o → (∀ ps, o ≠ .tbl ps) → upd H4 x (.ins CR dx (putF "turn" u2 (putF "down" u1 []))) b = some o := fun b o hb e _ => by
      rw [upd_ne hb]
      exact e
    have c3 := de_insN hx4 m45 (de_mono s4 _ _ c3)
    have cu := de_insN hx4 m45 (de_mono s4 _ _ cu)
    have cu2 := de_insN hx4 m45 hu2
    have sb : ∀ b o, b ≠ x → H b = some o → upd H4 x (.ins CR dx (putF "turn" u2 (putF "down" u1 []))) b = some o := fun b o hb e => by
      rw [upd_ne hb]
      exact s4 _ _ (sb _ _ hb e)
    have hx5 : upd H4 x (.ins CR dx (putF "turn" u2 (putF "down" u1 []))) x = some (.ins CR dx (putF "turn" u2 (putF "down" u1 []))) := upd_same
    generalize upd H4 x (.ins CR dx (putF "turn" u2 (putF "down" u1 []))) = H5 at c3 cu cu2 sb hx5
    refine ⟨v3, rfl, v3, d3, rfl, c3, l3, w3, fun H6 u3 s6 hu3 => ⟨V.ref x, rfl, x, CR, dx, _, rfl, s6 _ _ hx5, cT, n3, (by show 2 < 1000; decide), ?_⟩⟩
    have hx6 := s6 _ _ hx5
    have m67 : ∀ b o, b ≠ x → H6 b = some o → (∀ ps, o ≠ .tbl ps) → upd H6 x (.ins CR dx (putF "up" u3 (putF "turn" u2 (putF "down" u1 [])))) b = some o := fun b o hb e _ => by
      rw [upd_ne hb]
      exact e
    refine kk _ _ u1 u2 u3 (fun b o hb e => ?_) upd_same ⟨?_, ?_, ?_, fun g n1 n2 n3 => ?_, de_insN hx6 m67 (de_mono s6 _ _ cu), de_insN hx6 m67 (de_mono s6 _ _ cu2), de_insN hx6 m67 hu3⟩
    · rw [upd_ne hb]
      exact s6 _ _ (sb _ _ hb e)
    · rw [lookup_putF, if_neg (by decide), lookup_putF, if_neg (by decide), lookup_putF, if_pos rfl]
    · rw [lookup_putF, if_neg (by decide), lookup_putF, if_pos rfl]
    · rw [lookup_putF, if_pos rfl]
    · rw [lookup_putF, if_neg n3, lookup_putF, if_neg n2, lookup_putF, if_neg n1]
      rfl
end
end SK
namespace SK
open PySem PySem.Spec PyProof.Rows L2 LamX NdefX
open K0 (De DeAll XCl spX withX)
/-! ### the names in a test -/
def nmW (h : PyData) : List Str := if nm h = some (Str.ofString "here") then ["p"] else match nm h with
  | some z => if z ∈ (["p", "x", "y"] : List Str) then [z] else []
  | none => []
def nmT2 (f : PyData → List Str) (h : PyData) (r : List PyData) : List Str :=
  if nm h = some (Str.ofString "not") then (match r with | e :: _ => f e | [] => []) else if inS ["and", "or"] h = true then (match r with | e :: g :: _ => f e ++ f g | _ => []) else nmW h
def nmT : Nat → PyData → List Str
  | 0, _ => []
  | n + 1, d => match elems d with
    | [] => []
    | h :: r => nmT2 (nmT n) h r
theorem nmW_len (h : PyData) : (nmW h).length ≤ 1 := by
  unfold nmW
  split
  · simp
  · split
    · split <;> simp
    · simp
theorem nmT_len : ∀ (n : Nat) (d : PyData), (nmT n d).length ≤ 2 ^ n
  | 0, d => by simp [nmT]
  | n + 1, d => by
    have p0 : 1 ≤ 2 ^ n := Nat.one_le_two_pow
    have p1 : 2 ^ (n + 1) = 2 ^ n + 2 ^ n := by rw [Nat.pow_succ]; omega
    unfold nmT
    split
    · simp
    · rename_i h r _
      unfold nmT2
      split
      · split
        · have := nmT_len n ‹_›
          omega
        · simp
      · split
        · split
          · rename_i e g _ _
            have a := nmT_len n e
            have b := nmT_len n g
            rw [List.length_append]
            omega
          · simp
        · have := nmW_len h
          omega
theorem inS_nm {xs : List Str} {d : PyData} (h : inS xs d = true) : ∃ z, nm d = some z ∧ z ∈ xs := by
  unfold inS at h
  obtain ⟨x, hx, e⟩ := List.any_eq_true.mp h
  exact ⟨x, of_decide_eq_true e, hx⟩
theorem nm_str {d : PyData} {z : Str} (h : nm d = some z) : d = .str z := by
  cases d with
  | str y =>
    have h : some y = some z := h
    rw [Option.some.inj h]
  | _ => cases h
/-- what a test that is right is made of -/
theorem okT_shape {m : Nat} {d : PyData} (h : okT (m + 1) d = true) : isTL d = true ∧ ∃ h' r, elems d = h' :: r ∧ (∃ z, nm h' = some z) ∧ (nm h' = some (Str.ofString "not") → ∃ e, r = [e] ∧ okT m e = true) ∧ (inS ["and", "or"] h' = true → ∃ e g, r = [e, g] ∧ okT m e = true ∧ okT m g = true) := by
  unfold okT at h
  rw [Bool.and_eq_true] at h
  refine ⟨h.1, ?_⟩
  have h2 := h.2
  generalize elems d = ds at h2
  match ds, h2 with
  | [x], h2 =>
    obtain ⟨z, e1, e2⟩ := inS_nm (show inS plain10 x = true from h2)
    refine ⟨x, [], rfl, ⟨z, e1⟩, fun e => ?_, fun e => ?_⟩
    · rw [e] at e1
      rw [← Option.some.inj e1] at e2
      exact absurd e2 (by decide +kernel)
    · obtain ⟨y, q1, q2⟩ := inS_nm e
      rw [q1] at e1
      rw [← Option.some.inj e1] at e2
      have z : ∀ y ∈ (["and", "or"] : List Str), y ∉ plain10 := by decide +kernel
      exact absurd e2 (z y q2)
  | x :: a :: r, h2 =>
    have h2 : okT2 (okT m) x a r = true := h2
    unfold okT2 at h2
    refine ⟨x, a :: r, rfl, ?_⟩
    by_cases c1 : nm x = some (Str.ofString "others")
    · refine ⟨⟨_, c1⟩, fun e => ?_, fun e => ?_⟩
      · rw [c1] at e
        exact absurd (Option.some.inj e) (by decide)
      · obtain ⟨y, q1, q2⟩ := inS_nm e
        rw [c1] at q1
        rw [← Option.some.inj q1] at q2
        exact absurd q2 (by decide +kernel)
    · rw [if_neg c1] at h2
      by_cases c2 : nm x = some (Str.ofString "not")
      · rw [if_pos c2, Bool.and_eq_true] at h2
        refine ⟨⟨_, c2⟩, fun _ => ⟨a, by rw [List.isEmpty_iff.mp h2.1], h2.2⟩, fun e => ?_⟩
        obtain ⟨y, q1, q2⟩ := inS_nm e
        rw [c2] at q1
        rw [← Option.some.inj q1] at q2
        exact absurd q2 (by decide +kernel)
      · rw [if_neg c2] at h2
        cases c3 : inS ["and", "or"] x with
        | false =>
          rw [c3] at h2
          cases h2
        | true =>
          rw [c3, if_pos rfl] at h2
          obtain ⟨y, q1, q2⟩ := inS_nm c3
          refine ⟨⟨y, q1⟩, fun e => absurd e c2, fun _ => ?_⟩
          match r, h2 with
          | [g], h2 =>
            have h2 : (okT m a && okT m g) = true := h2
            rw [Bool.and_eq_true] at h2
            exact ⟨a, g, rfl, h2⟩
def spNt (K : PySem.W.Frag) (n : Nat) : Sp := fun vs H Q _ => ∃ (v : V) (d : PyData) (m : Nat), vs = [v] ∧ m < n ∧ m ≤ 10 ∧ De K H v d ∧ hdT m d ∧ okT m d = true ∧ ∀ (H' : Hp) (q : Addr), Same H H' → H' q = some (.lst ((nmT m d).map V.str)) → Q (.ref q) H'
section
variable {P : Program} {w : World} {K : PySem.W.Frag} {mg : Str → Option Value} {base : Heap} {f : Addr} {fd : FuncData}
abbrev NNt : List Str := ["test", "name"]
theorem ok_nt (F : Fun K "names_in_test" "names_in_test" (top 22) f fd) (gS : mg "names_in_test" = some (.ref f)) (bS : Binds K fd ["test"] []) : ∀ n : Nat, FnOk P w K mg base CX0 (n + 1) f fd ["test"] (spNt K n) := by
  have S0 : FnScope NNt ["test"] (defScope (top 22)) := ⟨rfl, rfl, rfl, by decide +kernel, rfl, by decide +kernel, by decide +kernel⟩
  have nd := S0.nd
  have kS := F.kp
  intro n
  induction n with
  | zero =>
    refine F.ok S0 (fun vs H Q E h => ?_) (fun cdv A outer s H vs Q E hr h => ?_)
    · obtain ⟨v, d, m, rfl, _⟩ := h
      rfl
    · obtain ⟨v, d, m, rfl, hm, _⟩ := h
      omega
  | succ n GS =>
  refine F.ok S0 (fun vs H Q E h => ?_) (fun cdv A outer s H vs Q E hr h => ?_)
  · obtain ⟨v, d, m, rfl, _⟩ := h
    rfl
  · obtain ⟨v, d, m, rfl, hm, hm10, hd, hh, ok, kk⟩ := h
    have hu64 := hr.units
    refine ⟨_, (pss_cons (ps_set (i := 1) nd rfl (Or.inl rfl) (pe_ix (r := rIx K) ix_seq (pv 0) pe_int (fun _ _ => rfl)))
        (pss_cons (ps_if (pt_cmpR (r := rEqD K) (op_eqD hu64) (pv 1) pe_str (nomark _)) (pss_one (ps_ret (pe_call GS hr (by rfl) gS kS bS .nil pass0 (pa_cons (pe_ix (r := rIx K) ix_seq (pv 0) pe_int (fun _ _ => rfl)) pa_nil)))) pss_nil)
        (pss_cons (ps_if (pt_cmpR (r := rInD K false) (op_inD hu64) (pv 1) (pe_tup (pa_cons pe_str (pa_cons pe_str pa_nil))) (by rfl)) (pss_one (ps_ret (pe_op op_cat (pe_call GS hr (by rfl) gS kS bS .nil pass0 (pa_cons (pe_ix (r := rIx K) ix_seq (pv 0) pe_int (fun _ _ => rfl)) pa_nil)) (pe_call GS hr (by rfl) gS kS bS .nil pass0 (pa_cons (pe_ix (r := rIx K) ix_seq (pv 0) pe_int (fun _ _ => rfl)) pa_nil))))) pss_nil)
        (pss_cons (ps_if (pt_cmpR (r := rEqD K) (op_eqD hu64) (pv 1) pe_str (nomark _)) (pss_one (ps_ret (pe_lst (pa_cons pe_str pa_nil)))) pss_nil)
        (pss_one (ps_ret (pe_ifExp (pt_cmpR (r := rInD K false) (op_inD hu64) (pv 1) (pe_tup (pa_cons pe_str (pa_cons pe_str (pa_cons pe_str pa_nil)))) (by rfl)) (pe_lst (pa_cons (pv 1) pa_nil)) (pe_lst pa_nil)))))))), ?_⟩
    cases m with
    | zero => cases ok
    | succ m =>
    obtain ⟨ht, h, r, ee, ⟨z0, hz0⟩, hnot, hand⟩ := okT_shape ok
    rcases tl_shape hd with e | ⟨p, xs, rfl, hds, hsq, _⟩
    · rw [e] at ht
      cases ht
    obtain ⟨hh1, hhr⟩ := hh h r ht ee
    have en : nmT (m + 1) d = nmT2 (nmT m) h r := by
      show (match elems d with | [] => [] | h :: r => nmT2 (nmT m) h r) = _
      rw [ee]
    rw [en] at kk
    rw [ee] at hds
    have sq : ∀ {H' : Hp}, Same H H' → (SqL K H' p xs ∨ SqT K H' p xs) := fun {H'} s => hsq.elim (fun h => .inl (Same.seq s h)) (fun h => .inr (Same.seqT s h))
    have ixF : ∀ {H' : Hp} (j : Nat) (v' : V) (R : VK), Same H H' → xs[j]? = some v' → R v' H' → rIx K (.ref p) (.int (j : Nat)) H' R := fun {H'} j v' R s hj hR => by
      rcases sq s with h | h
      · exact .inl ⟨p, xs, (j : Int), v', rfl, rfl, h, atI_nat hj, hR⟩
      · exact .inr (.inl ⟨p, xs, (j : Int), v', rfl, rfl, h, atI_nat hj, hR⟩)
    cases hds with
    | @cons v1 vr _ _ hd1 hdr =>
    have s0 := Same.refl H
    have kk : ∀ l, nmT2 (nmT m) h r = l → ∀ (H' : Hp) (q : Addr), Same H H' → H' q = some (.lst (l.map V.str)) → Q (.ref q) H' := fun l el H' q s hq => kk H' q s (by rw [el]; exact hq)
    refine ⟨V.ref p, rfl, ixF 0 v1 _ s0 rfl ?_⟩
    refine ⟨v1, rfl, h, .str "not", hh1.dp hd1, .str _, hh1.shaped, by decide +kernel, _, rfl, ?_⟩
    rw [eqv_sr]
    by_cases c1 : nm h = some (Str.ofString "not")
    · rw [decide_eq_true c1]
      obtain ⟨e, rfl, oke⟩ := hnot c1
      cases hdr with
      | @cons v2 _ _ _ hd2 hdr2 =>
      exact iteT ⟨V.ref p, rfl, ixF 1 v2 _ s0 rfl ⟨v2, e, m, rfl, by omega, by omega, hd2, hhr e (by simp), oke, fun H' q s hq => kk _ (if_pos c1) H' q s hq⟩⟩
    rw [decide_eq_false c1]
    refine iteF ⟨v1, rfl, (by show 2 ≤ sizeLine; decide), fun t nt => ?_⟩
    have s1 := upd_new (o := .tup [.str "and", .str "or"]) nt
    have ht1 : upd H t (.tup [.str "and", .str "or"]) t = some (.tup [.str "and", .str "or"]) := upd_same
    generalize upd H t (.tup [.str "and", .str "or"]) = H1 at s1 ht1
    refine ⟨t, _, (["and", "or"] : List Str).map PyData.str, h, rfl, .inr (.inl (.inl ht1)), dp_strs ["and", "or"], hh1.dp (de_mono s1 _ _ hd1), hh1.lay.1, by decide +kernel, hh1.lay.2, _, rfl, ?_⟩
    rw [if_neg Bool.false_ne_true, any_strs]
    cases c2 : inS ["and", "or"] h with
    | true =>
      obtain ⟨e, g, rfl, oke, okg⟩ := hand c2
      cases hdr with
      | @cons v2 _ _ _ hd2 hdr2 =>
      cases hdr2 with
      | @cons v3 _ _ _ hd3 hdr3 =>
      have el : nmT2 (nmT m) h [e, g] = nmT m e ++ nmT m g := (if_neg c1).trans (if_pos c2)
      have la := nmT_len m e
      have lb := nmT_len m g
      have p2 : 2 ^ m ≤ 2 ^ 10 := Nat.pow_le_pow_right (by decide) (by omega)
      have b5 : (5000 : Nat) < sizeLine := by decide
      refine iteT ⟨V.ref p, rfl, ixF 1 v2 _ s1 rfl ⟨v2, e, m, rfl, by omega, by omega, de_mono s1 _ _ hd2, hhr e (by simp), oke, fun H2 q s2 hq => ?_⟩⟩
      have s12 := s1.trans s2
      refine ⟨V.ref p, rfl, ixF 2 v3 _ s12 rfl ⟨v3, g, m, rfl, by omega, by omega, de_mono s12 _ _ hd3, hhr g (by simp), okg, fun H3 q3 s3 hq3 => ?_⟩⟩
      refine ⟨q, q3, _, _, rfl, rfl, s3 _ _ hq, hq3, (by rw [List.length_map, List.length_map]; omega), fun y ny => kk _ el _ y ((s12.trans s3).trans (upd_new ny)) (by rw [upd_same, List.map_append])⟩
    | false =>
      have el : nmT2 (nmT m) h r = nmW h := (if_neg c1).trans (if_neg (by rw [c2]; simp))
      refine iteF ⟨v1, rfl, h, .str "here", hh1.dp (de_mono s1 _ _ hd1), .str _, hh1.shaped, by decide +kernel, _, rfl, ?_⟩
      rw [eqv_sr]
      by_cases c3 : nm h = some (Str.ofString "here")
      · rw [decide_eq_true c3]
        exact iteT ⟨(by show 1 ≤ sizeLine; decide), fun q nq => kk ["p"] (el.trans (if_pos c3)) _ q (s1.trans (upd_new nq)) upd_same⟩
      rw [decide_eq_false c3]
      refine iteF ⟨v1, rfl, (by show 3 ≤ sizeLine; decide), fun t2 nt2 => ?_⟩
      have s2 := s1.trans (upd_new (o := .tup [.str "p", .str "x", .str "y"]) nt2)
      have ht2 : upd H1 t2 (.tup [.str "p", .str "x", .str "y"]) t2 = some (.tup [.str "p", .str "x", .str "y"]) := upd_same
      generalize upd H1 t2 (.tup [.str "p", .str "x", .str "y"]) = H2 at s2 ht2
      refine ⟨t2, _, (["p", "x", "y"] : List Str).map PyData.str, h, rfl, .inr (.inl (.inl ht2)), dp_strs ["p", "x", "y"], hh1.dp (de_mono s2 _ _ hd1), hh1.lay.1, by decide +kernel, hh1.lay.2, _, rfl, ?_⟩
      rw [if_neg Bool.false_ne_true, any_strs]
      obtain rfl := nm_str hz0
      cases hd1
      rw [inS_str]
      have ew : nmW (.str z0) = if z0 ∈ (["p", "x", "y"] : List Str) then [z0] else [] := (if_neg c3)
      by_cases c4 : z0 ∈ (["p", "x", "y"] : List Str)
      · rw [decide_eq_true c4]
        exact iteT ⟨V.str z0, rfl, (by show 1 ≤ sizeLine; decide), fun q nq => kk [z0] (by rw [el, ew, if_pos c4]) _ q (s2.trans (upd_new nq)) upd_same⟩
      · rw [decide_eq_false c4]
        exact iteF ⟨Nat.zero_le _, fun q nq => kk [] (by rw [el, ew, if_neg c4]) _ q (s2.trans (upd_new nq)) upd_same⟩
end
end SK
namespace SK
open PySem PySem.Spec PyProof.Rows L2 LamX NdefX
open K0 (De DeAll XCl spX withX)
/-! ### routines that are equal -/
structure RoK (K : PySem.W.Frag) (C : Addr) : Prop where
  own : Own K C
  cl : Cls K C
  n1 : NoAttr K C "down"
  n2 : NoAttr K C "turn"
  n3 : NoAttr K C "up"
  ha : PySem.W.findIn K (.ref C) "__class__" = some (some (.builtin "object.__class__"))
  hn : PySem.W.specialIn K (.builtin "object.__class__") "__get__" = some (some (.builtin "getset_descriptor.__get__"))
  htk : PySem.W.takesIn K (.builtin "object.__class__") = some true
  hm : PySem.W.mroIn K C (.type "object") = some true
  k1 : PySem.W.kitOne K (.ref C) (.ref C) = some true
  kT : PySem.W.kitOne K (.type "tuple") (.ref C) = some false
  ne : PySem.W.findIn K (.ref C) "__ne__" = some (some (.builtin "object.__ne__"))
  oo : PySem.W.subIn K (.ref C) (.type "object") = some true
theorem RoK.ty {K : PySem.W.Frag} {C a dx : Addr} {H : Hp} {fs : List (Str × V)} (R : RoK K C) (h : H a = some (.ins C dx fs)) : TyX K H (.ref a) (.ref C) := .base (.ins h R.cl R.ha R.hn R.htk R.hm)
/-- data that can be held against other data -/
def Eqb (d : PyData) : Prop := SeqAt.shaped d = true ∧ ∀ (K : PySem.W.Frag) (H : Hp) (v : V), De K H v d → Dp K H v d
def spEqRo (K : PySem.W.Frag) (CR : Addr) : Sp := fun vs H Q _ => ∃ (x y : V) (d1 d2 d3 : PyData), vs = [x, y] ∧ RoF K CR H x d1 d2 d3 ∧ Eqb (fz d1) ∧ Eqb (fz d2) ∧ Eqb (fz d3) ∧
  ((∃ e1 e2 e3 : PyData, RoF K CR H y e1 e2 e3 ∧ Eqb (fz e1) ∧ Eqb (fz e2) ∧ Eqb (fz e3) ∧ Q (.bl (PyData.eqv (fz d1) (fz e1) && (PyData.eqv (fz d2) (fz e2) && PyData.eqv (fz d3) (fz e3)))) H) ∨ (∃ t xs, y = .ref t ∧ H t = some (.tup xs) ∧ Q (.bl false) H))
section
variable {P : Program} {w : World} {K : PySem.W.Frag} {mg : Str → Option Value} {base : Heap} {f CR : Addr} {fd : FuncData}
theorem ok_eqRo (F : Fun K "__eq__" "Routine.__eq__" (ro 2) f fd) (R : RoK K CR) (gI : mg "isinstance" = none) (gC : mg "Routine" = some (.ref CR)) : FnOk P w K mg base (L2.CX P w) 1 f fd ["self", "other"] (spEqRo K CR) := by
  have S0 : FnScope ["self", "other"] ["self", "other"] (defScope (ro 2)) := ⟨rfl, rfl, rfl, by decide +kernel, rfl, by decide +kernel, by decide +kernel⟩
  refine F.okX S0 (fun vs H Q E h => ?_) (fun cdv A outer s H vs Q E hr h => ?_)
  · obtain ⟨x, y, d1, d2, d3, rfl, _⟩ := h
    rfl
  · obtain ⟨x, y, d1, d2, d3, rfl, ⟨a, dx, fs, u1, u2, u3, rfl, ha, T⟩, q1, q2, q3, hy⟩ := h
    have hu64 := hr.units
    refine ⟨_, (pss_cons (ps_if (pt_not (pt_val (pe_callB (r := rIsi K) call_isi (by rfl) gI PyProof.Rows.boot_isinstance (pa_cons (pv 1) (pa_cons (pe_glob (v := V.ref CR) (by rfl) gC rfl) pa_nil))))) (pss_one (ps_ret pe_bl)) pss_nil)
        (pss_one (ps_ret (pe_and (pe_cmpR (r := rEqD K) (op_eqD hu64) (pe_fld (pv 0) rfl) (pe_fld (pv 1) rfl) (nomark _)) (pe_and (pe_cmpR (r := rEqD K) (op_eqD hu64) (pe_fld (pv 0) rfl) (pe_fld (pv 1) rfl) (nomark _)) (pe_one (pe_cmpR (r := rEqD K) (op_eqD hu64) (pe_fld (pv 0) rfl) (pe_fld (pv 1) rfl) (nomark _)))))))), ?_⟩
    rcases hy with ⟨e1, e2, e3, ⟨b, dy, gs, w1, w2, w3, rfl, hb, T2⟩, r1, r2, r3, q⟩ | ⟨t, ts, rfl, ht, q⟩
    · refine ⟨V.ref b, rfl, V.ref b, .ref CR, .ref CR, .ref CR, true, rfl, .own CR, R.ty hb, R.k1, true, rfl, iteF ?_⟩
      refine ⟨V.ref a, rfl, a, CR, dx, _, _, rfl, ha, R.cl, R.n1, T.f1, V.ref b, rfl, b, CR, dy, _, _, rfl, hb, R.cl, R.n1, T2.f1, fz d1, fz e1, q1.2 _ _ _ T.e1, r1.2 _ _ _ T2.e1, q1.1, r1.1, _, rfl, ?_⟩
      cases c1 : PyData.eqv (fz d1) (fz e1) with
      | false =>
        rw [c1, Bool.false_and] at q
        exact iteF q
      | true =>
        rw [c1, Bool.true_and] at q
        refine iteT ⟨V.ref a, rfl, a, CR, dx, _, _, rfl, ha, R.cl, R.n2, T.f2, V.ref b, rfl, b, CR, dy, _, _, rfl, hb, R.cl, R.n2, T2.f2, fz d2, fz e2, q2.2 _ _ _ T.e2, r2.2 _ _ _ T2.e2, q2.1, r2.1, _, rfl, ?_⟩
        cases c2 : PyData.eqv (fz d2) (fz e2) with
        | false =>
          rw [c2, Bool.false_and] at q
          exact iteF q
        | true =>
          rw [c2, Bool.true_and] at q
          exact iteT ⟨V.ref a, rfl, a, CR, dx, _, _, rfl, ha, R.cl, R.n3, T.f3, V.ref b, rfl, b, CR, dy, _, _, rfl, hb, R.cl, R.n3, T2.f3, fz d3, fz e3, q3.2 _ _ _ T.e3, r3.2 _ _ _ T2.e3, q3.1, r3.1, q⟩
    · exact ⟨V.ref t, rfl, V.ref t, .ref CR, .type "tuple", .ref CR, false, rfl, .own CR, .base (.tup ht), R.kT, false, rfl, iteT q⟩
end
end SK
namespace SK
open PySem PySem.Spec PyProof.Rows L2 LamX NdefX
open K0 (De DeAll XCl spX withX)
/-! ### the law's tests -/
section
variable {K : PySem.W.Frag} {H H' : Hp} {p l : Addr} {k lf : Int}
mutual
theorem de_but (hp : H p = some (.dK (pen l k lf))) (s : SameBut p H H') : ∀ {d : PyData} {v : V}, De K H v d → De K H' v d
  | _, _, .non => .non
  | _, _, .bl b => .bl b
  | _, _, .int i => .int i
  | _, _, .str x => .str x
  | _, _, .lst ha hd => .lst (s _ _ (ne_of ha hp (by intro z; cases z)) ha) (de_butAll hp s hd)
  | _, _, .tup ha hd => .tup (s _ _ (ne_of ha hp (by intro z; cases z)) ha) (de_butAll hp s hd)
  | _, _, .dic ha => .dic (s _ _ (ne_of ha hp (by intro z; unfold pen at z; cases z)) ha)
theorem de_butAll (hp : H p = some (.dK (pen l k lf))) (s : SameBut p H H') : ∀ {ds : List PyData} {vs : List V}, DeAll K H vs ds → DeAll K H' vs ds
  | _, _, .nil => .nil
  | _, _, .cons h1 h2 => .cons (de_but hp s h1) (de_butAll hp s h2)
end
end
/-- tests that are right, of at most so many within one another -/
inductive TsR : Nat → PyData → Prop
  | w {n : Nat} {x : Str} : x ∈ plain10 → TsR (n + 1) (.tuple [.str x])
  | oth {n : Nat} {i : Int} : 0 ≤ i → i ≤ 2 → TsR (n + 1) (.tuple [.str "others", .int i])
  | neg {n : Nat} {d : PyData} : TsR n d → TsR (n + 1) (.tuple [.str "not", d])
  | bin {n : Nat} {x : Str} {a b : PyData} : x ∈ (["and", "or"] : List Str) → TsR n a → TsR n b → TsR (n + 1) (.tuple [.str x, a, b])
def cT : Nat → Nat
  | 0 => 0
  | m + 1 => 2 + 2 * cT m
def spLt (K : PySem.W.Frag) (n : Nat) : Sp := fun vs H Q _ => ∃ (p l : Addr) (ns : List Int) (k lf : Int) (m : Nat), vs = [.ref p, .int (m : Nat)] ∧ 1 ≤ m ∧ m < n ∧ PenAt H p l ns k lf ∧ ns.length ≤ 63 ∧ 0 ≤ k ∧ k + cT m ≤ 100000 ∧ 0 ≤ lf ∧
  ∀ (H' : Hp) (k' lf' : Int) (v : V) (d : PyData), k' ≤ k + cT m → 0 ≤ k' → 0 ≤ lf' → SameBut p H H' → PenAt H' p l ns k' lf' → De K H' v d → TsR m d → Q v H'
def words12 : List Str := ["mark", "f", "x", "y", "root", "ends", "next", "p", "here", "true", "next", "mark"]
theorem w12 : ∀ x ∈ words12, x ∈ plain10 := by decide +kernel
section
variable {P : Program} {w : World} {K : PySem.W.Frag} {mg : Str → Option Value} {base : Heap} {f fD fPk : Addr} {fd fdD fdPk : FuncData}
abbrev NLt : List Str := ["pen", "depth", "way", "one", "words"]
theorem ok_lt (F : Fun K "_law_test" "_law_test" (top 54) f fd)
    (gD : mg "_law_draw" = some (.ref fD)) (kD : PySem.W.keepIn K (.ref fD) = true) (GD : FnOk P w K mg base CX0 1 fD fdD ["pen", "many"] spDraw) (bD : Binds K fdD ["pen", "many"] [])
    (gPk : mg "_law_pick" = some (.ref fPk)) (kPk : PySem.W.keepIn K (.ref fPk) = true) (GPk : FnOk P w K mg base CX0 2 fPk fdPk ["pen", "some"] spPick) (bPk : Binds K fdPk ["pen", "some"] [])
    (gS : mg "_law_test" = some (.ref f)) (bS : Binds K fd ["pen", "depth"] []) : ∀ n : Nat, FnOk P w K mg base CX0 (n + 3) f fd ["pen", "depth"] (spLt K n) := by
  have S0 : FnScope NLt ["pen", "depth"] (defScope (top 54)) := ⟨rfl, rfl, rfl, by decide +kernel, rfl, by decide +kernel, by decide +kernel⟩
  have nd := S0.nd
  have kS := F.kp
  intro n
  induction n with
  | zero =>
    refine F.ok S0 (fun vs H Q E h => ?_) (fun cdv A outer s H vs Q E hr h => ?_)
    · obtain ⟨p, l, ns, k, lf, m, rfl, _⟩ := h
      rfl
    · obtain ⟨p, l, ns, k, lf, m, rfl, _, hm, _⟩ := h
      omega
  | succ n GS =>
  refine F.ok S0 (fun vs H Q E h => ?_) (fun cdv A outer s H vs Q E hr h => ?_)
  · obtain ⟨p, l, ns, k, lf, m, rfl, _⟩ := h
    rfl
  · obtain ⟨p, l, ns, k, lf, m, rfl, hm1, hm, P0, hn, i0, i1, i2, kk⟩ := h
    have hr1 : Room 1 _ := hr.mono (by omega)
    have hr2 : Room 2 _ := hr.mono (by omega)
    refine ⟨_, (pss_cons (ps_set (i := 2) nd rfl (Or.inl rfl) (pe_call GD hr1 (by rfl) gD kD bD .nil pass0 (pa_cons (pv 0) (pa_cons (pe_ifExp (pt_cmpR op_gt (pv 1) pe_int (nomark _)) pe_int pe_int) pa_nil))))
        (pss_cons (ps_if (pt_cmpR op_gt (pv 2) pe_int (nomark _)) (pss_one (ps_ret (pe_tup (pa_cons pe_str (pa_cons (pe_call GS hr (by rfl) gS kS bS .nil pass0 (pa_cons (pv 0) (pa_cons (pe_op op_sub (pv 1) pe_int) pa_nil))) pa_nil))))) pss_nil)
        (pss_cons (ps_if (pt_cmpR op_gt (pv 2) pe_int (nomark _)) (pss_cons (ps_set (i := 3) nd rfl (Or.inl rfl) (pe_call GS hr (by rfl) gS kS bS .nil pass0 (pa_cons (pv 0) (pa_cons (pe_op op_sub (pv 1) pe_int) pa_nil))))
        (pss_one (ps_ret (pe_tup (pa_cons (pe_call GPk hr2 (by rfl) gPk kPk bPk .nil pass0 (pa_cons (pv 0) (pa_cons (pe_lst (pa_cons pe_str (pa_cons pe_str pa_nil))) pa_nil))) (pa_cons (pv 3) (pa_cons (pe_call GS hr (by rfl) gS kS bS .nil pass0 (pa_cons (pv 0) (pa_cons (pe_op op_sub (pv 1) pe_int) pa_nil))) pa_nil))))))) pss_nil)
        (pss_cons (ps_if (pt_cmpR op_eq (pv 2) pe_int (nomark _)) (pss_one (ps_ret (pe_tup (pa_cons pe_str (pa_cons (pe_call GD hr1 (by rfl) gD kD bD .nil pass0 (pa_cons (pv 0) (pa_cons pe_int pa_nil))) pa_nil))))) pss_nil)
        (pss_cons (ps_set (i := 4) nd rfl (Or.inl rfl) (pe_lst (pa_cons pe_str (pa_cons pe_str (pa_cons pe_str (pa_cons pe_str (pa_cons pe_str (pa_cons pe_str (pa_cons pe_str (pa_cons pe_str (pa_cons pe_str (pa_cons pe_str (pa_cons pe_str (pa_cons pe_str pa_nil))))))))))))))
        (pss_one (ps_ret (pe_tup (pa_cons (pe_call GPk hr2 (by rfl) gPk kPk bPk .nil pass0 (pa_cons (pv 0) (pa_cons (pv 4) pa_nil))) pa_nil))))))))), ?_⟩
    obtain ⟨m, rfl⟩ : ∃ j, m = j + 1 := ⟨m - 1, by omega⟩
    have ec : cT (m + 1) = 2 + 2 * cT m := rfl
    rw [ec] at i1 kk
    have subE : ((m + 1 : Nat) : Int) - 1 = (m : Int) := by omega
    have keepP : ∀ {G G' : Hp} {k' lf' : Int}, PenAt G p l ns k' lf' → Same G G' → PenAt G' p l ns k' lf' := fun {G G' k' lf'} h s => ⟨s _ _ h.dc, s _ _ h.ls⟩
    refine ⟨V.ref p, rfl, V.int ((m + 1 : Nat) : Int), rfl, _, 1, rfl, rfl, _, rfl, ite2 (fun c => ?_) (fun c => ?_)⟩
    all_goals
      refine ⟨p, l, ns, k, lf, _, rfl, P0, hn, i0, by omega, i2, by decide, by decide, fun G1 k1 lf1 d g1 g2 g3 g4 g5 s1 P1 => ?_⟩
      have hd : m = 0 → d < 7 := fun z => by
        first
          | exact g5
          | exact absurd (of_decide_eq_true c) (by omega)
      have slf : ∀ {G : Hp} {ka la : Int} (R : VK), 1 ≤ m → PenAt G p l ns ka la → 0 ≤ ka → ka + cT m ≤ 100000 → 0 ≤ la → (∀ (H' : Hp) (k' lf' : Int) (v : V) (d : PyData), k' ≤ ka + cT m → 0 ≤ k' → 0 ≤ lf' → SameBut p G H' → PenAt H' p l ns k' lf' → De K H' v d → TsR m d → R v H') → spLt K n [.ref p, .int (((m + 1 : Nat) : Int) - 1)] G R (fun _ _ _ => False) := fun {G ka la} R h1 h2 h3 h4 h5 h6 => ⟨p, l, ns, ka, la, m, by rw [subE], h1, by omega, h2, hn, h3, h4, h5, h6⟩
      refine ⟨V.int d, rfl, d, 8, rfl, rfl, _, rfl, ite2 (fun c8 => ?_) (fun c8 => ?_)⟩
      · have c8 := of_decide_eq_true c8
        refine ⟨V.ref p, rfl, V.int ((m + 1 : Nat) : Int), rfl, _, 1, rfl, rfl, slf _ (by omega) P1 g2 (by omega) g3 fun H2 k2 lf2 v2 d2 e1 e2 e3 s2 P2 hv2 t2 => ⟨(by show 2 ≤ sizeLine; decide), fun q nq => ?_⟩⟩
        exact kk _ k2 lf2 (.ref q) _ (by omega) e2 e3 ((s1.trans s2).trans (SameBut.of (upd_new nq))) (keepP P2 (upd_new nq)) (.tup upd_same (.cons (.str _) (.cons (de_mono (upd_new nq) _ _ hv2) .nil))) (.neg t2)
      refine ⟨V.int d, rfl, d, 6, rfl, rfl, _, rfl, ite2 (fun c6 => ?_) (fun c6 => ?_)⟩
      · have c6 := of_decide_eq_true c6
        refine ⟨V.ref p, rfl, V.int ((m + 1 : Nat) : Int), rfl, _, 1, rfl, rfl, slf _ (by omega) P1 g2 (by omega) g3 fun H2 k2 lf2 v2 d2 e1 e2 e3 s2 P2 hv2 t2 => ?_⟩
        refine ⟨V.ref p, rfl, (by show 2 ≤ sizeLine; decide), fun q nq => ?_⟩
        have s3 := upd_new (o := .lst ((["and", "or"] : List Str).map V.str)) nq
        have hq3 : upd H2 q (.lst ((["and", "or"] : List Str).map V.str)) q = some (.lst ((["and", "or"] : List Str).map V.str)) := upd_same
        have P3 := keepP P2 s3
        refine ⟨p, l, .ref q, ns, k2, lf2, (["and", "or"] : List Str).map V.str, rfl, P3, hn, e2, by omega, e3, .inl ⟨q, rfl, hq3⟩, by decide, by decide, fun H4 k4 lf4 y f1 f2 f3 hy s4 P4 => ?_⟩
        obtain ⟨x, hx, rfl⟩ := List.mem_map.mp hy
        refine ⟨v2, rfl, V.ref p, rfl, V.int ((m + 1 : Nat) : Int), rfl, _, 1, rfl, rfl, slf _ (by omega) P4 f2 (by omega) f3 fun H5 k5 lf5 v5 d5 h1 h2 h3 s5 P5 hv5 t5 => ⟨(by show 3 ≤ sizeLine; decide), fun r nr => ?_⟩⟩
        have hv2' := de_mono (upd_new (o := .tup [.str x, v2, v5]) nr) _ _ (de_but P4.dc s5 (de_but P3.dc s4 (de_mono s3 _ _ hv2)))
        exact kk _ k5 lf5 (.ref r) _ (by omega) h2 h3 ((((s1.trans s2).trans (SameBut.of s3)).trans s4).trans (s5.trans (SameBut.of (upd_new nr)))) (keepP P5 (upd_new nr)) (.tup upd_same (.cons (.str _) (.cons hv2' (.cons (de_mono (upd_new nr) _ _ hv5) .nil)))) (.bin hx t2 t5)
      refine ⟨V.int d, rfl, rfl, _, rfl, ite2 (fun c0 => ?_) (fun c0 => ?_)⟩
      · refine ⟨V.ref p, rfl, p, l, ns, k1, lf1, 3, rfl, P1, hn, g2, by omega, g3, by decide, by decide, fun H2 k2 lf2 i e1 e2 e3 e4 e5 s2 P2 => ⟨(by show 2 ≤ sizeLine; decide), fun q nq => ?_⟩⟩
        exact kk _ k2 lf2 (.ref q) _ (by omega) e2 e3 ((s1.trans s2).trans (SameBut.of (upd_new nq))) (keepP P2 (upd_new nq)) (.tup upd_same (.cons (.str _) (.cons (.int _) .nil))) (.oth e4 (by omega))
      · refine ⟨(by show 12 ≤ sizeLine; decide), fun q nq => ?_⟩
        have s2 := upd_new (o := .lst (words12.map V.str)) nq
        have hq2 : upd G1 q (.lst (words12.map V.str)) q = some (.lst (words12.map V.str)) := upd_same
        have P2 := keepP P1 s2
        refine ⟨V.ref p, rfl, V.ref q, rfl, p, l, .ref q, ns, k1, lf1, words12.map V.str, rfl, P2, hn, g2, by omega, g3, .inl ⟨q, rfl, hq2⟩, by decide, by decide, fun H3 k3 lf3 y e1 e2 e3 hy s3 P3 => ⟨(by show 1 ≤ sizeLine; decide), fun r nr => ?_⟩⟩
        obtain ⟨x, hx, rfl⟩ := List.mem_map.mp hy
        exact kk _ k3 lf3 (.ref r) _ (by omega) e2 e3 (((s1.trans (SameBut.of s2)).trans s3).trans (SameBut.of (upd_new nr))) (keepP P3 (upd_new nr)) (.tup upd_same (.cons (.str _) .nil)) (.w (w12 x hx))
end
end SK
namespace SK
open PySem PySem.Spec PyProof.Rows L2 LamX NdefX
open K0 (De DeAll XCl spX withX)
/-! ### the law's simple statements -/
inductive SmR (blk : Str) : PyData → Prop
  | one {x : Str} : blk ∈ letD x → SmR blk (.tuple [.str x])
  | set {x : Str} {b : Bool} : x ∈ (["f", "x", "y"] : List Str) → SmR blk (.tuple [.str "set", .str x, .bool b])
  | ret {a : Str} : a ∈ ans4 → SmR blk (.tuple [.str "return", .str a])
  | retc {a : Str} : a ∈ ans4 → blk = Str.ofString "turn" → SmR blk (.tuple [.str "return", .str a, .str "cut"])
theorem Al.set1 {K : PySem.W.Frag} {H0 H : Hp} {σ : St} {te : TE} {i : Nat} {D : Ends} {d : PyData} (h : Al K H0 σ te d) (s : Same H0 H) (k : ∀ H' v, Same H H' → De K H' v d → D.nx (σ.set i (some v)) H') : tAsg te (gName i) D σ H := h H _ s k
theorem Al.set {K : PySem.W.Frag} {H0 H : Hp} {σ : St} {te : TE} {i : Nat} {u : TS} {D : Ends} {d : PyData} (h : Al K H0 σ te d) (s : Same H0 H) (k : ∀ H' v, Same H H' → De K H' v d → u D (σ.set i (some v)) H') : tSeq (tAsg te (gName i)) u D σ H := h H _ s k
def spSi (K : PySem.W.Frag) : Sp := fun vs H Q _ => ∃ (p l : Addr) (ns : List Int) (k lf : Int) (blk : Str), vs = [.ref p, .str blk] ∧ blk ∈ blk3 ∧ PenAt H p l ns k lf ∧ ns.length ≤ 63 ∧ 0 ≤ k ∧ k + 10 ≤ 100000 ∧ 0 ≤ lf ∧
  ∀ (H' : Hp) (k' lf' : Int) (v : V) (d : PyData), k' ≤ k + 5 → 0 ≤ k' → 0 ≤ lf' → SameBut p H H' → PenAt H' p l ns k' lf' → De K H' v d → SmR blk d → Q v H'
def menu4 : List PyData := [.tuple [.str "mark"], .tuple [.str "unmark"], .tuple [.str "set", .str "f", .bool true], .tuple [.str "set", .str "x", .bool true]]
theorem letD_all : (∀ b ∈ blk3, b ∈ letD (Str.ofString "mark") ∧ b ∈ letD (Str.ofString "unmark")) := by decide +kernel
theorem menu4_ok {blk : Str} (hb : blk ∈ blk3) : ∀ d ∈ menu4, SmR blk d := by
  intro d hd
  simp only [menu4, List.mem_cons, List.mem_nil_iff, or_false] at hd
  obtain ⟨a, b⟩ := letD_all blk hb
  rcases hd with rfl | rfl | rfl | rfl
  · exact .one a
  · exact .one b
  · exact .set (by decide +kernel)
  · exact .set (by decide +kernel)
theorem sm_fz {blk : Str} {d : PyData} (h : SmR blk d) : fz d = d := by
  cases h <;> simp [fz, fzAll]
theorem sm_fzAll {blk : Str} : ∀ {ds : List PyData}, (∀ d ∈ ds, SmR blk d) → fzAll ds = ds
  | [], _ => by simp [fzAll]
  | d :: ds, h => by rw [fzAll, sm_fz (h d (by simp)), sm_fzAll fun e he => h e (List.mem_cons_of_mem _ he)]
theorem sm_keep {K : PySem.W.Frag} {blk : Str} {G G' : Hp} {ds : List PyData} {vs : List V} (h : ∀ d ∈ ds, SmR blk d) (m : KeepN G G') (d : DeAll K G vs ds) : DeAll K G' vs ds := by
  have e := sm_fzAll h
  rw [← e] at d
  have z := de_fzAll m ds vs d
  rw [e] at z
  exact z
def more (blk a : Str) : List PyData := if blk = Str.ofString "down" then [.tuple [.str "make"], .tuple [.str "make"], .tuple [.str "keep"], .tuple [.str "keep"], .tuple [.str "stop"]] else
  if blk = Str.ofString "turn" then [.tuple [.str "cut"], .tuple [.str "keep"], .tuple [.str "return", .str a, .str "cut"], .tuple [.str "return", .str a, .str "cut"]] else [.tuple [.str "cut"], .tuple [.str "cut"], .tuple [.str "stop"]]
section
variable {P : Program} {w : World} {K : PySem.W.Frag} {mg : Str → Option Value} {base : Heap} {f fD fPk : Addr} {fd fdD fdPk : FuncData}
abbrev NSi : List Str := ["pen", "name", "menu", "answer"]
theorem ok_si (F : Fun K "_law_simple" "_law_simple" (top 55) f fd)
    (gD : mg "_law_draw" = some (.ref fD)) (kD : PySem.W.keepIn K (.ref fD) = true) (GD : FnOk P w K mg base CX0 1 fD fdD ["pen", "many"] spDraw) (bD : Binds K fdD ["pen", "many"] [])
    (gPk : mg "_law_pick" = some (.ref fPk)) (kPk : PySem.W.keepIn K (.ref fPk) = true) (GPk : FnOk P w K mg base CX0 2 fPk fdPk ["pen", "some"] spPick) (bPk : Binds K fdPk ["pen", "some"] []) : FnOk P w K mg base CX0 3 f fd ["pen", "name"] (spSi K) := by
  have S0 : FnScope NSi ["pen", "name"] (defScope (top 55)) := ⟨rfl, rfl, rfl, by decide +kernel, rfl, by decide +kernel, by decide +kernel⟩
  have nd := S0.nd
  refine F.ok S0 (fun vs H Q E h => ?_) (fun cdv A outer s H vs Q E hr h => ?_)
  · obtain ⟨p, l, ns, k, lf, blk, rfl, _⟩ := h
    rfl
  · obtain ⟨p, l, ns, k, lf, blk, rfl, hb, P0, hn, i0, i1, i2, kk⟩ := h
    have hr1 : Room 1 _ := hr.mono (by decide)
    have hr2 : Room 2 _ := hr
    refine ⟨_, (pss_cons (ps_set (i := 2) nd rfl (Or.inl rfl) (pe_lst (pa_cons (pe_tup (pa_cons pe_str pa_nil)) (pa_cons (pe_tup (pa_cons pe_str pa_nil)) (pa_cons (pe_tup (pa_cons pe_str (pa_cons pe_str (pa_cons pe_bl pa_nil)))) (pa_cons (pe_tup (pa_cons pe_str (pa_cons pe_str (pa_cons pe_bl pa_nil)))) pa_nil))))))
        (pss_cons (ps_set (i := 2) nd rfl (Or.inl rfl) (pe_op op_cat (pv 2) (pe_lst (pa_cons (pe_tup (pa_cons pe_str (pa_cons pe_str (pa_cons (pe_cmpR op_eq (pe_call GD hr1 (by rfl) gD kD bD .nil pass0 (pa_cons (pv 0) (pa_cons pe_int pa_nil))) pe_int (nomark _)) pa_nil)))) (pa_cons (pe_tup (pa_cons pe_str (pa_cons (pe_call GPk hr2 (by rfl) gPk kPk bPk .nil pass0 (pa_cons (pv 0) (pa_cons (pe_lst (pa_cons pe_str (pa_cons pe_str pa_nil))) pa_nil))) (pa_cons pe_bl pa_nil)))) pa_nil)))))
        (pss_cons (ps_expr (pe_bm PySem.F.plainAttrs_list PySem.F.slot_list_append PySem.F.type_list_append mt_append (pv 2) (pa_cons (pe_tup (pa_cons pe_str (pa_cons (pe_call GPk hr2 (by rfl) gPk kPk bPk .nil pass0 (pa_cons (pv 0) (pa_cons (pe_lst (pa_cons pe_str (pa_cons pe_str (pa_cons pe_str (pa_cons pe_str pa_nil))))) pa_nil))) pa_nil))) pa_nil)))
        (pss_cons (ps_if (pt_cmpR op_eq (pv 1) pe_str (nomark _)) (pss_one (ps_set (i := 2) nd rfl (Or.inl rfl) (pe_op op_cat (pv 2) (pe_lst (pa_cons (pe_tup (pa_cons pe_str pa_nil)) (pa_cons (pe_tup (pa_cons pe_str pa_nil)) (pa_cons (pe_tup (pa_cons pe_str pa_nil)) (pa_cons (pe_tup (pa_cons pe_str pa_nil)) (pa_cons (pe_tup (pa_cons pe_str pa_nil)) pa_nil))))))))) pss_nil)
        (pss_cons (ps_if (pt_cmpR op_eq (pv 1) pe_str (nomark _)) (pss_cons (ps_set (i := 3) nd rfl (Or.inl rfl) (pe_call GPk hr2 (by rfl) gPk kPk bPk .nil pass0 (pa_cons (pv 0) (pa_cons (pe_lst (pa_cons pe_str (pa_cons pe_str (pa_cons pe_str (pa_cons pe_str pa_nil))))) pa_nil))))
        (pss_one (ps_set (i := 2) nd rfl (Or.inl rfl) (pe_op op_cat (pv 2) (pe_lst (pa_cons (pe_tup (pa_cons pe_str pa_nil)) (pa_cons (pe_tup (pa_cons pe_str pa_nil)) (pa_cons (pe_tup (pa_cons pe_str (pa_cons (pv 3) (pa_cons pe_str pa_nil)))) (pa_cons (pe_tup (pa_cons pe_str (pa_cons (pv 3) (pa_cons pe_str pa_nil)))) pa_nil))))))))) pss_nil)
        (pss_cons (ps_if (pt_cmpR op_eq (pv 1) pe_str (nomark _)) (pss_one (ps_set (i := 2) nd rfl (Or.inl rfl) (pe_op op_cat (pv 2) (pe_lst (pa_cons (pe_tup (pa_cons pe_str pa_nil)) (pa_cons (pe_tup (pa_cons pe_str pa_nil)) (pa_cons (pe_tup (pa_cons pe_str pa_nil)) pa_nil))))))) pss_nil)
        (pss_one (ps_ret (pe_call GPk hr2 (by rfl) gPk kPk bPk .nil pass0 (pa_cons (pv 0) (pa_cons (pv 2) pa_nil))))))))))), ?_⟩
    have keepP : ∀ {G G' : Hp} {k' lf' : Int}, PenAt G p l ns k' lf' → Same G G' → PenAt G' p l ns k' lf' := fun {G G' k' lf'} h s => ⟨s _ _ h.dc, s _ _ h.ls⟩
    have b5 : (5000 : Nat) < sizeLine := by decide
    have pick : ∀ {G : Hp} {ka la : Int} {q : Addr} {ws : List Str} (R : VK), PenAt G p l ns ka la → 0 ≤ ka → ka ≤ 100000 → 0 ≤ la → G q = some (.lst (ws.map V.str)) → 0 < ws.length → ws.length ≤ 1000 → (∀ (H' : Hp) (k' lf' : Int) (x : Str), k' ≤ ka + 1 → 0 ≤ k' → 0 ≤ lf' → x ∈ ws → SameBut p G H' → PenAt H' p l ns k' lf' → R (.str x) H') → spPick [.ref p, .ref q] G R (fun _ _ _ => False) := fun {G ka la q ws} R h1 h2 h3 h4 h5 h6 h7 h8 =>
      ⟨p, l, .ref q, ns, ka, la, ws.map V.str, rfl, h1, hn, h2, h3, h4, .inl ⟨q, rfl, h5⟩, by rw [List.length_map]; exact h6, by rw [List.length_map]; exact h7, fun H' k' lf' y e1 e2 e3 hy s P => by
        obtain ⟨x, hx, rfl⟩ := List.mem_map.mp hy
        exact h8 H' k' lf' x e1 e2 e3 hx s P⟩
    refine Al.set (K := K) (H0 := H) (d := .list menu4) (al_lst (al_cons (al_tup (al_cons al_str al_nil) (by decide)) (al_cons (al_tup (al_cons al_str al_nil) (by decide)) (al_cons (al_tup (al_cons al_str (al_cons al_str (al_cons al_bl al_nil))) (by decide)) (al_cons (al_tup (al_cons al_str (al_cons al_str (al_cons al_bl al_nil))) (by decide)) al_nil)))) (by show 4 ≤ 1000; decide)) (Same.refl _) fun G1 m1 s1 hm1 => ?_
    have P1 := keepP P0 s1
    cases hm1 with
    | @lst a1 xs1 _ ha1 hxs1 =>
    have hl1 : xs1.length = 4 := deAll_len hxs1
    -- two more, with a draw and a pick
    refine ⟨V.ref a1, rfl, V.ref p, rfl, p, l, ns, k, lf, 2, rfl, P1, hn, i0, by omega, i2, by decide, by decide, fun G2 k2 lf2 d e1 e2 e3 e4 e5 s2 P2 => ?_⟩
    refine ⟨rfl, (by show 3 ≤ sizeLine; decide), fun t1 nt1 => ?_⟩
    have s3 := upd_new (o := .tup [.str "set", .str "y", .bl (decide (V.int d = V.int 0))]) nt1
    have ht3 : upd G2 t1 (.tup [.str "set", .str "y", .bl (decide (V.int d = V.int 0))]) t1 = some (.tup [.str "set", .str "y", .bl (decide (V.int d = V.int 0))]) := upd_same
    generalize upd G2 t1 (.tup [.str "set", .str "y", .bl (decide (V.int d = V.int 0))]) = G3 at s3 ht3
    refine ⟨V.ref p, rfl, (by show 2 ≤ sizeLine; decide), fun q nq => ?_⟩
    have s4 := upd_new (o := .lst ((["f", "x"] : List Str).map V.str)) nq
    have hq4 : upd G3 q (.lst ((["f", "x"] : List Str).map V.str)) q = some (.lst ((["f", "x"] : List Str).map V.str)) := upd_same
    have P4 := keepP (keepP P2 s3) s4
    refine pick (ws := ["f", "x"]) _ P4 e2 (by omega) e3 hq4 (by decide) (by decide) fun G5 k5 lf5 x f1 f2 f3 hx s5 P5 => ⟨(by show 3 ≤ sizeLine; decide), fun t2 nt2 => ?_⟩
    have ht5 := s5 _ _ (ne_of (s4 _ _ ht3) P4.dc (by intro z; cases z)) (s4 _ _ ht3)
    have nap : a1 ≠ p := ne_of ha1 P1.dc (by intro z; cases z)
    have ha4 := s4 _ _ (s3 _ _ (s2 _ _ nap ha1))
    have ha5 := s5 _ _ nap ha4
    have hx5 := de_butAll P4.dc s5 (de_monoAll s4 _ _ (de_monoAll s3 _ _ (de_butAll P1.dc s2 hxs1)))
    have s6 := upd_new (o := .tup [.str "set", .str x, .bl false]) nt2
    have ht6 : upd G5 t2 (.tup [.str "set", .str x, .bl false]) t2 = some (.tup [.str "set", .str x, .bl false]) := upd_same
    generalize upd G5 t2 (.tup [.str "set", .str x, .bl false]) = G6 at s6 ht6
    refine ⟨(by show 2 ≤ sizeLine; decide), fun c nc => ?_⟩
    have s7 := upd_new (o := .lst [.ref t1, .ref t2]) nc
    have hc7 : upd G6 c (.lst [.ref t1, .ref t2]) c = some (.lst [.ref t1, .ref t2]) := upd_same
    generalize upd G6 c (.lst [.ref t1, .ref t2]) = G7 at s7 hc7
    have s57 := s6.trans s7
    refine ⟨a1, c, xs1, [.ref t1, .ref t2], rfl, rfl, s57 _ _ ha5, hc7, (by rw [hl1]; show 4 + 2 ≤ sizeLine; omega), fun r nr => ?_⟩
    have s8 := upd_new (o := .lst (xs1 ++ [.ref t1, .ref t2])) nr
    have hr8 : upd G7 r (.lst (xs1 ++ [.ref t1, .ref t2])) r = some (.lst (xs1 ++ [.ref t1, .ref t2])) := upd_same
    generalize upd G7 r (.lst (xs1 ++ [.ref t1, .ref t2])) = G8 at s8 hr8
    have s58 := s57.trans s8
    have P7 := keepP P5 s57
    have nrp : r ≠ p := fun z => by
      rw [z, P7.dc] at nr
      cases nr
    have nrH : H r = none := by
      cases e : H r with
      | none => rfl
      | some o =>
        have z := (((((SameBut.of s1).trans s2).trans (SameBut.of (s3.trans s4))).trans s5).trans (SameBut.of s57)) r o nrp e
        rw [z] at nr
        cases nr
    have d8 : DeAll K G8 (xs1 ++ [.ref t1, .ref t2]) (menu4 ++ [.tuple [.str "set", .str "y", .bool (decide (V.int d = V.int 0))], .tuple [.str "set", .str x, .bool false]]) :=
      deAll_app (de_monoAll s58 _ _ hx5) (.cons (.tup (s58 _ _ ht5) (.cons (.str _) (.cons (.str _) (.cons (.bl _) .nil)))) (.cons (.tup (s8 _ _ (s7 _ _ ht6)) (.cons (.str _) (.cons (.str _) (.cons (.bl _) .nil)))) .nil))
    have ok8 : ∀ e ∈ menu4 ++ [.tuple [.str "set", .str "y", .bool (decide (V.int d = V.int 0))], .tuple [.str "set", .str x, .bool false]], SmR blk e := fun e he => by
      rcases List.mem_append.mp he with he | he
      · exact menu4_ok hb e he
      · simp only [List.mem_cons, List.mem_nil_iff, or_false] at he
        rcases he with rfl | rfl
        · exact .set (by decide +kernel)
        · have q : ∀ x ∈ (["f", "x"] : List Str), x ∈ (["f", "x", "y"] : List Str) := by decide +kernel
          exact .set (q x hx)
    have sb8 : SameBut p H G8 := ((((SameBut.of s1).trans s2).trans (SameBut.of (s3.trans s4))).trans s5).trans (SameBut.of s58)
    have P8 := keepP P5 s58
    have hl8 : (xs1 ++ [V.ref t1, V.ref t2]).length = 6 := by rw [List.length_append, hl1]; rfl
    generalize menu4 ++ [.tuple [.str "set", .str "y", .bool (decide (V.int d = V.int 0))], .tuple [.str "set", .str x, .bool false]] = ds8 at d8 ok8
    generalize xs1 ++ [V.ref t1, V.ref t2] = xs8 at hr8 d8 hl8
    clear s58 s57 s8 s7 s6 ht6 hc7 hx5 ha5 ha4 ht5 hq4 ht3
    -- a return
    refine ⟨V.ref r, rfl, .inl ⟨rfl, _, .inl (.inl hr8)⟩, V.ref p, rfl, (by show 4 ≤ sizeLine; decide), fun q2 nq2 => ?_⟩
    have s9 := upd_new (o := .lst (ans4.map V.str)) nq2
    have hq9 : upd G8 q2 (.lst (ans4.map V.str)) q2 = some (.lst (ans4.map V.str)) := upd_same
    have P9 := keepP P8 s9
    refine pick (ws := ans4) _ P9 f2 (by omega) f3 hq9 (by decide) (by decide) fun G10 k10 lf10 a g1 g2 g3 hxa s10 P10 => ⟨(by show 2 ≤ sizeLine; decide), fun t3 nt3 => ?_⟩
    have hr10 := s10 _ _ nrp (s9 _ _ hr8)
    have d10 := de_butAll P9.dc s10 (de_monoAll s9 _ _ d8)
    have s11 := upd_new (o := .tup [.str "return", .str a]) nt3
    have ht11 : upd G10 t3 (.tup [.str "return", .str a]) t3 = some (.tup [.str "return", .str a]) := upd_same
    generalize upd G10 t3 (.tup [.str "return", .str a]) = G11 at s11 ht11
    have hr11 := s11 _ _ hr10
    have kN : KeepN G11 (upd G11 r (.lst (xs8 ++ [.ref t3]))) := fun b o nl hb' => by
      rw [upd_ne (fun z => by rw [z, hr11] at hb'; exact nl xs8 (Option.some.inj hb').symm)]
      exact hb'
    have ok12 : ∀ e ∈ ds8 ++ [.tuple [.str "return", .str a]], SmR blk e := fun e he => by
      rcases List.mem_append.mp he with he | he
      · exact ok8 e he
      · rw [List.mem_singleton.mp he]
        exact .ret hxa
    have d12 := sm_keep ok12 kN (deAll_app (de_monoAll s11 _ _ d10) (.cons (.tup ht11 (.cons (.str _) (.cons (.str _) .nil))) .nil))
    refine ⟨r, xs8, .ref t3, rfl, rfl, hr11, by omega, ?_⟩
    have sb12 : SameBut p H (upd G11 r (.lst (xs8 ++ [.ref t3]))) := fun b o hb' e => by
      rw [upd_ne (ne_of_none e nrH)]
      exact (((sb8.trans (SameBut.of s9)).trans s10).trans (SameBut.of s11)) b o hb' e
    have P11 := keepP P10 s11
    have P12 : PenAt (upd G11 r (.lst (xs8 ++ [.ref t3]))) p l ns k10 lf10 := ⟨by rw [upd_ne (Ne.symm nrp)]; exact P11.dc, by
      rw [upd_ne (fun z => by rw [← z, P0.ls] at nrH; cases nrH)]
      exact P11.ls⟩
    have hr12 : upd G11 r (.lst (xs8 ++ [.ref t3])) r = some (.lst (xs8 ++ [.ref t3])) := upd_same
    have hl12 : (xs8 ++ [V.ref t3]).length = 7 := by rw [List.length_append, hl8]; rfl
    have hd12 : (ds8 ++ [PyData.tuple [.str "return", .str a]]).length = 7 := by rw [← deAll_len d12, hl12]
    generalize upd G11 r (.lst (xs8 ++ [.ref t3])) = G12 at sb12 P12 hr12 d12
    generalize xs8 ++ [V.ref t3] = xs12 at hr12 d12 hl12
    generalize ds8 ++ [PyData.tuple [.str "return", .str a]] = ds12 at d12 ok12 hd12
    have fin : ∀ {G : Hp} {ka la : Int} {r' : Addr} {xs : List V} {ds : List PyData}, PenAt G p l ns ka la → 0 ≤ ka → ka ≤ k + 4 → 0 ≤ la → SameBut p H G → G r' = some (.lst xs) → DeAll K G xs ds → (∀ e ∈ ds, SmR blk e) → 0 < xs.length → xs.length ≤ 1000 → spPick [.ref p, .ref r'] G Q (fun _ _ _ => False) := fun {G ka la r' xs ds} h1 h2 h3 h4 h5 h6 h7 h8 h9 h10 =>
      ⟨p, l, .ref r', ns, ka, la, xs, rfl, h1, hn, h2, by omega, h4, .inl ⟨r', rfl, h6⟩, h9, h10, fun H' k' lf' y e1 e2 e3 hy s P => by
        obtain ⟨e, he, hde⟩ := deAll_mem h7 hy
        exact kk H' k' lf' y e (by omega) e2 e3 (h5.trans s) P (de_but h1.dc s hde) (h8 e he)⟩
    have neq : ∀ {x y : Str}, x ≠ y → decide (V.str x = V.str y) = false := fun {x y} h => decide_eq_false fun z => h (V.str.inj z)
    have okM : ∀ (ex : List PyData), (∀ e ∈ ex, SmR blk e) → ∀ e ∈ ds12 ++ ex, SmR blk e := fun ex h e he => (List.mem_append.mp he).elim (ok12 e) (h e)
    have hb3 : blk = Str.ofString "down" ∨ blk = Str.ofString "turn" ∨ blk = Str.ofString "up" := by
      simp only [blk3, List.mem_cons, List.mem_nil_iff, or_false] at hb
      exact hb
    have one1 : ∀ {x : Str}, (∀ b ∈ blk3, b = blk → b ∈ letD x) → SmR blk (.tuple [.str x]) := fun {x} h => .one (h blk hb rfl)
    refine ⟨V.str blk, rfl, rfl, _, rfl, ?_⟩
    rcases hb3 with e | e | e
    · subst e
      refine iteT (Al.set1 (K := K) (H0 := G12) (d := .list (ds12 ++ [.tuple [.str "make"], .tuple [.str "make"], .tuple [.str "keep"], .tuple [.str "keep"], .tuple [.str "stop"]])) (al_cat (al_var (i := 2) rfl (.lst hr12 d12)) (al_lst (al_cons (al_tup (al_cons al_str al_nil) (by decide)) (al_cons (al_tup (al_cons al_str al_nil) (by decide)) (al_cons (al_tup (al_cons al_str al_nil) (by decide)) (al_cons (al_tup (al_cons al_str al_nil) (by decide)) (al_cons (al_tup (al_cons al_str al_nil) (by decide)) al_nil))))) (by show 5 ≤ 1000; decide)) (by rw [hd12]; decide)) (Same.refl _) fun G13 m13 s13 hm13 => ?_)
      have hm13 := hm13
      cases hm13 with
      | @lst a13 xs13 _ ha13 hx13 =>
      have hl13 := deAll_len hx13
      rw [List.length_append, hd12] at hl13
      have hl13 : xs13.length = 12 := hl13
      refine ⟨V.str _, rfl, rfl, _, rfl, ?_⟩
      rw [neq (by decide)]
      refine iteF ⟨V.str _, rfl, rfl, _, rfl, ?_⟩
      rw [neq (by decide)]
      refine iteF ⟨V.ref p, rfl, V.ref a13, rfl, fin (keepP P12 s13) g2 (by omega) g3 (sb12.trans (SameBut.of s13)) ha13 hx13 (okM _ ?_) (by omega) (by omega)⟩
      intro e he
      simp only [List.mem_cons, List.mem_nil_iff, or_false] at he
      rcases he with rfl | rfl | rfl | rfl | rfl <;> exact .one (by decide +kernel)
    · subst e
      rw [neq (by decide)]
      refine iteF ⟨V.str _, rfl, rfl, _, rfl, iteT ⟨V.ref p, rfl, (by show 4 ≤ sizeLine; decide), fun q3 nq3 => ?_⟩⟩
      have s13 := upd_new (o := .lst (ans4.map V.str)) nq3
      have hq13 : upd G12 q3 (.lst (ans4.map V.str)) q3 = some (.lst (ans4.map V.str)) := upd_same
      have P13 := keepP P12 s13
      refine pick (ws := ans4) _ P13 g2 (by omega) g3 hq13 (by decide) (by decide) fun G14 k14 lf14 a2 w1 w2 w3 hxa2 s14 P14 => ?_
      have hr14 := s14 _ _ nrp (s13 _ _ hr12)
      have d14 := de_butAll P13.dc s14 (de_monoAll s13 _ _ d12)
      have sb14 := (sb12.trans (SameBut.of s13)).trans s14
      refine Al.set1 (K := K) (H0 := G14) (d := .list (ds12 ++ [.tuple [.str "cut"], .tuple [.str "keep"], .tuple [.str "return", .str a2, .str "cut"], .tuple [.str "return", .str a2, .str "cut"]])) (al_cat (al_var (i := 2) rfl (.lst hr14 d14)) (al_lst (al_cons (al_tup (al_cons al_str al_nil) (by decide)) (al_cons (al_tup (al_cons al_str al_nil) (by decide)) (al_cons (al_tup (al_cons al_str (al_cons (al_var (i := 3) rfl (.str a2)) (al_cons al_str al_nil))) (by show 3 ≤ 1000; decide)) (al_cons (al_tup (al_cons al_str (al_cons (al_var (i := 3) rfl (.str a2)) (al_cons al_str al_nil))) (by show 3 ≤ 1000; decide)) al_nil)))) (by show 4 ≤ 1000; decide)) (by rw [hd12]; show 7 + 4 ≤ 1000; decide)) (Same.refl _) fun G15 m15 s15 hm15 => ?_
      have hm15 := hm15
      cases hm15 with
      | @lst a15 xs15 _ ha15 hx15 =>
      have hl15 := deAll_len hx15
      rw [List.length_append, hd12] at hl15
      have hl15 : xs15.length = 11 := hl15
      refine ⟨V.str _, rfl, rfl, _, rfl, ?_⟩
      rw [neq (by decide)]
      refine iteF ⟨V.ref p, rfl, V.ref a15, rfl, fin (keepP P14 s15) w2 (by omega) w3 (sb14.trans (SameBut.of s15)) ha15 hx15 (okM _ ?_) (by omega) (by omega)⟩
      intro e he
      simp only [List.mem_cons, List.mem_nil_iff, or_false] at he
      rcases he with rfl | rfl | rfl | rfl
      · exact .one (by decide +kernel)
      · exact .one (by decide +kernel)
      · exact .retc hxa2 rfl
      · exact .retc hxa2 rfl
    · subst e
      rw [neq (by decide)]
      refine iteF ⟨V.str _, rfl, rfl, _, rfl, ?_⟩
      rw [neq (by decide)]
      refine iteF ⟨V.str _, rfl, rfl, _, rfl, iteT (Al.set1 (K := K) (H0 := G12) (d := .list (ds12 ++ [.tuple [.str "cut"], .tuple [.str "cut"], .tuple [.str "stop"]])) (al_cat (al_var (i := 2) rfl (.lst hr12 d12)) (al_lst (al_cons (al_tup (al_cons al_str al_nil) (by decide)) (al_cons (al_tup (al_cons al_str al_nil) (by decide)) (al_cons (al_tup (al_cons al_str al_nil) (by decide)) al_nil))) (by show 3 ≤ 1000; decide)) (by rw [hd12]; decide)) (Same.refl _) fun G13 m13 s13 hm13 => ?_)⟩
      have hm13 := hm13
      cases hm13 with
      | @lst a13 xs13 _ ha13 hx13 =>
      have hl13 := deAll_len hx13
      rw [List.length_append, hd12] at hl13
      have hl13 : xs13.length = 10 := hl13
      refine ⟨V.ref p, rfl, V.ref a13, rfl, fin (keepP P12 s13) g2 (by omega) g3 (sb12.trans (SameBut.of s13)) ha13 hx13 (okM _ ?_) (by omega) (by omega)⟩
      intro e he
      simp only [List.mem_cons, List.mem_nil_iff, or_false] at he
      rcases he with rfl | rfl | rfl <;> exact .one (by decide +kernel)
end
end SK
namespace SK
open PySem PySem.Spec PyProof.Rows L2 LamX NdefX
open K0 (De DeAll XCl spX withX)
/-! ### what the law builds is right -/
theorem TsR.mono {n : Nat} {d : PyData} (h : TsR n d) : ∀ {m : Nat}, n ≤ m → TsR m d := by
  induction h with
  | w hx => exact fun {m} hm => by obtain ⟨j, rfl⟩ : ∃ j, m = j + 1 := ⟨m - 1, by omega⟩; exact .w hx
  | oth h0 h1 => exact fun {m} hm => by obtain ⟨j, rfl⟩ : ∃ j, m = j + 1 := ⟨m - 1, by omega⟩; exact .oth h0 h1
  | neg _ ih => exact fun {m} hm => by obtain ⟨j, rfl⟩ : ∃ j, m = j + 1 := ⟨m - 1, by omega⟩; exact .neg (ih (by omega))
  | bin hx _ _ ia ib => exact fun {m} hm => by obtain ⟨j, rfl⟩ : ∃ j, m = j + 1 := ⟨m - 1, by omega⟩; exact .bin hx (ia (by omega)) (ib (by omega))
theorem plain_str : ∀ x ∈ plain10, PyData.strOk x = true := by decide +kernel
theorem andor_ok : ∀ x ∈ (["and", "or"] : List Str), PyData.strOk x = true ∧ x ≠ Str.ofString "others" ∧ x ≠ Str.ofString "not" := by decide +kernel
theorem tsR_ok {n : Nat} {d : PyData} (h : TsR n d) : okT n d = true := by
  induction h with
  | @w n x hx =>
    show (true && inS plain10 (.str x)) = true
    rw [inS_str, decide_eq_true hx]
    rfl
  | @oth n i h0 h1 =>
    show (true && (([] : List PyData).isEmpty && (decide (0 ≤ i) && decide (i ≤ 2)))) = true
    rw [decide_eq_true h0, decide_eq_true h1]
    rfl
  | @neg n d _ ih =>
    show (true && okT2 (okT n) (.str "not") d []) = true
    unfold okT2
    rw [if_neg (show ¬ nm (PyData.str "not") = some (Str.ofString "others") from fun q => absurd (Option.some.inj q) (by decide)), if_pos (show nm (PyData.str "not") = some (Str.ofString "not") from rfl), ih]
    rfl
  | @bin n x a b hx _ _ ia ib =>
    obtain ⟨_, n1, n2⟩ := andor_ok x hx
    show (true && okT2 (okT n) (.str x) a [b]) = true
    unfold okT2
    rw [if_neg (show ¬ nm (PyData.str x) = some (Str.ofString "others") from fun q => n1 (Option.some.inj q)), if_neg (show ¬ nm (PyData.str x) = some (Str.ofString "not") from fun q => n2 (Option.some.inj q)), inS_str, decide_eq_true hx, if_pos rfl]
    show (true && (okT n a && okT n b)) = true
    rw [ia, ib]
    rfl
theorem tsR_hd {n : Nat} {d : PyData} (h : TsR n d) : hdT n d := by
  induction h with
  | @w n x hx =>
    intro h r _ e
    injection e with e1 e2
    subst e1 e2
    exact ⟨.str x (plain_str x hx), fun e he => absurd he (by simp)⟩
  | @oth n i h0 h1 =>
    intro h r _ e
    injection e with e1 e2
    subst e1 e2
    refine ⟨.str _ (by decide +kernel), fun e he => ?_⟩
    rw [List.mem_singleton.mp he]
    cases n with
    | zero => exact trivial
    | succ n => exact fun _ _ z => nomatch z
  | @neg n d _ ih =>
    intro h r _ e
    injection e with e1 e2
    subst e1 e2
    refine ⟨.str _ (by decide +kernel), fun e he => ?_⟩
    rw [List.mem_singleton.mp he]
    exact ih
  | @bin n x a b hx _ _ ia ib =>
    intro h r _ e
    injection e with e1 e2
    subst e1 e2
    refine ⟨.str x (andor_ok x hx).1, fun e he => ?_⟩
    rcases List.mem_cons.mp he with rfl | he
    · exact ia
    · rw [List.mem_singleton.mp he]
      exact ib
end SK
/-! ### sets of texts that can be walked -/
namespace SK
open PySem PyProof.Rows L2
/-- the set's entries are l in some order, and its table rises -/
structure SetL (P : Program) (w : World) (h : Heap) (a : Addr) (l : List (Int × Value)) : Prop where
  ob : ∃ o es ep t, h.get? a = some o ∧ o.ExactSet ∧ o.data = .set es ep t ∧ es.toList.Perm l ∧ t.fits es.size = true ∧ Ris t.place.toList ∧ (w.params.followText "set-order" = true ∨ t.led = true)
  el : ElemsOf (strKind P w) l
  sz : l.length < scanBound
theorem SetL.at {P : Program} {w : World} {h h' : Heap} {a : Addr} {l : List (Int × Value)} (R : SetL P w h a l) (k : ∀ o, h.get? a = some o → h'.get? a = some o) : SetL P w h' a l := by
  obtain ⟨⟨o, es, ep, t, ho, r⟩, b, c⟩ := R
  exact ⟨⟨o, es, ep, t, k o ho, r⟩, b, c⟩
section
variable {P : Program} {w : World} {A : Around} {E : Value → Shared → Prop} {s : Shared} {a : Addr} {l : List (Int × Value)}
theorem kept_set {h : Heap} {o : Obj} {es xs : Array (Int × Value)} {ep : Nat} {t tb : SetTable} (ho : h.get? a = some o) (hd : o.data = .set es ep t) : (h.update a (Obj.putSet xs tb)).get? a = some { o with data := .set xs (ep + 1) tb } := by
  have z := Heap.get?_update_self (Obj.putSet xs tb) ho (by rw [putSet_of xs tb hd]; rfl)
  rw [putSet_of xs tb hd] at z
  exact z
theorem setL_lay {g : Bool → Sem Unit} (hg : ∀ (b : Bool) (u : Shared) (Q : Unit → Shared → Prop), Q () u → wpAny (model P w) A (g b) Q E u) {o : Obj} {es xs : Array (Int × Value)} {ep : Nat} {t tb : SetTable} (ho : s.heap.get? a = some o) (hex : o.ExactSet) (hd : o.data = .set es ep t)
    (pm : xs.toList.Perm l) (el : ElemsOf (strKind P w) l) (sz : l.length < scanBound) (hf : tb.fits xs.size = true) (hr : Ris tb.place.toList) (hl : w.params.followText "set-order" = true ∨ tb.led = true) {dm : Bool} {R : Option Bool → Shared → Prop}
    (hR : ∀ h', Heap.SameBut a s.heap h' → SetL P w h' a l → R (some true) { s with heap := h' }) :
    wpAny (model P w) A (do
        storeSet a xs tb
        if (!dm && tb.tooFull) = true then do
            g (relayAll tb xs (SetTable.grown xs.size)).2.2
            storeSet a (relayAll tb xs (SetTable.grown xs.size)).1 (relayAll tb xs (SetTable.grown xs.size)).2.1
            pure (some true)
          else pure (some true)) R E s := by
  have zx : xs.size < scanBound := by
    rw [← Array.length_toList, pm.length_eq]
    exact sz
  refine wpAny_bind (wpAny_storeSet_of ho hd ?_ (fits_of_scanBound zx))
  have h1 := kept_set (xs := xs) (tb := tb) ho hd
  have b1 := Heap.SameBut.update s.heap a (Obj.putSet xs tb)
  split
  · have q1 := relayAll_perm tb xs (SetTable.grown xs.size)
    have q2 := relayAll_fits tb xs (SetTable.grown xs.size)
    have q3 := relayAll_ris tb xs (SetTable.grown xs.size)
    have q4 := relayAll_led tb xs (SetTable.grown xs.size)
    generalize relayAll tb xs (SetTable.grown xs.size) = Z at q1 q2 q3 q4 ⊢
    obtain ⟨ys, tc, gv⟩ := Z
    dsimp only at q1 q2 q3 q4 ⊢
    have zy : ys.size < scanBound := by
      rw [← Array.length_toList, q1.length_eq, Array.length_toList]
      exact zx
    refine wpAny_bind (hg _ _ _ (wpAny_bind (wpAny_storeSet_of h1 rfl ?_ (fits_of_scanBound zy))))
    have h2 := kept_set (xs := ys) (tb := tc) h1 rfl
    exact wpAny_pure (hR _ (b1.trans (Heap.SameBut.update _ a _)) ⟨⟨_, ys, _, tc, h2, hex, rfl, q1.trans pm, q2, q3, hl.imp id fun z => by rw [q4]; exact z⟩, el, sz⟩)
  · exact wpAny_pure (hR _ b1 ⟨⟨_, xs, _, tb, h1, hex, rfl, pm, hf, hr, hl⟩, el, sz⟩)
theorem setL_add {x : Str} {tk : Tok} {Q : Bool → Shared → Prop} (R : SetL P w s.heap a l) (room : l.length + 1 < scanBound) (h1 : (∃ e ∈ l, (strKind P w).is x e.2 = true) → Q false s)
    (h2 : (∀ e ∈ l, (strKind P w).is x e.2 = false) → ∀ h', Heap.SameBut a s.heap h' → SetL P w h' a (((strKind P w).hash x, .str x tk) :: l) → Q true { s with heap := h' }) : wpAny (model P w) A (setAddHashed a (.str x tk) ((strKind P w).hash x)) Q E s := by
  obtain ⟨⟨o, es, ep, t, ho, hex, hd, pm, hf, hr, hl⟩, el, sz⟩ := R
  have isx : (strKind P w).is x (.str x tk) = true := strKind_is P w x tk
  have sc : (Value.str x tk).scannable = true := rfl
  have el0 : ElemsOf (strKind P w) es.toList := fun e he => el e (pm.mem_iff.mp he)
  have ze : es.size < scanBound := by
    rw [← Array.length_toList, pm.length_eq]
    exact sz
  unfold setAddHashed setAddHashedIn
  refine wpAny_holding (wpAny_bind (wpAny_setState_of ho hd hf ?_)); dsimp only
  rw [byScan_of sc ze el0]
  simp only [↓reduceIte]
  unfold setAddByScan
  refine wpAny_bind (wpAny_bind (wpAny_rule (wpAny_bind (wpAny_setScan_of isx ho hd hf el0 ?_))))
  cases hfi : List.findIdx? (fun e => (strKind P w).is x e.2) es.toList with
  | some j =>
    dsimp only
    obtain ⟨hj, pj, _⟩ := List.findIdx?_eq_some_iff_getElem.mp hfi
    exact wpAny_pure (wpAny_pure (h1 ⟨es.toList[j], pm.mem_iff.mp (List.getElem_mem hj), pj⟩))
  | none =>
    dsimp only
    have nx : ∀ e ∈ l, (strKind P w).is x e.2 = false := fun e he => List.findIdx?_eq_none_iff.mp hfi e (pm.mem_iff.mpr he)
    have hgv : ∀ (b : Bool) {u : Shared} {Q : Unit → Shared → Prop}, Q () u → wpAny (model P w) A (match b with | true => rule "set.scan.the-table-gave-way" | false => pure ()) Q E u := fun b u Q q => by
      cases b
      · exact wpAny_pure q
      · exact wpAny_rule q
    have q1 := layNew_perm t es ((strKind P w).hash x) (.str x tk)
    have q2 := layNew_fits t es ((strKind P w).hash x) (.str x tk)
    have q3 := layNew_ris t es ((strKind P w).hash x) (.str x tk) hr
    have q4 := layNew_led t es ((strKind P w).hash x) (.str x tk)
    generalize layNew t es ((strKind P w).hash x) (.str x tk) = Z at q1 q2 q3 q4 ⊢
    obtain ⟨xs, tb, dm, gv⟩ := Z
    dsimp only at q1 q2 q3 q4 ⊢
    rw [Array.toList_push] at q1
    have pc : xs.toList.Perm (((strKind P w).hash x, Value.str x tk) :: l) := (q1.trans (List.perm_append_singleton _ _)).trans (pm.cons _)
    have el1 : ElemsOf (strKind P w) (((strKind P w).hash x, Value.str x tk) :: l) := fun e he => by
      rcases List.mem_cons.mp he with z | z
      · rw [z]
        exact ⟨⟨x, isx, rfl⟩, rfl⟩
      · exact el e z
    have led : w.params.followText "set-order" = true ∨ tb.led = true := hl.imp id fun z => by rw [q4]; exact z
    have fin : ∀ h', Heap.SameBut a s.heap h' → SetL P w h' a (((strKind P w).hash x, Value.str x tk) :: l) → Q true { s with heap := h' } := h2 nx
    refine wpAny_bind (hgv _ ?_)
    split
    · refine wpAny_bind ?_
      rw [hashByValue_scannable 8 sc]
      refine wpAny_pure (setL_lay ?_ ho hex hd pc el1 room ?_ ?_ ?_ ?_)
      · intro b u Q q
        cases b
        · exact wpAny_pure q
        · exact wpAny_rule q
      · first | (split <;> first | exact q2 | exact SetTable.fits_plain_off q2) | exact q2
      · first | (split <;> exact q3) | exact q3
      · first | (split <;> exact led) | exact led
      · intro h' sb r
        dsimp only
        exact wpAny_pure (fin h' sb r)
    · refine wpAny_bind (wpAny_pure ?_)
      simp only [↓reduceIte]
      refine setL_lay ?_ ho hex hd pc el1 room q2 q3 led ?_
      · intro b u Q q
        cases b
        · exact wpAny_pure q
        · exact wpAny_rule q
      · intro h' sb r
        dsimp only
        exact wpAny_pure (fin h' sb r)
end
/-! ### the set of a list of texts -/
def entS (P : Program) (w : World) (k : Str × Tok) : Int × Value := ((strKind P w).hash k.1, .str k.1 k.2)
theorem is_entS (P : Program) (w : World) (x : Str) (k : Str × Tok) : (strKind P w).is x (entS P w k).2 = decide (k.1 = x) := by
  cases h : (strKind P w).is x (entS P w k).2 with
  | true =>
    have z := (strKind P w).inj (.str k.1 k.2) x k.1 h (strKind_is P w k.1 k.2)
    rw [decide_eq_true z.symm]
  | false =>
    have n : ¬ k.1 = x := fun z => by
      have q := strKind_is P w k.1 k.2
      rw [z] at q
      have h : (strKind P w).is x (.str k.1 k.2) = false := h
      rw [z, q] at h
      cases h
    rw [decide_eq_false n]
/-- the members are just the texts of xs -/
structure Mems (xs : List Str) (ks : List (Str × Tok)) : Prop where
  nd : (ks.map (·.1)).Nodup
  mem : ∀ x, x ∈ ks.map (·.1) ↔ x ∈ xs
  le : ks.length ≤ xs.length
theorem Mems.nil : Mems [] [] := ⟨by simp, fun x => by simp, Nat.le_refl _⟩
theorem Mems.old {xs : List Str} {ks : List (Str × Tok)} {x : Str} (m : Mems xs ks) (h : x ∈ ks.map (·.1)) : Mems (xs ++ [x]) ks := ⟨m.nd, fun y => by
  rw [m.mem y, List.mem_append, List.mem_singleton]
  exact ⟨.inl, fun z => z.elim id fun e => by rw [e]; exact (m.mem x).mp h⟩, by have := m.le; rw [List.length_append]; omega⟩
theorem Mems.new {xs : List Str} {ks : List (Str × Tok)} {x : Str} {tk : Tok} (m : Mems xs ks) (h : x ∉ ks.map (·.1)) : Mems (xs ++ [x]) ((x, tk) :: ks) := ⟨List.nodup_cons.mpr ⟨h, m.nd⟩, fun y => by
  rw [List.map_cons, List.mem_cons, m.mem y, List.mem_append, List.mem_singleton]
  exact Or.comm, by have := m.le; rw [List.length_append, List.length_cons]; simp; omega⟩
section
variable {prog : Program} {w : World} {A : Around} {R : Result → Shared → Prop} {I : Addr} {fp wr : List Addr} {G : Array GenState → Array GenState → Prop} {n : Nat} {Pv : Nat → Value → Prop} {St : Nat → Shared → Prop}
theorem loop_strs (W : WalksS prog w A.in1 I fp wr G n Pv St) (S : Addr) (hSf : S ∉ fp) (xs : List Str) (hn : n = xs.length) (hz : xs.length + 1 < scanBound) (hval : ∀ i v, Pv i v → ∃ x t, xs[i]? = some x ∧ v = .str x t) : ∀ (m i : Nat) (s : Shared), m + i = n → St i s →
    (∃ ks, Mems (xs.take i) ks ∧ SetL prog w s.heap S (ks.map (entS prog w))) →
    (∀ s' ks, Moved (S :: wr) G s s' → Mems xs ks → SetL prog w s'.heap S (ks.map (entS prog w)) → R (.ok (.ret .none)) s') →
    codeAny (model prog w) A (.builtin "set.update.loop" ⟨[.ref S, .ref I], []⟩) R s := by
  have hSw : S ∉ wr := fun h => hSf (W.sub _ h)
  have sub : ∀ b ∈ wr, b ∈ S :: wr := fun b hb => List.mem_cons_of_mem _ hb
  intro m
  induction m with
  | zero =>
    intro i s hk st ⟨ks, M, hS⟩ hR
    obtain rfl : i = n := by omega
    refine codeAny_builtin PyProof.Rows.F.entry_set_update_loop ?_
    rw [Around.under_plainId PyProof.Rows.F.plain_set_update_loop _]
    show wpAny _ A.in1 (pyNext (.ref I) >>= _) _ _ s
    refine wpAny_bind (W.done s _ _ st fun s' hm => ?_)
    have e : xs.take i = xs := List.take_of_length_le (by omega)
    rw [e] at M
    show wpAny _ A.in1 (ret Value.none) _ _ s'
    exact wpAny_pure (hR s' ks (hm.mono sub) M (hS.at fun o z => hm.heap S o hSw z))
  | succ m ih =>
    intro i s hk st ⟨ks, M, hS⟩ hR
    have hlt : i < n := by omega
    refine codeAny_builtin PyProof.Rows.F.entry_set_update_loop ?_
    rw [Around.under_plainId PyProof.Rows.F.plain_set_update_loop _]
    show wpAny _ A.in1 (pyNext (.ref I) >>= _) _ _ s
    refine wpAny_bind (W.item i s _ _ hlt st fun v s' hP st' hm => ?_)
    obtain ⟨x, t, hx, rfl⟩ := hval i v hP
    have q := hS.at (h' := s'.heap) fun o z => hm.heap S o hSw z
    have e : xs.take (i + 1) = xs.take i ++ [x] := by rw [List.take_add_one, hx]; rfl
    show wpAny _ A.in1 (holding [Value.str x t] (setAdd S (.str x t)) >>= _) _ _ s'
    refine wpAny_bind (wpAny_holding ?_)
    unfold setAdd
    refine wpAny_holding (wpAny_bind ((strKind prog w).pyHash (k := x) (strKind_is _ _ x t) ?_))
    have le := M.le
    rw [List.length_take] at le
    refine setL_add (s := { s' with toks := s'.toks + 1 }) q (by rw [List.length_map]; omega) (fun hin => ?_) fun hno h' hsb hS2 => ?_
    · have hm2 : x ∈ ks.map (·.1) := by
        obtain ⟨y, hy, hi⟩ := hin
        obtain ⟨k, hk2, rfl⟩ := List.mem_map.mp hy
        rw [is_entS] at hi
        exact List.mem_map.mpr ⟨k, hk2, of_decide_eq_true hi⟩
      refine wpAny_pure ⟨plainId_quiet PyProof.Rows.F.plain_set_update_loop _, ih (i + 1) _ (by omega) (W.frame _ s' _ _ st' (Nat.le_succ _) fun b hb o z => z) ⟨ks, by rw [e]; exact M.old hm2, q⟩ fun s2 ks2 hm2 M2 hS3 => ?_⟩
      exact hR s2 ks2 (Moved.trans W.gtrans ((hm.mono sub).then_heap (Nat.le_succ _) fun b o hb z => z) hm2) M2 hS3
    · have hm2 : x ∉ ks.map (·.1) := fun z => by
        obtain ⟨k, hk2, ek⟩ := List.mem_map.mp z
        have y := hno _ (List.mem_map.mpr ⟨k, hk2, rfl⟩)
        rw [is_entS, decide_eq_true ek] at y
        cases y
      refine wpAny_pure ⟨plainId_quiet PyProof.Rows.F.plain_set_update_loop _, ih (i + 1) _ (by omega) (W.frame _ s' _ _ st' (Nat.le_succ _) fun b hb o z => ?_) ⟨(x, t) :: ks, by rw [e]; exact M.new hm2, hS2⟩ fun s2 ks2 hm2 M2 hS3 => ?_⟩
      · have nb : b ≠ S := fun h => hSf (h ▸ hb)
        exact (hsb.2 b nb).trans z
      · refine hR s2 ks2 (Moved.trans W.gtrans ((hm.mono sub).then_heap (Nat.le_succ _) fun b o hb z => ?_) hm2) M2 hS3
        have nb : b ≠ S := fun h => hb (by rw [h]; exact List.mem_cons_self)
        exact (hsb.2 b nb).trans z
end
end SK
/-! ### sorted(set(texts)) -/
namespace SK
open PySem PyProof.Rows L2
section
variable {prog : Program} {w : World} {A : Around} {E : Value → Shared → Prop} {s : Shared}
def srt (ws : List Str) : List Str := ws.mergeSort (PySem.W.dataLe false PyData.str)
theorem strs_of : ∀ {ws : List Str} {us : List Value}, Vals (ws.map V.str) us → PySem.W.EachIs (fun v b => ∃ t, v = Value.str b t) us ws
  | [], [], _ => .nil
  | [], _ :: _, h => by cases h
  | _ :: _, [], h => by cases h
  | w :: ws, u :: us, h => by
    cases h with
    | cons h1 h2 => exact .cons h1 (strs_of h2)
theorem strs_to : ∀ {us : List Value} {ws : List Str}, PySem.W.EachIs (fun v b => ∃ t, v = Value.str b t) us ws → Vals (ws.map V.str) us
  | _, _, .nil => .nil
  | _, _, .cons h1 h2 => .cons h1 (strs_to h2)
theorem strs_alike (ws : List Str) : PySem.W.AllAlike (ws.map PyData.str) := fun d hd e he => by
  obtain ⟨x, _, rfl⟩ := List.mem_map.mp hd
  obtain ⟨y, _, rfl⟩ := List.mem_map.mp he
  simp [PySem.W.alike]
theorem strs_sortable (ws : List Str) : PySem.W.Sortable (ws.map PyData.str) := .inr fun d hd => by
  obtain ⟨x, _, rfl⟩ := List.mem_map.mp hd
  exact ⟨(fun z => nomatch z), fun xs z => nomatch z⟩
abbrev emptyS (w : World) : Obj := { cls := .type "set", dict := none, data := .set #[] 0 (.fresh 0 0 (!w.params.followText "set-order")) }
theorem setL_fresh {h : Heap} {a : Addr} (ho : h.get? a = some (emptyS w)) : SetL prog w h a [] := ⟨⟨_, #[], 0, _, ho, ⟨rfl, rfl, rfl⟩, rfl, .nil, rfl, List.Pairwise.nil, by
    show _ ∨ (!w.params.followText "set-order") = true
    cases w.params.followText "set-order"
    · exact .inr rfl
    · exact .inl rfl⟩, (fun e he => by cases he), by decide⟩
theorem call_set_strs {l : Addr} {items : Array Value} (xs : List Str) {Q : Value → Shared → Prop} (hh : A.handled = none) (hl : s.heap.IsList l items) (hi : items.size = xs.length) (hit : ∀ (i : Nat) (v : Value), items[i]? = some v → ∃ (x : Str) (t : Tok), xs[i]? = some x ∧ v = .str x t) (hz : xs.length + 1 < scanBound)
    (h : ∀ (h' : Heap) (tk : Nat) (ks : List (Str × Tok)), Mems xs ks → SetL prog w h' s.heap.objs.size (ks.map (entS prog w)) → (∀ b o, s.heap.get? b = some o → h'.get? b = some o) →
      Q (.ref s.heap.objs.size) { s with heap := h', toks := tk }) : wpAny (model prog w) A (call (.type "set") [.ref l]) Q E s := by
  obtain ⟨c, tl, hmro⟩ := PySem.F.called_set.mro
  have made := PySem.F.called_set.made
  have subs := PySem.F.called_set.sub
  refine wpAny_call (codeAny_of_tree ?_)
  show wpAny _ _ (callAny (.type "set") _) _ _ _
  refine wpAny_pure ⟨Code.quiet_builtin _ (by decide +kernel), codeAny_builtin PySem.F.entry_type_call ?_⟩
  rw [Around.under_plain (weight_type_call_type "set" [.ref l] []) rfl]
  have f1 := PySem.F.called_set.notType
  have f2 := PySem.F.called_set.canCreate
  have f3 := PySem.F.typeCall_set_1 (.ref l)
  repeat (any_goals (first | assumption | wp_step))
  refine codeAny_mono (code_set_led1 (.ref l) (E := E) (Q₁ := fun obj u => obj = .ref s.heap.objs.size ∧ u = { s with heap := s.heap.push (emptyS w) }) ⟨rfl, rfl⟩) fun r s1 hr => ?_
  cases r with
  | error e => exact hr
  | ok fl =>
    cases fl with
    | ret obj =>
      obtain ⟨rfl, rfl⟩ := hr
      generalize hoo : emptyS w = oo
      have fro : oo.isFreed = false := by rw [← hoo]; rfl
      have hS : (s.heap.push oo).get? s.heap.objs.size = some oo := Heap.get?_push_size _ fro
      have hT : Shared.TypeIs { s with heap := s.heap.push oo } (.ref s.heap.objs.size) "set" := ⟨_, hS, by rw [← hoo]⟩
      have hli := PySem.F.called_set.init.lookup
      have hbi := PySem.F.called_set.init.bind (.ref s.heap.objs.size)
      repeat (any_goals (first | assumption | wp_step))
      refine codeAny_mono (codeAny_call_builtin (R := wants (fun r u => r = .none ∧ ∃ h' tk ks, u = { s with heap := h', toks := tk } ∧ Mems xs ks ∧ SetL prog w h' s.heap.objs.size (ks.map (entS prog w)) ∧ (∀ b o, s.heap.get? b = some o → h'.get? b = some o)) E) PySem.F.called_set.init.plain PySem.F.entry_set_init (check_set_init_1 hT ?_)) fun r2 s2 hr2 => ?_
      · subst hoo
        obtain ⟨ol, hol, hcl, nl, hdl⟩ := hl
        obtain ⟨ocls, odict, odata, oslots⟩ := ol
        simp only at hcl hdl
        subst hcl; subst hdl
        have hol2 : (s.heap.push (emptyS w)).get? l = some { cls := .type "list", dict := odict, data := .seq items nl, slots := oslots } := Heap.get?_push_of_some _ hol
        have g1 := PySem.F.sub_list_set
        have g2 := PySem.F.sub_list_frozenset
        have g3 : (Value.type "list" == Value.type "dict") = false := by decide
        have hl1 : (s.heap.push (emptyS w)).IsList l items := ⟨_, hol2, rfl, nl, rfl⟩
        unfold Builtin.«set.__init__» noKeywords Builtin.Frozenset.updateFrom
        generalize hPI : pyIter = PI
        wp_walk
        subst hPI
        refine wpAny_pyIter_list hl1 ?_
        refine wpAny_bind (wpAny_runValue ?_)
        have hlS : l < s.heap.objs.size := Heap.lt_size hol
        have hh3 : A.in1.in1.in1.handled = none := by simp [hh]
        have sz : (s.heap.push (emptyS w)).objs.size = s.heap.objs.size + 1 := Heap.size_push ..
        refine loop_strs ((Walks.list hh3 (s.heap.push (emptyS w)).objs.size l (by rw [sz]; exact Nat.ne_of_lt (Nat.lt_succ_of_lt hlS)) items).toS) s.heap.objs.size (by rw [sz]; exact fun z => (List.mem_cons.mp z).elim (fun z => absurd z (Nat.ne_of_lt (Nat.lt_succ_self _))) fun z => absurd (List.mem_singleton.mp z) (Nat.ne_of_gt hlS)) xs hi hz hit items.size 0 _ (by omega) ⟨⟨_, Heap.get?_push_size _ rfl, rfl, rfl⟩, (hl1.push _)⟩ ?_ fun s' ks hm M hS' => ?_
        · exact ⟨[], Mems.nil, setL_fresh (Heap.get?_push_of_some _ hS)⟩
        · obtain ⟨h', g', d', tk', os'⟩ := s'
          obtain rfl : g' = s.gens := hm.gens
          obtain rfl : d' = s.drawn := hm.drawn
          obtain rfl : os' = s.os := hm.os
          show wpAny _ _ _ _ _ _
          refine wpAny_pure ?_
          show wpAny _ _ (ret Value.none) _ _ _
          refine wpAny_pure ⟨rfl, h', tk', ks, rfl, M, hS', fun b o e => ?_⟩
          have hb := Heap.lt_size e
          exact hm.heap b o (by rw [sz]; exact fun z => (List.mem_cons.mp z).elim (fun z => absurd z (Nat.ne_of_lt hb)) fun z => absurd (List.mem_singleton.mp z) (Nat.ne_of_lt (Nat.lt_succ_of_lt hb))) (Heap.get?_push_of_some _ (Heap.get?_push_of_some _ e))
      · cases r2 with
        | error e => exact hr2
        | ok fl2 =>
          cases fl2 with
          | ret r =>
            obtain ⟨rfl, h', tk, ks, rfl, M, hS', hk'⟩ := hr2
            repeat (any_goals (first | assumption | wp_step))
            exact h _ _ ks M hS' hk'
          | _ => exact hr2.elim
    | _ => exact hr.elim
def txt : Value → Str
  | .str x _ => x
  | _ => ""
theorem each_txt : ∀ {vs : List Value}, (∀ v ∈ vs, ∃ x t, v = Value.str x t) → PySem.W.EachIs (fun v b => ∃ t, v = Value.str b t) vs (vs.map txt)
  | [], _ => .nil
  | v :: vs, h => by
    obtain ⟨x, t, rfl⟩ := h v (by simp)
    exact .cons ⟨t, rfl⟩ (each_txt fun u hu => h u (List.mem_cons_of_mem _ hu))
theorem sorted_setL {a : Addr} {ks : List (Str × Tok)} {Q : Value → Shared → Prop} (R : SetL prog w s.heap a (ks.map (entS prog w))) (hh : A.handled = none) (hu : A.units + 64 < cLine)
    (hQ : ∀ (u : Shared) (p : Addr) (its : List Value) (out : List Value) (ys : List Str), (∀ b o, s.heap.get? b = some o → u.heap.get? b = some o) → u.gens = s.gens → u.os = s.os → s.heap.objs.size ≤ p → u.heap.get? p = some (seqObj "list" its.toArray 0) →
      ys.Perm (ks.map (·.1)) → out.length = ys.length → PySem.W.EachIs (fun v b => ∃ t, v = Value.str b t) out (srt ys) → Q (.ref p) { u with heap := sortedHeap u.heap p its (List.toArray out) }) :
    wpAny (model prog w) A (call (.builtin "sorted") [.ref a]) Q E s := by
  obtain ⟨⟨o, es, ep, t, ho, hex, hd, pm, hf, hr, hl⟩, el, sz⟩ := R
  have ze : es.size < scanBound := by
    rw [← Array.length_toList, pm.length_eq]
    exact sz
  refine Calls.call_function_entry kind_sorted plain_sorted entry_sorted (args_sorted1 _) ?_
  unfold Builtin.«sorted»
  refine wpAny_bind (m := checkCount "sorted" 1 1 _) (wpAny_pure (wpAny_bind (collect_set (A := A.in1) hh ⟨o, ho, hex.1, hd⟩ hf ze hr hl fun s1 vs k1 hz g1 o1 pv => ?_)))
  have pk : vs.Perm (ks.map fun k => Value.str k.1 k.2) := by
    have z := pv.trans (pm.map (·.2))
    rw [List.map_map] at z
    exact z
  have pt : (vs.map txt).Perm (ks.map (·.1)) := by
    have z := pk.map txt
    rw [List.map_map] at z
    exact z
  have hst : ∀ v ∈ vs, ∃ x t, v = Value.str x t := fun v hv => by
    obtain ⟨k, _, rfl⟩ := List.mem_map.mp (pk.mem_iff.mp hv)
    exact ⟨_, _, rfl⟩
  have hvl : vs.length ≤ sizeLine := by
    rw [pk.length_eq, List.length_map]
    rw [List.length_map] at sz
    unfold scanBound at sz
    rw [sizeLine_eq]
    omega
  refine wpAny_bind (wpAny_newList ?_ hvl)
  have hoL : (s1.heap.push (seqObj "list" vs.toArray 0)).get? s1.heap.objs.size = some (seqObj "list" vs.toArray 0) := Heap.get?_push_size _ rfl
  have rd : ∀ {us : List Value} {cs : List Str}, PySem.W.EachIs (fun v b => ∃ t, v = Value.str b t) us cs → PySem.W.EachIs (fun v b => ∃ as, Reads (s1.heap.push (seqObj "list" vs.toArray 0)) v (PyData.str b) as ∧ s1.heap.objs.size ∉ as) us cs := fun {us cs} ee => by
    induction ee with
    | nil => exact .nil
    | cons h1 h2 ih =>
      obtain ⟨t, rfl⟩ := h1
      exact .cons ⟨_, Reads.str _ t, by simp⟩ ih
  have e := each_txt hst
  refine wpAny_bind (wpAny_holding (PySem.W.list_sort_data (s := { s1 with heap := s1.heap.push (seqObj "list" vs.toArray 0) }) (R := fun v b => ∃ t, v = Value.str b t) hoL e (rd e) (strs_alike _) (strs_sortable _) (by rw [List.length_map]; exact hvl) (fun b _ => by
    simp only [PyData.depth]
    show A.units + 1 + 1 + 0 < cLine
    omega) fun out hol eo => ?_))
  refine wpAny_pure ⟨_, rfl, hQ { s1 with heap := s1.heap.push (seqObj "list" vs.toArray 0) } s1.heap.objs.size vs out (vs.map txt) (fun b u z => Heap.get?_push_of_some _ (k1 b u z)) g1 o1 hz hoL pt hol eo⟩
end
end SK
namespace SK
open PySem PySem.Spec PyProof.Rows L2 LamX NdefX
open K0 (De DeAll XCl spX withX)
/-! ### the different texts of a list, ascending -/
theorem str_ext {x y : Str} (h : x.cps.toList = y.cps.toList) : x = y := by
  obtain ⟨x⟩ := x
  obtain ⟨y⟩ := y
  congr 1
  exact Array.toList_inj.mp h
theorem srt_eq (ws : List Str) : srt ws = ws.mergeSort fun a b => decide (a.cps.toList ≤ b.cps.toList) := by
  unfold srt
  rw [PySem.W.dataLe_str]
theorem srt_pw (ws : List Str) : (srt ws).Pairwise fun a b => a.cps.toList ≤ b.cps.toList := by
  rw [srt_eq]
  have z := List.pairwise_mergeSort (le := fun a b : Str => decide (a.cps.toList ≤ b.cps.toList)) (fun a b c h1 h2 => decide_eq_true (List.le_trans (of_decide_eq_true h1) (of_decide_eq_true h2)))
    (fun a b => by
      rw [Bool.or_eq_true, decide_eq_true_eq, decide_eq_true_eq]
      exact List.le_total _ _) ws
  exact z.imp fun h => of_decide_eq_true h
theorem srt_perm (ws : List Str) : (srt ws).Perm ws := by
  unfold srt
  exact List.mergeSort_perm _ _
theorem srt_congr {p1 p2 : List Str} (h : p1.Perm p2) : srt p1 = srt p2 := by
  refine List.Perm.eq_of_pairwise (fun a b ha hb h1 h2 => ?_) (srt_pw p1) (srt_pw p2) ((srt_perm p1).trans (h.trans (srt_perm p2).symm))
  exact str_ext (List.le_antisymm h1 h2)
def nubS : List Str → List Str
  | [] => []
  | x :: xs => if x ∈ nubS xs then nubS xs else x :: nubS xs
theorem mem_nubS {y : Str} : ∀ {xs : List Str}, y ∈ nubS xs ↔ y ∈ xs
  | [] => by simp [nubS]
  | x :: xs => by
    have ih := mem_nubS (y := y) (xs := xs)
    have ihx := mem_nubS (y := x) (xs := xs)
    unfold nubS
    by_cases h : x ∈ nubS xs
    · rw [if_pos h, ih, List.mem_cons]
      refine ⟨.inr, fun z => z.elim (fun e => ?_) id⟩
      rw [e]
      exact ihx.mp h
    · rw [if_neg h, List.mem_cons, List.mem_cons, ih]
theorem nd_nubS : ∀ xs : List Str, (nubS xs).Nodup
  | [] => by simp [nubS]
  | x :: xs => by
    unfold nubS
    by_cases h : x ∈ nubS xs
    · rw [if_pos h]
      exact nd_nubS xs
    · rw [if_neg h]
      exact List.nodup_cons.mpr ⟨h, nd_nubS xs⟩
theorem nubS_len : ∀ xs : List Str, (nubS xs).length ≤ xs.length
  | [] => by simp [nubS]
  | x :: xs => by
    have := nubS_len xs
    unfold nubS
    split
    · simp only [List.length_cons]
      omega
    · simp only [List.length_cons]
      omega
def srtU (xs : List Str) : List Str := srt (nubS xs)
theorem srtU_len (xs : List Str) : (srtU xs).length ≤ xs.length := by
  have := nubS_len xs
  unfold srtU
  rw [(srt_perm _).length_eq]
  exact this
theorem perm_nd : ∀ {l1 l2 : List Str}, l1.Nodup → l2.Nodup → (∀ x, x ∈ l1 ↔ x ∈ l2) → l1.Perm l2 := by
  intro l1 l2 h1 h2 h
  exact (List.perm_ext_iff_of_nodup h1 h2).mpr h
theorem srtU_of {xs : List Str} {ks : List (Str × Tok)} {ys : List Str} (M : Mems xs ks) (h : ys.Perm (ks.map (·.1))) : srt ys = srtU xs := by
  unfold srtU
  refine srt_congr (h.trans (perm_nd M.nd (nd_nubS xs) fun x => ?_))
  rw [M.mem, mem_nubS]
theorem Inv.like {X : Cx} {pins : List (Addr × Obj)} {σ : St} {H : Hp} {s u : Shared} (I : Inv X pins σ H s) (e1 : u.heap = s.heap) (e2 : u.gens = s.gens) (e3 : u.os = s.os) : Inv X pins σ H u := by
  obtain ⟨hp, g, d, t, os⟩ := u
  simp only at e1 e2 e3
  subst e1 e2 e3
  exact ⟨I.ok, I.os, I.bare, I.base, I.loc, I.cell, I.free, I.freeC, I.pin, I.hok, I.len⟩
section
variable {X : Cx}
/-- sorted(set(x)), x a list of texts -/
def tSrtSet (K : PySem.W.Frag) (ta : TE) : TE := fun σ H Q => ta σ H fun v H1 => ∃ (l : Addr) (xs : List Str), v = .ref l ∧ SqL K H1 l (xs.map V.str) ∧ xs.length ≤ 4000 ∧ ∀ p, H1 p = none → Q (.ref p) (upd H1 p (.lst ((srtU xs).map V.str)))
theorem pe_sortedSet {a : Expr} {ta : TE} {p p2 q pos : Pos} (hc : X.calm = true) (hu : X.A.units + 64 < cLine) (hg : Gl X "sorted") (hm : X.mg "sorted" = none) (hg2 : Gl X "set") (hm2 : X.mg "set" = none) (ha : PE X a ta) (na : starEach [a] X.env = (false, eval a X.env) :: starEach [] X.env := by rfl) :
    PE X (.Call (.Name "sorted" p) [.Call (.Name "set" p2) [a] [] q] [] pos) (tSrtSet X.K ta) := by
  refine ⟨fun pins s σ H Q I h => ?_⟩
  refine Call_ (ld_blt I hg hm PyProof.Rows.boot_sorted ?_)
  refine PyProof.Rows.callWith_builtin1 (PyProof.Rows.args_cons ?_ rfl) rfl rfl
  refine Call_ (ld_blt I hg2 hm2 boot_set ?_)
  refine PyProof.Rows.callWith_type1 (PyProof.Rows.args_cons (thn (ha.run pins s σ H _ I h) fun v s1 ⟨x, H1, I1, r1, q1⟩ => PyProof.Rows.args_nil ?_) na) na rfl
  obtain ⟨l, xs, rfl, hS, hz, q1⟩ := q1
  cases r1
  obtain ⟨its, rv, hl, hz2⟩ := I1.list hS
  have ev := strs_of rv
  have hlen : its.length = xs.length := by
    have := rv.length
    rw [List.length_map] at this
    omega
  have at_ : ∀ {us : List Value} {ws : List Str}, PySem.W.EachIs (fun v b => ∃ t, v = Value.str b t) us ws → ∀ (i : Nat) (v : Value), us[i]? = some v → ∃ (x : Str) (t : Tok), ws[i]? = some x ∧ v = .str x t := fun {us ws} ee => by
    induction ee with
    | nil => exact fun i v h => by simp at h
    | cons h1 h2 ih =>
      intro i v h
      cases i with
      | zero =>
        obtain ⟨t, ht⟩ := h1
        simp at h
        exact ⟨_, t, rfl, h ▸ ht⟩
      | succ i => exact ih i v (by simpa using h)
  refine call_set_strs (items := its.toArray) xs (I1.ok.hd hc) hl.isList (by simpa using hlen) (fun i v hv => at_ ev i v (by simpa using hv)) (by unfold scanBound; omega) fun h' tk ks M hSet hk => PyProof.Rows.args_nil ?_
  have I2 : Inv X pins σ H1 { s1 with heap := h', toks := tk } := I1.kept fun b o e => hk b o e
  refine sorted_setL (s := { s1 with heap := h', toks := tk }) hSet (I2.ok.hd hc) hu fun u p its2 out ys hb hg3 ho3 hsz hp pm hol eo => ?_
  have I3 : Inv X pins σ H1 { ({ s1 with heap := h', toks := tk } : Shared) with heap := u.heap, toks := tk } := I2.kept hb
  obtain ⟨ep, he'⟩ := PyProof.Rows.sortedHeap_at (vs := its2) (out := out.toArray) hp
  rw [srtU_of M pm] at eo
  have hzU : ((srtU xs).map V.str).length ≤ sizeLine := by
    have := srtU_len xs
    have b5 : (4000 : Nat) < sizeLine := by decide
    rw [List.length_map]
    omega
  have np : H1 p = none := I2.hok.fresh hsz
  have old : ∀ b o, ({ s1 with heap := h', toks := tk } : Shared).heap.get? b = some o → (sortedHeap u.heap p its2 out.toArray).get? b = some o := fun b o e => by
    have hlt := Heap.lt_size e
    have hlt' : b < u.heap.objs.size := Heap.lt_size (hb b o e)
    have nb : b ≠ p := Nat.ne_of_lt (Nat.lt_of_lt_of_le hlt hsz)
    rw [PyProof.Rows.sortedHeap_old nb hlt']
    exact hb b o e
  have I4 := I2.laid (t' := tk) (o := .lst ((srtU xs).map V.str)) old hsz ⟨hzU, _, ep, strs_to eo, he'⟩
  exact ⟨.ref p, _, Inv.like I4 rfl hg3 ho3, rfl, q1 p np⟩
end
end SK
namespace SK
open PySem PySem.Spec PyProof.Rows L2 LamX NdefX
open K0 (De DeAll XCl spX withX)
/-! ### right tests and statements, made of tuples or of lists -/
inductive TsG : Nat → PyData → Prop
  | w {n : Nat} {d : PyData} {x : Str} : isTL d = true → elems d = [.str x] → x ∈ plain10 → TsG (n + 1) d
  | oth {n : Nat} {d : PyData} {i : Int} : isTL d = true → elems d = [.str "others", .int i] → 0 ≤ i → i ≤ 2 → TsG (n + 1) d
  | neg {n : Nat} {d e : PyData} : isTL d = true → elems d = [.str "not", e] → TsG n e → TsG (n + 1) d
  | bin {n : Nat} {d a b : PyData} {x : Str} : isTL d = true → elems d = [.str x, a, b] → x ∈ (["and", "or"] : List Str) → TsG n a → TsG n b → TsG (n + 1) d
theorem TsG.mono {n : Nat} {d : PyData} (h : TsG n d) : ∀ {m : Nat}, n ≤ m → TsG m d := by
  induction h with
  | w ht he hx => exact fun {m} hm => by obtain ⟨j, rfl⟩ : ∃ j, m = j + 1 := ⟨m - 1, by omega⟩; exact .w ht he hx
  | oth ht he h0 h1 => exact fun {m} hm => by obtain ⟨j, rfl⟩ : ∃ j, m = j + 1 := ⟨m - 1, by omega⟩; exact .oth ht he h0 h1
  | neg ht he _ ih => exact fun {m} hm => by obtain ⟨j, rfl⟩ : ∃ j, m = j + 1 := ⟨m - 1, by omega⟩; exact .neg ht he (ih (by omega))
  | bin ht he hx _ _ ia ib => exact fun {m} hm => by obtain ⟨j, rfl⟩ : ∃ j, m = j + 1 := ⟨m - 1, by omega⟩; exact .bin ht he hx (ia (by omega)) (ib (by omega))
theorem TsG.tl {n : Nat} {d : PyData} (h : TsG n d) : isTL d = true := by
  cases h <;> assumption
theorem tsG_ok {n : Nat} {d : PyData} (h : TsG n d) : okT n d = true := by
  induction h with
  | @w n d x ht he hx =>
    show (isTL d && okTL (okT n) (elems d)) = true
    rw [ht, he]
    show (true && inS plain10 (.str x)) = true
    rw [inS_str, decide_eq_true hx]
    rfl
  | @oth n d i ht he h0 h1 =>
    show (isTL d && okTL (okT n) (elems d)) = true
    rw [ht, he]
    show (true && (([] : List PyData).isEmpty && (decide (0 ≤ i) && decide (i ≤ 2)))) = true
    rw [decide_eq_true h0, decide_eq_true h1]
    rfl
  | @neg n d e ht he _ ih =>
    show (isTL d && okTL (okT n) (elems d)) = true
    rw [ht, he]
    show (true && okT2 (okT n) (.str "not") e []) = true
    unfold okT2
    rw [if_neg (show ¬ nm (PyData.str "not") = some (Str.ofString "others") from fun q => absurd (Option.some.inj q) (by decide)), if_pos (show nm (PyData.str "not") = some (Str.ofString "not") from rfl), ih]
    rfl
  | @bin n d a b x ht he hx _ _ ia ib =>
    obtain ⟨_, n1, n2⟩ := andor_ok x hx
    show (isTL d && okTL (okT n) (elems d)) = true
    rw [ht, he]
    show (true && okT2 (okT n) (.str x) a [b]) = true
    unfold okT2
    rw [if_neg (show ¬ nm (PyData.str x) = some (Str.ofString "others") from fun q => n1 (Option.some.inj q)), if_neg (show ¬ nm (PyData.str x) = some (Str.ofString "not") from fun q => n2 (Option.some.inj q)), inS_str, decide_eq_true hx, if_pos rfl]
    show (true && (okT n a && okT n b)) = true
    rw [ia, ib]
    rfl
theorem hdT_int (n : Nat) (i : Int) : hdT n (.int i) := by
  cases n with
  | zero => exact trivial
  | succ n => exact fun _ _ z => nomatch z
theorem tsG_hd {n : Nat} {d : PyData} (h : TsG n d) : hdT n d := by
  induction h with
  | @w n d x ht he hx =>
    intro h r _ e
    rw [he] at e
    injection e with e1 e2
    subst e1 e2
    exact ⟨.str x (plain_str x hx), fun e he => absurd he (by simp)⟩
  | @oth n d i ht he h0 h1 =>
    intro h r _ e
    rw [he] at e
    injection e with e1 e2
    subst e1 e2
    refine ⟨.str _ (by decide +kernel), fun e he => ?_⟩
    rw [List.mem_singleton.mp he]
    exact hdT_int n i
  | @neg n d e0 ht he0 _ ih =>
    intro h r _ e
    rw [he0] at e
    injection e with e1 e2
    subst e1 e2
    refine ⟨.str _ (by decide +kernel), fun e he => ?_⟩
    rw [List.mem_singleton.mp he]
    exact ih
  | @bin n d a b x ht he0 hx _ _ ia ib =>
    intro h r _ e
    rw [he0] at e
    injection e with e1 e2
    subst e1 e2
    refine ⟨.str x (andor_ok x hx).1, fun e he => ?_⟩
    rcases List.mem_cons.mp he with rfl | he
    · exact ia
    · rw [List.mem_singleton.mp he]
      exact ib
theorem tsG_lev {n : Nat} {d : PyData} (h : TsG n d) : lev d ≤ n := by
  induction h with
  | w ht he hx =>
    rw [lev_tl ht, he]
    simp [levAll, lev]
  | oth ht he h0 h1 =>
    rw [lev_tl ht, he]
    simp [levAll, lev]
  | neg ht he _ ih =>
    rw [lev_tl ht, he]
    simp [levAll, lev]
    omega
  | bin ht he hx _ _ ia ib =>
    rw [lev_tl ht, he]
    simp [levAll, lev]
    omega
theorem hdW_no {d : PyData} (h : isTL d = false) : ∀ m, hdW m d
  | 0 => trivial
  | m + 1 => fun z => by
    rw [h] at z
    cases z
theorem tsG_w {n : Nat} {d : PyData} (h : TsG n d) : ∀ m, hdW m d := by
  induction h with
  | w ht he hx =>
    intro m
    cases m with
    | zero => exact trivial
    | succ m =>
      intro _
      rw [he]
      refine ⟨by simp, fun e h => ?_⟩
      rw [List.mem_singleton.mp h]
      exact hdW_no rfl m
  | oth ht he h0 h1 =>
    intro m
    cases m with
    | zero => exact trivial
    | succ m =>
      intro _
      rw [he]
      refine ⟨by simp, fun e h => ?_⟩
      simp only [List.mem_cons, List.mem_nil_iff, or_false] at h
      rcases h with rfl | rfl <;> exact hdW_no rfl m
  | neg ht he _ ih =>
    intro m
    cases m with
    | zero => exact trivial
    | succ m =>
      intro _
      rw [he]
      refine ⟨by simp, fun e h => ?_⟩
      simp only [List.mem_cons, List.mem_nil_iff, or_false] at h
      rcases h with rfl | rfl
      · exact hdW_no rfl m
      · exact ih m
  | bin ht he hx _ _ ia ib =>
    intro m
    cases m with
    | zero => exact trivial
    | succ m =>
      intro _
      rw [he]
      refine ⟨by simp, fun e h => ?_⟩
      simp only [List.mem_cons, List.mem_nil_iff, or_false] at h
      rcases h with rfl | rfl | rfl
      · exact hdW_no rfl m
      · exact ia m
      · exact ib m
/-! ### data that can be held against other data -/
def Lay (n : Nat) (d : PyData) : Prop := d.canLay0 = true ∧ d.depth ≤ n ∧ ∀ (K : PySem.W.Frag) (H : Hp) (v : V), De K H v d → Dp K H v d
theorem Lay.mono {n m : Nat} {d : PyData} (h : Lay n d) (k : n ≤ m) : Lay m d := ⟨h.1, Nat.le_trans h.2.1 k, h.2.2⟩
theorem lay_all {n : Nat} : ∀ {ds : List PyData}, (∀ e ∈ ds, Lay n e) → PyData.canLayAll0 ds = true ∧ PyData.depthAll ds ≤ n ∧ ∀ (K : PySem.W.Frag) (H : Hp) (vs : List V), DeAll K H vs ds → DpAll K H vs ds
  | [], _ => ⟨rfl, by simp [PyData.depthAll], fun K H vs h => by cases h; exact .nil⟩
  | d :: ds, h => by
    obtain ⟨a1, a2, a3⟩ := h d (by simp)
    obtain ⟨b1, b2, b3⟩ := lay_all (ds := ds) fun e he => h e (List.mem_cons_of_mem _ he)
    refine ⟨by simp only [PyData.canLayAll0, a1, b1]; rfl, by simp only [PyData.depthAll]; omega, fun K H vs h => ?_⟩
    cases h with
    | cons h1 h2 => exact .cons (a3 _ _ _ h1) (b3 _ _ _ h2)
theorem lay_tup {n : Nat} {ds : List PyData} (h : ∀ e ∈ ds, Lay n e) : Lay (n + 1) (.tuple ds) := by
  obtain ⟨a, b, c⟩ := lay_all h
  refine ⟨by simp only [PyData.canLay0]; exact a, by simp only [PyData.depth]; omega, fun K H v h => ?_⟩
  cases h with
  | tup ha hd => exact .tup (.inl (.inl ha)) (c _ _ _ hd)
theorem lay_str {x : Str} (h : PyData.strOk x = true) : Lay 0 (.str x) := ⟨by simp only [PyData.canLay0]; exact h, by simp [PyData.depth], fun K H v h => by cases h; exact .str x⟩
theorem lay_int (i : Int) : Lay 0 (.int i) := ⟨by simp only [PyData.canLay0], by simp [PyData.depth], fun K H v h => by cases h; exact .int i⟩
theorem lay_bl (b : Bool) : Lay 0 (.bool b) := ⟨by simp only [PyData.canLay0], by simp [PyData.depth], fun K H v h => by cases h; exact .bl b⟩
theorem Lay.eqb {n : Nat} {d : PyData} (h : Lay n d) (k : n ≤ 64) : Eqb d := ⟨by
  unfold SeqAt.shaped
  rw [h.1, decide_eq_true (Nat.le_trans h.2.1 k)]
  rfl, h.2.2⟩
theorem tsG_lay {n : Nat} {d : PyData} (h : TsG n d) : Lay n (fz d) := by
  induction h with
  | @w n d x ht he hx =>
    rw [fz_tl ht, he]
    refine lay_tup fun e h => ?_
    simp only [List.map_cons, List.map_nil, List.mem_cons, List.mem_nil_iff, or_false, fz] at h
    rw [h]
    exact (lay_str (plain_str x hx)).mono (Nat.zero_le _)
  | @oth n d i ht he h0 h1 =>
    rw [fz_tl ht, he]
    refine lay_tup fun e h => ?_
    simp only [List.map_cons, List.map_nil, List.mem_cons, List.mem_nil_iff, or_false, fz] at h
    rcases h with rfl | rfl
    · exact (lay_str (by decide +kernel)).mono (Nat.zero_le _)
    · exact (lay_int i).mono (Nat.zero_le _)
  | @neg n d e0 ht he _ ih =>
    rw [fz_tl ht, he]
    refine lay_tup fun e h => ?_
    simp only [List.map_cons, List.map_nil, List.mem_cons, List.mem_nil_iff, or_false, fz] at h
    rcases h with rfl | rfl
    · exact (lay_str (by decide +kernel)).mono (Nat.zero_le _)
    · exact ih
  | @bin n d a b x ht he hx _ _ ia ib =>
    rw [fz_tl ht, he]
    refine lay_tup fun e h => ?_
    simp only [List.map_cons, List.map_nil, List.mem_cons, List.mem_nil_iff, or_false, fz] at h
    rcases h with rfl | rfl | rfl
    · exact (lay_str (andor_ok x hx).1).mono (Nat.zero_le _)
    · exact ia
    · exact ib
/-! ### made of tuples; lists for tuples -/
mutual
def lz : PyData → PyData
  | .tuple ds => .list (lzAll ds)
  | .list ds => .list ds
  | .none => .none
  | .bool b => .bool b
  | .int i => .int i
  | .str x => .str x
  | d => d
def lzAll : List PyData → List PyData
  | [] => []
  | d :: ds => lz d :: lzAll ds
end
theorem lzAll_map : ∀ ds : List PyData, lzAll ds = ds.map lz
  | [] => by simp [lzAll]
  | d :: ds => by simp [lzAll, lzAll_map ds]
theorem fz_fix {d : PyData} (f : fz d = d) (h : isTL d = true) : d = .tuple (elems d) ∧ ∀ e ∈ elems d, fz e = e := by
  cases d with
  | tuple ds =>
    refine ⟨rfl, ?_⟩
    simp only [fz] at f
    injection f with f
    rw [fzAll_map] at f
    intro e he
    have he : e ∈ ds := he
    obtain ⟨i, hi⟩ := List.mem_iff_getElem?.mp he
    have z := congrArg (fun l : List PyData => l[i]?) f
    simp only [List.getElem?_map, hi, Option.map_some] at z
    exact Option.some.inj z
  | list ds =>
    simp only [fz] at f
    cases f
  | _ => cases h
theorem lz_tl {d : PyData} (f : fz d = d) (h : isTL d = true) : isTL (lz d) = true ∧ elems (lz d) = (elems d).map lz := by
  obtain ⟨e, _⟩ := fz_fix f h
  rw [e]
  exact ⟨by simp [lz, isTL], by simp [lz, elems, lzAll_map]⟩
theorem fz_mk {ds : List PyData} (h : ∀ e ∈ ds, fz e = e) : fz (.tuple ds) = .tuple ds := by
  rw [fz, fzAll_map]
  congr 1
  have e : ds.map fz = ds.map id := List.map_congr_left h
  rw [e, List.map_id]
mutual
theorem fz_lz : ∀ d : PyData, fz (lz d) = fz d
  | .tuple ds => by simp only [lz, fz, fz_lzAll ds]
  | .list ds => by simp only [lz]
  | .none => by simp only [lz]
  | .bool b => by simp only [lz]
  | .int i => by simp only [lz]
  | .str x => by simp only [lz]
  | .dict ds => by simp only [lz]
theorem fz_lzAll : ∀ ds : List PyData, fzAll (lzAll ds) = fzAll ds
  | [] => by simp only [lzAll]
  | d :: ds => by simp only [lzAll, fzAll, fz_lz d, fz_lzAll ds]
end
theorem tsG_lz {n : Nat} {d : PyData} (h : TsG n d) : fz d = d → TsG n (lz d) := by
  induction h with
  | @w n d x ht he hx =>
    intro f
    obtain ⟨a, b⟩ := lz_tl f ht
    rw [he] at b
    simp only [List.map_cons, List.map_nil, lz] at b
    exact .w a b hx
  | @oth n d i ht he h0 h1 =>
    intro f
    obtain ⟨a, b⟩ := lz_tl f ht
    rw [he] at b
    simp only [List.map_cons, List.map_nil, lz] at b
    exact .oth a b h0 h1
  | @neg n d e0 ht he _ ih =>
    intro f
    obtain ⟨a, b⟩ := lz_tl f ht
    obtain ⟨_, c⟩ := fz_fix f ht
    rw [he] at b c
    simp only [List.map_cons, List.map_nil, lz] at b
    exact .neg a b (ih (c _ (by simp)))
  | @bin n d a0 b0 x ht he hx _ _ ia ib =>
    intro f
    obtain ⟨a, b⟩ := lz_tl f ht
    obtain ⟨_, c⟩ := fz_fix f ht
    rw [he] at b c
    simp only [List.map_cons, List.map_nil, lz] at b
    exact .bin a b hx (ia (c _ (by simp))) (ib (c _ (by simp)))
theorem tsR_g {n : Nat} {d : PyData} (h : TsR n d) : TsG n d ∧ fz d = d := by
  induction h with
  | w hx => exact ⟨.w rfl rfl hx, by simp [fz, fzAll]⟩
  | oth h0 h1 => exact ⟨.oth rfl rfl h0 h1, by simp [fz, fzAll]⟩
  | neg _ ih => exact ⟨.neg rfl rfl ih.1, by simp [fz, fzAll, ih.2]⟩
  | bin hx _ _ ia ib => exact ⟨.bin rfl rfl hx ia.1 ib.1, by simp [fz, fzAll, ia.2, ib.2]⟩
end SK
namespace SK
open PySem PySem.Spec PyProof.Rows L2 LamX NdefX
open K0 (De DeAll XCl spX withX)
/-! ### right statements: their number, their names -/
mutual
inductive StG (blk : Str) : Nat → PyData → Nat → List Str → Prop
  | one {n : Nat} {d : PyData} {x : Str} : isTL d = true → elems d = [.str x] → blk ∈ letD x → StG blk n d 1 (if x = Str.ofString "keep" then ["p"] else [])
  | set {n : Nat} {d : PyData} {x : Str} {b : Bool} : isTL d = true → elems d = [.str "set", .str x, .bool b] → x ∈ (["f", "x", "y"] : List Str) → StG blk n d 1 (if x = Str.ofString "f" then [] else [x])
  | ret {n : Nat} {d : PyData} {a : Str} : isTL d = true → elems d = [.str "return", .str a] → a ∈ ans4 → StG blk n d 1 (if a = Str.ofString "p" then ["p"] else [])
  | retc {n : Nat} {d : PyData} {a : Str} : isTL d = true → elems d = [.str "return", .str a, .str "cut"] → a ∈ ans4 → blk = Str.ofString "turn" → StG blk n d 1 ["p"]
  | iff {n : Nat} {d t b1 b2 : PyData} {k1 k2 : Nat} {l1 l2 : List Str} : isTL d = true → elems d = [.str "if", t, b1, b2] → TsG 6 t → isTL b1 = true → elems b1 ≠ [] → isTL b2 = true → StL blk n (elems b1) k1 l1 → StL blk n (elems b2) k2 l2 → StG blk (n + 1) d (1 + k1 + k2) (nmT 6 t ++ l1 ++ l2)
inductive StL (blk : Str) : Nat → List PyData → Nat → List Str → Prop
  | nil {n : Nat} : StL blk n [] 0 []
  | cons {n : Nat} {d : PyData} {ds : List PyData} {k k' : Nat} {l l' : List Str} : StG blk n d k l → StL blk n ds k' l' → StL blk n (d :: ds) (k + k') (l ++ l')
end
variable {blk : Str}
theorem StG.tl {n : Nat} {d : PyData} {k : Nat} {l : List Str} (h : StG blk n d k l) : isTL d = true := by
  cases h <;> assumption
theorem StG.pos {n : Nat} {d : PyData} {k : Nat} {l : List Str} (h : StG blk n d k l) : 1 ≤ k := by
  cases h <;> omega
theorem StL.len {n : Nat} : ∀ {ds : List PyData} {k : Nat} {l : List Str}, StL blk n ds k l → ds.length ≤ k
  | [], _, _, .nil => Nat.le_refl _
  | d :: ds, _, _, .cons h1 h2 => by
    have a := h1.pos
    have b := h2.len
    rw [List.length_cons]
    omega
theorem StL.app {n : Nat} : ∀ {as bs : List PyData} {k k' : Nat} {l l' : List Str}, StL blk n as k l → StL blk n bs k' l' → StL blk n (as ++ bs) (k + k') (l ++ l')
  | [], bs, _, _, _, _, .nil, h => by
    rw [Nat.zero_add]
    exact h
  | a :: as, bs, _, _, _, _, .cons h1 h2, h => by
    rw [Nat.add_assoc, List.append_assoc]
    exact .cons h1 (h2.app h)
theorem StL.one {n : Nat} {d : PyData} {k : Nat} {l : List Str} (h : StG blk n d k l) : StL blk n [d] k l := by
  have z := StL.cons h (StL.nil (blk := blk) (n := n))
  rw [Nat.add_zero, List.append_nil] at z
  exact z
theorem StL.mem {n : Nat} {d : PyData} : ∀ {ds : List PyData} {k : Nat} {l : List Str}, StL blk n ds k l → d ∈ ds → ∃ k' l', StG blk n d k' l' ∧ k' ≤ k
  | [], _, _, .nil, h => by cases h
  | e :: ds, _, _, .cons (k := ke) (l := le) h1 h2, h => by
    rcases List.mem_cons.mp h with rfl | h
    · exact ⟨_, _, h1, Nat.le_add_right _ _⟩
    · obtain ⟨k', l', a, b⟩ := h2.mem h
      exact ⟨k', l', a, by omega⟩
mutual
theorem StG.mono : ∀ {n : Nat} {d : PyData} {k : Nat} {l : List Str}, StG blk n d k l → StG blk (n + 1) d k l
  | _, _, _, _, .one a b c => .one a b c
  | _, _, _, _, .set a b c => .set a b c
  | _, _, _, _, .ret a b c => .ret a b c
  | _, _, _, _, .retc a b c d => .retc a b c d
  | _, _, _, _, .iff a b c d e f g h => .iff a b c d e f (StL.mono g) (StL.mono h)
theorem StL.mono : ∀ {n : Nat} {ds : List PyData} {k : Nat} {l : List Str}, StL blk n ds k l → StL blk (n + 1) ds k l
  | _, _, _, _, .nil => .nil
  | _, _, _, _, .cons a b => .cons (StG.mono a) (StL.mono b)
end
theorem ite_len {c : Prop} [Decidable c] {a b : List Str} (ha : a.length ≤ 64) (hb : b.length ≤ 64) : (if c then a else b).length ≤ 64 := by
  split
  · exact ha
  · exact hb
mutual
theorem StG.nl : ∀ {n : Nat} {d : PyData} {k : Nat} {l : List Str}, StG blk n d k l → l.length ≤ 64 * k
  | _, _, _, _, .one a b c => ite_len (by simp) (by simp)
  | _, _, _, _, .set a b c => ite_len (by simp) (by simp)
  | _, _, _, _, .ret a b c => ite_len (by simp) (by simp)
  | _, _, _, _, .retc a b c d => by simp
  | _, _, _, _, .iff (t := t) a b c d e f g h => by
    have z1 := StL.nl g
    have z2 := StL.nl h
    have z3 := nmT_len 6 t
    rw [List.length_append, List.length_append]
    omega
theorem StL.nl : ∀ {n : Nat} {ds : List PyData} {k : Nat} {l : List Str}, StL blk n ds k l → l.length ≤ 64 * k
  | _, _, _, _, .nil => by simp
  | _, _, _, _, .cons a b => by
    have z1 := StG.nl a
    have z2 := StL.nl b
    rw [List.length_append]
    omega
end
theorem letK_of {x : Str} (h : blk ∈ letD x) : x ∈ letK := by
  by_cases z : x ∈ letK
  · exact z
  · rw [letD_no z] at h
    cases h
theorem letK_ok : ∀ x ∈ letK, PyData.strOk x = true := by decide +kernel
theorem fxy_ok : ∀ x ∈ (["f", "x", "y"] : List Str), PyData.strOk x = true := by decide +kernel
theorem ans4_ok : ∀ x ∈ ans4, PyData.strOk x = true := by decide +kernel
theorem stG_ok {n : Nat} {d : PyData} {k : Nat} {l : List Str} (h : StG blk n d k l) : okS blk d = true := by
  unfold okS
  cases h with
  | @one _ _ x ht he hx =>
    rw [ht, he]
    show (true && decide (blk ∈ letD x)) = true
    rw [decide_eq_true hx]
    rfl
  | @set _ _ x b ht he hx =>
    rw [ht, he]
    show (true && okS2 blk (.str "set") [.str "set", .str x, .bool b]) = true
    unfold okS2
    rw [if_pos (show nm (PyData.str "set") = some (Str.ofString "set") from rfl)]
    show (true && (inS ["f", "x", "y"] (.str x) && true)) = true
    rw [inS_str, decide_eq_true hx]
    rfl
  | @ret _ _ a ht he hx =>
    rw [ht, he]
    show (true && okS2 blk (.str "return") [.str "return", .str a]) = true
    unfold okS2
    rw [if_neg (show ¬ nm (PyData.str "return") = some (Str.ofString "set") from fun q => absurd (Option.some.inj q) (by decide)), if_pos (show nm (PyData.str "return") = some (Str.ofString "return") from rfl)]
    show (true && (inS ans4 (.str a) && true)) = true
    rw [inS_str, decide_eq_true hx]
    rfl
  | @retc _ _ a ht he hx hb =>
    rw [ht, he]
    show (true && okS2 blk (.str "return") [.str "return", .str a, .str "cut"]) = true
    unfold okS2
    rw [if_neg (show ¬ nm (PyData.str "return") = some (Str.ofString "set") from fun q => absurd (Option.some.inj q) (by decide)), if_pos (show nm (PyData.str "return") = some (Str.ofString "return") from rfl)]
    show (true && (inS ans4 (.str a) && (decide (nm (PyData.str "cut") = some (Str.ofString "cut")) && decide (blk = Str.ofString "turn")))) = true
    rw [inS_str, decide_eq_true hx, decide_eq_true hb]
    rfl
  | @iff _ _ t b1 b2 k1 k2 l1 l2 ht he tt h1 hn h2 s1 s2 =>
    rw [ht, he]
    show (true && okS2 blk (.str "if") [.str "if", t, b1, b2]) = true
    unfold okS2
    rw [if_neg (show ¬ nm (PyData.str "if") = some (Str.ofString "set") from fun q => absurd (Option.some.inj q) (by decide)), if_neg (show ¬ nm (PyData.str "if") = some (Str.ofString "return") from fun q => absurd (Option.some.inj q) (by decide))]
    show (true && (decide (nm (PyData.str "if") = some (Str.ofString "if")) && (okT 6 t && (isTL b1 && (!(elems b1).isEmpty && isTL b2))))) = true
    have ne : (elems b1).isEmpty = false := by
      cases e : elems b1 with
      | nil => exact absurd e hn
      | cons _ _ => rfl
    rw [tsG_ok tt, h1, h2, ne]
    rfl
theorem stG_hd {n : Nat} {d : PyData} {k : Nat} {l : List Str} (h : StG blk n d k l) : hdS d := by
  intro h0 r0 _ e0
  cases h with
  | @one _ _ x ht he hx =>
    rw [he] at e0
    injection e0 with e1 e2
    subst e1 e2
    exact ⟨.str x (letK_ok x (letK_of hx)), fun a r' z => nomatch z⟩
  | @set _ _ x b ht he hx =>
    rw [he] at e0
    injection e0 with e1 e2
    subst e1 e2
    refine ⟨.str _ (by decide +kernel), fun a r' z => ?_⟩
    injection z with z1 z2
    subst z1 z2
    exact ⟨fun _ => ⟨.str x (fxy_ok x hx), fun c ec _ => by
      injection ec with ec
      subst ec
      exact .bl b⟩, fun q => absurd (Option.some.inj q) (by decide)⟩
  | @ret _ _ a ht he hx =>
    rw [he] at e0
    injection e0 with e1 e2
    subst e1 e2
    refine ⟨.str _ (by decide +kernel), fun a' r' z => ?_⟩
    injection z with z1 z2
    subst z1 z2
    exact ⟨fun _ => ⟨.str a (ans4_ok a hx), fun c ec _ => nomatch ec⟩, fun q => absurd (Option.some.inj q) (by decide)⟩
  | @retc _ _ a ht he hx hb =>
    rw [he] at e0
    injection e0 with e1 e2
    subst e1 e2
    refine ⟨.str _ (by decide +kernel), fun a' r' z => ?_⟩
    injection z with z1 z2
    subst z1 z2
    exact ⟨fun _ => ⟨.str a (ans4_ok a hx), fun c ec _ => by
      injection ec with ec
      subst ec
      exact .str _ (by decide +kernel)⟩, fun q => absurd (Option.some.inj q) (by decide)⟩
  | @iff _ _ t b1 b2 k1 k2 l1 l2 ht he tt h1 hn h2 s1 s2 =>
    rw [he] at e0
    injection e0 with e1 e2
    subst e1 e2
    refine ⟨.str _ (by decide +kernel), fun a' r' z => ?_⟩
    injection z with z1 z2
    subst z1 z2
    exact ⟨fun q => by
      rcases q with q | q
      · exact absurd (Option.some.inj q) (by decide)
      · exact absurd (Option.some.inj q) (by decide), fun _ => tsG_hd tt⟩
theorem stG_inner {n : Nat} {d : PyData} {k : Nat} {l : List Str} (h : StG blk n d k l) : ∃ k' l', k = k' + 1 ∧ StL blk n (inner d) k' l' ∧ (elems d).length ≤ 5000 := by
  unfold inner
  cases h with
  | @one _ _ x ht he hx => exact ⟨0, [], rfl, by rw [he]; exact .nil, by rw [he]; simp⟩
  | @set _ _ x b ht he hx => exact ⟨0, [], rfl, by rw [he]; exact .nil, by rw [he]; simp⟩
  | @ret _ _ a ht he hx => exact ⟨0, [], rfl, by rw [he]; exact .nil, by rw [he]; simp⟩
  | @retc _ _ a ht he hx hb => exact ⟨0, [], rfl, by rw [he]; exact .nil, by rw [he]; simp⟩
  | @iff n _ t b1 b2 k1 k2 l1 l2 ht he tt h1 hn h2 s1 s2 =>
    refine ⟨k1 + k2, l1 ++ l2, by omega, ?_, by rw [he]; simp⟩
    rw [he]
    show StL blk (n + 1) (if nm (PyData.str "if") = some (Str.ofString "if") then elems b1 ++ elems b2 else []) (k1 + k2) (l1 ++ l2)
    rw [if_pos (show nm (PyData.str "if") = some (Str.ofString "if") from rfl)]
    exact (s1.mono).app (s2.mono)
theorem stL_scan {n : Nat} : ∀ (F : Nat) {ws : List PyData} {k : Nat} {l : List Str}, StL blk n ws k l → k ≤ F → ∀ m : Nat, scanF blk F ws m = some (.inr (m + k)) := by
  intro F
  induction F with
  | zero =>
    intro ws k l h hk m
    cases h with
    | nil => rfl
    | cons h1 h2 =>
      have := h1.pos
      omega
  | succ F ih =>
    intro ws k l h hk m
    cases h with
    | nil => rfl
    | @cons _ d ds kd kr ld lr h1 h2 =>
      obtain ⟨k', l', e, hi, _⟩ := stG_inner h1
      show (if okS blk d = true then scanF blk F (inner d ++ ds) (m + 1) else some (.inl m)) = _
      rw [if_pos (stG_ok h1), ih (hi.app h2) (by omega) (m + 1)]
      congr 2
      omega
theorem stL_scanH {n : Nat} : ∀ (F : Nat) {ws : List PyData} {k : Nat} {l : List Str}, StL blk n ws k l → k ≤ 5000 → scanH blk F ws := by
  intro F
  induction F with
  | zero => exact fun _ _ => trivial
  | succ F ih =>
    intro ws k l h hk
    refine ⟨Nat.le_trans h.len hk, fun d r e => ?_⟩
    subst e
    cases h with
    | @cons _ _ _ kd kr ld lr h1 h2 =>
      obtain ⟨k', l', e, hi, hz⟩ := stG_inner h1
      exact ⟨stG_hd h1, fun _ => ⟨hz, ih (hi.app h2) (by omega)⟩⟩
mutual
theorem stG_lev : ∀ {n : Nat} {d : PyData} {k : Nat} {l : List Str}, StG blk n d k l → lev d ≤ 7 + 2 * n
  | _, _, _, _, .one a b c => by
    rw [lev_tl a, b]
    simp [levAll, lev]
    omega
  | _, _, _, _, .set a b c => by
    rw [lev_tl a, b]
    simp [levAll, lev]
    omega
  | _, _, _, _, .ret a b c => by
    rw [lev_tl a, b]
    simp [levAll, lev]
    omega
  | _, _, _, _, .retc a b c d => by
    rw [lev_tl a, b]
    simp [levAll, lev]
    omega
  | _, _, _, _, .iff a b c d e f g h => by
    have z1 := stL_lev g
    have z2 := stL_lev h
    have z3 := tsG_lev c
    rw [lev_tl a, b]
    simp only [levAll, lev_tl d, lev_tl f]
    rw [show lev (.str "if") = 0 from by simp [lev]]
    omega
theorem stL_lev : ∀ {n : Nat} {ds : List PyData} {k : Nat} {l : List Str}, StL blk n ds k l → levAll ds ≤ 7 + 2 * n
  | _, _, _, _, .nil => by simp [levAll]
  | _, _, _, _, .cons a b => by
    have z1 := stG_lev a
    have z2 := stL_lev b
    simp only [levAll]
    omega
end
theorem hdW_mk {d : PyData} {m : Nat} (h : (elems d).length ≤ 1000) (k : ∀ j, j < m → ∀ e ∈ elems d, hdW j e) : hdW m d := by
  cases m with
  | zero => exact trivial
  | succ m => exact fun _ => ⟨h, k m (Nat.lt_succ_self m)⟩
mutual
theorem stG_w : ∀ {n : Nat} {d : PyData} {k : Nat} {l : List Str}, StG blk n d k l → k ≤ 1000 → ∀ m, hdW m d
  | _, _, _, _, .one a b c, _, m => hdW_mk (by rw [b]; simp) fun j _ e he => by
    rw [b] at he
    rw [List.mem_singleton.mp he]
    exact hdW_no rfl j
  | _, _, _, _, .set a b c, _, m => hdW_mk (by rw [b]; simp) fun j _ e he => by
    rw [b] at he
    simp only [List.mem_cons, List.mem_nil_iff, or_false] at he
    rcases he with rfl | rfl | rfl <;> exact hdW_no rfl j
  | _, _, _, _, .ret a b c, _, m => hdW_mk (by rw [b]; simp) fun j _ e he => by
    rw [b] at he
    simp only [List.mem_cons, List.mem_nil_iff, or_false] at he
    rcases he with rfl | rfl <;> exact hdW_no rfl j
  | _, _, _, _, .retc a b c d, _, m => hdW_mk (by rw [b]; simp) fun j _ e he => by
    rw [b] at he
    simp only [List.mem_cons, List.mem_nil_iff, or_false] at he
    rcases he with rfl | rfl | rfl <;> exact hdW_no rfl j
  | _, _, _, _, .iff a b c d e f g h, hk, m => by
    have w1 := stL_w g (by omega)
    have w2 := stL_w h (by omega)
    have y1 := g.len
    have y2 := h.len
    refine hdW_mk (by rw [b]; simp) fun j _ e he => ?_
    rw [b] at he
    simp only [List.mem_cons, List.mem_nil_iff, or_false] at he
    rcases he with z | z | z | z
    · rw [z]
      exact hdW_no rfl j
    · rw [z]
      exact tsG_w c j
    · rw [z]
      exact hdW_mk (by omega) fun i _ => w1 i
    · rw [z]
      exact hdW_mk (by omega) fun i _ => w2 i
theorem stL_w : ∀ {n : Nat} {ds : List PyData} {k : Nat} {l : List Str}, StL blk n ds k l → k ≤ 1000 → ∀ m, ∀ e ∈ ds, hdW m e
  | _, _, _, _, .nil, _, m => fun e he => by cases he
  | _, _, _, _, .cons a b, hk, m => fun e he => by
    have w1 := stG_w a (by omega) m
    have w2 := stL_w b (by omega) m
    rcases List.mem_cons.mp he with z | z
    · rw [z]
      exact w1
    · exact w2 e z
end
mutual
theorem stG_lay : ∀ {n : Nat} {d : PyData} {k : Nat} {l : List Str}, StG blk n d k l → Lay (7 + 2 * n) (fz d)
  | _, _, _, _, .one a b c => by
    rw [fz_tl a, b]
    refine Lay.mono (lay_tup (n := 0) fun e h => ?_) (by omega)
    simp only [List.map_cons, List.map_nil, List.mem_cons, List.mem_nil_iff, or_false, fz] at h
    rw [h]
    exact lay_str (letK_ok _ (letK_of c))
  | _, _, _, _, .set a b c => by
    rw [fz_tl a, b]
    refine Lay.mono (lay_tup (n := 0) fun e h => ?_) (by omega)
    simp only [List.map_cons, List.map_nil, List.mem_cons, List.mem_nil_iff, or_false, fz] at h
    rcases h with rfl | rfl | rfl
    · exact lay_str (by decide +kernel)
    · exact lay_str (fxy_ok _ c)
    · exact lay_bl _
  | _, _, _, _, .ret a b c => by
    rw [fz_tl a, b]
    refine Lay.mono (lay_tup (n := 0) fun e h => ?_) (by omega)
    simp only [List.map_cons, List.map_nil, List.mem_cons, List.mem_nil_iff, or_false, fz] at h
    rcases h with rfl | rfl
    · exact lay_str (by decide +kernel)
    · exact lay_str (ans4_ok _ c)
  | _, _, _, _, .retc a b c d => by
    rw [fz_tl a, b]
    refine Lay.mono (lay_tup (n := 0) fun e h => ?_) (by omega)
    simp only [List.map_cons, List.map_nil, List.mem_cons, List.mem_nil_iff, or_false, fz] at h
    rcases h with rfl | rfl | rfl
    · exact lay_str (by decide +kernel)
    · exact lay_str (ans4_ok _ c)
    · exact lay_str (by decide +kernel)
  | _, _, _, _, .iff (n := n) a b c d e f g h => by
    have w1 := stL_lay g
    have w2 := stL_lay h
    have w3 := tsG_lay c
    rw [fz_tl a, b]
    refine Lay.mono (lay_tup (n := 8 + 2 * n) fun e h => ?_) (by omega)
    simp only [List.map_cons, List.map_nil, List.mem_cons, List.mem_nil_iff, or_false] at h
    rcases h with rfl | rfl | rfl | rfl
    · rw [show fz (.str "if") = .str "if" from by simp [fz]]
      exact (lay_str (by decide +kernel)).mono (by omega)
    · exact w3.mono (by omega)
    · rw [fz_tl d]
      exact (lay_tup w1).mono (by omega)
    · rw [fz_tl f]
      exact (lay_tup w2).mono (by omega)
theorem stL_lay : ∀ {n : Nat} {ds : List PyData} {k : Nat} {l : List Str}, StL blk n ds k l → ∀ e ∈ ds.map fz, Lay (7 + 2 * n) e
  | _, _, _, _, .nil => fun e he => by cases he
  | _, _, _, _, .cons a b => fun e he => by
    rw [List.map_cons] at he
    rcases List.mem_cons.mp he with rfl | he
    · exact stG_lay a
    · exact stL_lay b e he
end
theorem nmT_lz : ∀ {n : Nat} {t : PyData}, TsG n t → fz t = t → ∀ m, nmT m (lz t) = nmT m t := by
  intro n t h
  induction h with
  | @w n d x ht he hx =>
    intro f m
    cases m with
    | zero => rfl
    | succ m =>
      obtain ⟨a, b⟩ := lz_tl f ht
      rw [he] at b
      simp only [List.map_cons, List.map_nil, lz] at b
      unfold nmT
      rw [he, b]
  | @oth n d i ht he h0 h1 =>
    intro f m
    cases m with
    | zero => rfl
    | succ m =>
      obtain ⟨a, b⟩ := lz_tl f ht
      rw [he] at b
      simp only [List.map_cons, List.map_nil, lz] at b
      unfold nmT
      rw [he, b]
  | @neg n d e0 ht he _ ih =>
    intro f m
    cases m with
    | zero => rfl
    | succ m =>
      obtain ⟨a, b⟩ := lz_tl f ht
      obtain ⟨_, c⟩ := fz_fix f ht
      rw [he] at b c
      simp only [List.map_cons, List.map_nil, lz] at b
      unfold nmT
      rw [he, b]
      show nmT2 (nmT m) (.str "not") [lz e0] = nmT2 (nmT m) (.str "not") [e0]
      unfold nmT2
      rw [if_pos (show nm (PyData.str "not") = some (Str.ofString "not") from rfl)]
      exact ih (c _ (by simp)) m
  | @bin n d a0 b0 x ht he hx _ _ ia ib =>
    intro f m
    cases m with
    | zero => rfl
    | succ m =>
      obtain ⟨a, b⟩ := lz_tl f ht
      obtain ⟨_, c⟩ := fz_fix f ht
      rw [he] at b c
      simp only [List.map_cons, List.map_nil, lz] at b
      obtain ⟨_, n1, n2⟩ := andor_ok x hx
      unfold nmT
      rw [he, b]
      have e : ∀ u1 u2 : PyData, nmT2 (nmT m) (.str x) [u1, u2] = nmT m u1 ++ nmT m u2 := fun u1 u2 => by
        unfold nmT2
        rw [if_neg (show ¬ nm (PyData.str x) = some (Str.ofString "not") from fun q => n2 (Option.some.inj q)), if_pos (show inS ["and", "or"] (.str x) = true by rw [inS_str, decide_eq_true hx])]
      show nmT2 (nmT m) (.str x) [lz a0, lz b0] = nmT2 (nmT m) (.str x) [a0, b0]
      rw [e, e]
      rw [ia (c _ (by simp)) m, ib (c _ (by simp)) m]
mutual
theorem stG_lz : ∀ {n : Nat} {d : PyData} {k : Nat} {l : List Str}, StG blk n d k l → fz d = d → StG blk n (lz d) k l
  | _, _, _, _, .one ht he c, f => by
    obtain ⟨a, b⟩ := lz_tl f ht
    rw [he] at b
    simp only [List.map_cons, List.map_nil, lz] at b
    exact .one a b c
  | _, _, _, _, .set ht he c, f => by
    obtain ⟨a, b⟩ := lz_tl f ht
    rw [he] at b
    simp only [List.map_cons, List.map_nil, lz] at b
    exact .set a b c
  | _, _, _, _, .ret ht he c, f => by
    obtain ⟨a, b⟩ := lz_tl f ht
    rw [he] at b
    simp only [List.map_cons, List.map_nil, lz] at b
    exact .ret a b c
  | _, _, _, _, .retc ht he c d, f => by
    obtain ⟨a, b⟩ := lz_tl f ht
    rw [he] at b
    simp only [List.map_cons, List.map_nil, lz] at b
    exact .retc a b c d
  | _, _, _, _, .iff ht he c d e g h i, f => by
    obtain ⟨a, b⟩ := lz_tl f ht
    obtain ⟨_, m⟩ := fz_fix f ht
    rw [he] at b m
    simp only [List.map_cons, List.map_nil] at b
    rw [show lz (.str "if") = .str "if" from by simp [lz]] at b
    have m1 := m _ (List.mem_cons_of_mem _ (List.mem_cons_self))
    have m2 := m _ (List.mem_cons_of_mem _ (List.mem_cons_of_mem _ (List.mem_cons_self)))
    have m3 := m _ (List.mem_cons_of_mem _ (List.mem_cons_of_mem _ (List.mem_cons_of_mem _ (List.mem_cons_self))))
    obtain ⟨p1, q1⟩ := lz_tl m2 d
    obtain ⟨p2, q2⟩ := lz_tl m3 g
    have z1 := stL_lz h (fz_fix m2 d).2
    have z2 := stL_lz i (fz_fix m3 g).2
    rw [← q1] at z1
    rw [← q2] at z2
    rw [← nmT_lz c m1 6]
    exact .iff a b (tsG_lz c m1) p1 (by rw [q1]; exact fun z => e (List.map_eq_nil_iff.mp z)) p2 z1 z2
theorem stL_lz : ∀ {n : Nat} {ds : List PyData} {k : Nat} {l : List Str}, StL blk n ds k l → (∀ e ∈ ds, fz e = e) → StL blk n (ds.map lz) k l
  | _, _, _, _, .nil, f => .nil
  | _, _, _, _, .cons a b, f => .cons (stG_lz a (f _ (List.mem_cons_self))) (stL_lz b fun e he => f e (List.mem_cons_of_mem _ he))
end
theorem smR_g {d : PyData} (h : SmR blk d) : ∃ l, StG blk 0 d 1 l := by
  cases h with
  | one hx => exact ⟨_, .one rfl rfl hx⟩
  | set hx => exact ⟨_, .set rfl rfl hx⟩
  | ret hx => exact ⟨_, .ret rfl rfl hx⟩
  | retc hx hb => exact ⟨_, .retc rfl rfl hx hb⟩
/-! ### right blocks -/
structure BkR (blk : Str) (d : PyData) (k : Nat) (l : List Str) : Prop where
  tl : isTL d = true
  st : StL blk 2 (elems d) k l
  fx : fz d = d
theorem bk_q {K : PySem.W.Frag} {H : Hp} {v : V} {d : PyData} {k : Nat} {l : List Str} (hd : De K H v d) (ht : isTL d = true) (hs : StL blk 2 (elems d) k l) (hk : k ≤ 1000) : BlkQ K H blk v d k := by
  refine ⟨hd, ht, ?_, hdW_mk (Nat.le_trans hs.len hk) fun j _ => stL_w hs hk j, k, ?_, stL_scanH _ hs (by omega)⟩
  · have := stL_lev hs
    rw [lev_tl ht]
    omega
  · have z := stL_scan k hs (Nat.le_refl _) 0
    rw [Nat.zero_add] at z
    exact z
theorem BkR.q {K : PySem.W.Frag} {H : Hp} {v : V} {d : PyData} {k : Nat} {l : List Str} (B : BkR blk d k l) (hd : De K H v d) (hk : k ≤ 1000) : BlkQ K H blk v d k := bk_q hd B.tl B.st hk
theorem BkR.ql {K : PySem.W.Frag} {H : Hp} {v : V} {d : PyData} {k : Nat} {l : List Str} (B : BkR blk d k l) (hd : De K H v (lz d)) (hk : k ≤ 1000) : BlkQ K H blk v (lz d) k := by
  obtain ⟨a, b⟩ := lz_tl B.fx B.tl
  refine bk_q hd a ?_ hk (l := l)
  rw [b]
  exact stL_lz B.st (fz_fix B.fx B.tl).2
theorem BkR.eqb {d : PyData} {k : Nat} {l : List Str} (B : BkR blk d k l) : Eqb d := by
  have z := lay_tup (stL_lay B.st)
  rw [← fz_tl B.tl, B.fx] at z
  exact z.eqb (by omega)
end SK
namespace SK
open PySem PySem.Spec PyProof.Rows L2 LamX NdefX
open K0 (De DeAll XCl spX withX)
/-! ### the names in statements and blocks -/
def spNs (K : PySem.W.Frag) (n : Nat) : Sp := fun vs H Q _ => ∃ (v : V) (d : PyData) (blk : Str) (m k : Nat) (l : List Str), vs = [v] ∧ De K H v d ∧ fz d = d ∧ StG blk m d k l ∧ m < n ∧ k ≤ 60 ∧ ∀ (H' : Hp) (q : Addr), Same H H' → H' q = some (.lst (l.map V.str)) → Q (.ref q) H'
/-- statements of any blocks, their number, their names -/
inductive NmL (n : Nat) : List PyData → Nat → List Str → Prop
  | nil : NmL n [] 0 []
  | cons {blk : Str} {d : PyData} {ds : List PyData} {k k' : Nat} {l l' : List Str} : StG blk n d k l → NmL n ds k' l' → NmL n (d :: ds) (k + k') (l ++ l')
theorem NmL.of {blk : Str} {n : Nat} : ∀ {ds : List PyData} {k : Nat} {l : List Str}, StL blk n ds k l → NmL n ds k l
  | [], _, _, .nil => .nil
  | d :: ds, _, _, .cons h1 h2 => .cons h1 (NmL.of h2)
theorem NmL.nl {n : Nat} : ∀ {ds : List PyData} {k : Nat} {l : List Str}, NmL n ds k l → l.length ≤ 64 * k
  | [], _, _, .nil => by simp
  | d :: ds, _, _, .cons h1 h2 => by
    have z1 := h1.nl
    have z2 := NmL.nl h2
    rw [List.length_append]
    omega
theorem NmL.len {n : Nat} : ∀ {ds : List PyData} {k : Nat} {l : List Str}, NmL n ds k l → ds.length ≤ k
  | [], _, _, .nil => Nat.le_refl _
  | d :: ds, _, _, .cons h1 h2 => by
    have z1 := h1.pos
    have z2 := NmL.len h2
    rw [List.length_cons]
    omega
theorem NmL.app {n : Nat} : ∀ {as bs : List PyData} {k k' : Nat} {l l' : List Str}, NmL n as k l → NmL n bs k' l' → NmL n (as ++ bs) (k + k') (l ++ l')
  | [], bs, _, _, _, _, .nil, h => by
    rw [Nat.zero_add]
    exact h
  | a :: as, bs, _, _, _, _, .cons h1 h2, h => by
    rw [Nat.add_assoc, List.append_assoc]
    exact .cons h1 (h2.app h)
theorem NmL.nil_l {n k : Nat} {l : List Str} (h : NmL n [] k l) : l = [] := by
  cases h
  rfl
def spNb (K : PySem.W.Frag) (n : Nat) : Sp := fun vs H Q _ => ∃ (v : V) (d : PyData) (m k : Nat) (l : List Str), vs = [v] ∧ De K H v d ∧ fz d = d ∧ isTL d = true ∧ NmL m (elems d) k l ∧ m < n ∧ k ≤ 60 ∧ ∀ (H' : Hp) (q : Addr), Same H H' → H' q = some (.lst (l.map V.str)) → Q (.ref q) H'
theorem letK_ne : ∀ x ∈ letK, x ≠ Str.ofString "if" ∧ x ≠ Str.ofString "set" ∧ x ≠ Str.ofString "return" := by decide +kernel
theorem fz_tup {K : PySem.W.Frag} {H : Hp} {v : V} {d : PyData} (h : De K H v d) (f : fz d = d) (t : isTL d = true) : ∃ (p : Addr) (xs : List V), v = .ref p ∧ H p = some (.tup xs) ∧ DeAll K H xs (elems d) := by
  obtain ⟨e, _⟩ := fz_fix f t
  rw [e] at h
  cases h with
  | tup ha hd => exact ⟨_, _, rfl, ha, hd⟩
section
variable {P : Program} {w : World} {K : PySem.W.Frag} {mg : Str → Option Value} {base : Heap} {f fB fNt : Addr} {fd fdB fdNt : FuncData}
abbrev NNs : List Str := ["statement", "name"]
theorem ok_ns (F : Fun K "names_in_statement" "names_in_statement" (top 23) f fd) (gN : mg "len" = none)
    (gNt : mg "names_in_test" = some (.ref fNt)) (kNt : PySem.W.keepIn K (.ref fNt) = true) (GNt : FnOk P w K mg base CX0 8 fNt fdNt ["test"] (spNt K 7)) (bNt : Binds K fdNt ["test"] [])
    (gB : mg "names_in_block" = some (.ref fB)) (kB : PySem.W.keepIn K (.ref fB) = true) (n : Nat) (GB : FnOk P w K mg base CX0 (2 * n + 10) fB fdB ["block"] (spNb K n)) (bB : Binds K fdB ["block"] []) :
    FnOk P w K mg base CX0 (2 * (n + 1) + 9) f fd ["statement"] (spNs K (n + 1)) := by
  have S0 : FnScope NNs ["statement"] (defScope (top 23)) := ⟨rfl, rfl, rfl, by decide +kernel, rfl, by decide +kernel, by decide +kernel⟩
  have nd := S0.nd
  refine F.ok S0 (fun vs H Q E h => ?_) (fun cdv A outer s H vs Q E hr h => ?_)
  · obtain ⟨v, d, blk, m, k, l, rfl, _⟩ := h
    rfl
  · obtain ⟨v, d, blk, m, k, l, rfl, hd, hf, hs, hm, hk, kk⟩ := h
    have hu64 := hr.units
    have hrN : Room 8 _ := hr.mono (by omega)
    refine ⟨_, (pss_cons (ps_set (i := 1) nd rfl (Or.inl rfl) (pe_ix (r := rIx K) ix_seq (pv 0) pe_int (fun _ _ => rfl)))
        (pss_cons (ps_if (pt_cmpR op_eq (pv 1) pe_str (nomark _)) (pss_one (ps_ret (pe_op op_cat (pe_op op_cat (pe_call GNt hrN (by rfl) gNt kNt bNt .nil pass0 (pa_cons (pe_ix (r := rIx K) ix_seq (pv 0) pe_int (fun _ _ => rfl)) pa_nil)) (pe_call GB hr (by rfl) gB kB bB .nil pass0 (pa_cons (pe_ix (r := rIx K) ix_seq (pv 0) pe_int (fun _ _ => rfl)) pa_nil))) (pe_call GB hr (by rfl) gB kB bB .nil pass0 (pa_cons (pe_ix (r := rIx K) ix_seq (pv 0) pe_int (fun _ _ => rfl)) pa_nil))))) pss_nil)
        (pss_cons (ps_if (PW.pt (pw_and (pt_cmpR op_eq (pv 1) pe_str (nomark _)) (pw_and1 (pt_cmpR op_ne (pe_ix (r := rIx K) ix_seq (pv 0) pe_int (fun _ _ => rfl)) pe_str (nomark _))))) (pss_one (ps_ret (pe_lst (pa_cons (pe_ix (r := rIx K) ix_seq (pv 0) pe_int (fun _ _ => rfl)) pa_nil)))) pss_nil)
        (pss_cons (ps_if (PW.pt (pw_or (pt_cmpR op_eq (pv 1) pe_str (nomark _)) (pw_or1 (PW.pt (pw_and (pt_cmpR op_eq (pv 1) pe_str (nomark _)) (pw_and1 (PW.pt (pw_or (pt_cmpR op_eq (pe_ix (r := rIx K) ix_seq (pv 0) pe_int (fun _ _ => rfl)) pe_str (nomark _)) (pw_or1 (pt_cmpR op_eq (pe_callB call_len_seq (by rfl) gN PySem.boot_len (pa_cons (pv 0) pa_nil)) pe_int (nomark _))))))))))) (pss_one (ps_ret (pe_lst (pa_cons pe_str pa_nil)))) pss_nil)
        (pss_one (ps_ret (pe_lst pa_nil))))))), ?_⟩
    obtain ⟨p, xs, rfl, hp, hds⟩ := fz_tup hd hf hs.tl
    obtain ⟨_, hfe⟩ := fz_fix hf hs.tl
    have hfe := hfe
    have ixF : ∀ {H' : Hp} (j : Nat) (v' : V) (R : VK), Same H H' → xs[j]? = some v' → R v' H' → rIx K (.ref p) (.int (j : Nat)) H' R := fun {H'} j v' R s hj hR => .inr (.inl ⟨p, xs, (j : Int), v', rfl, rfl, .inl (.inl (s _ _ hp)), atI_nat hj, hR⟩)
    have s0 := Same.refl H
    have neq : ∀ {x y : Str}, x ≠ y → decide (V.str x = V.str y) = false := fun {x y} h => decide_eq_false fun z => h (V.str.inj z)
    cases hs with
    | @one _ _ x ht he hx =>
      rw [he] at hds
      cases hds with
      | @cons v1 _ _ _ d1 hds =>
      cases d1
      obtain ⟨n1, n2, n3⟩ := letK_ne x (letK_of hx)
      refine ⟨V.ref p, rfl, ixF 0 _ _ s0 rfl ⟨V.str x, rfl, rfl, _, rfl, ?_⟩⟩
      rw [neq n1]
      refine iteF ⟨V.str x, rfl, rfl, _, rfl, ?_⟩
      rw [neq n2]
      refine iteF (iteF ⟨V.str x, rfl, rfl, _, rfl, ?_⟩)
      by_cases c : x = Str.ofString "keep"
      · rw [decide_eq_true (show V.str x = V.str (Str.ofString "keep") from congrArg V.str c)]
        exact iteT (iteT ⟨(by show 1 ≤ sizeLine; decide), fun q nq => kk _ q (upd_new nq) (by rw [if_pos c]; exact upd_same)⟩)
      · rw [neq c]
        refine iteF ⟨V.str x, rfl, rfl, _, rfl, ?_⟩
        rw [neq n3]
        exact iteF (iteF ⟨Nat.zero_le _, fun q nq => kk _ q (upd_new nq) (by rw [if_neg c]; exact upd_same)⟩)
    | @set _ _ x b ht he hx =>
      rw [he] at hds
      cases hds with
      | @cons v1 _ _ _ d1 hds =>
      cases d1
      cases hds with
      | @cons v2 _ _ _ d2 hds =>
      cases d2
      refine ⟨V.ref p, rfl, ixF 0 _ _ s0 rfl ⟨V.str _, rfl, rfl, _, rfl, ?_⟩⟩
      rw [neq (by decide)]
      refine iteF ⟨V.str _, rfl, rfl, _, rfl, iteT ⟨V.ref p, rfl, ixF 1 _ _ s0 rfl ⟨rfl, _, rfl, ?_⟩⟩⟩
      by_cases c : x = Str.ofString "f"
      · rw [decide_eq_true (show V.str x = V.str (Str.ofString "f") from congrArg V.str c)]
        refine iteF ⟨V.str _, rfl, rfl, _, rfl, ?_⟩
        rw [neq (by decide)]
        refine iteF ⟨V.str _, rfl, rfl, _, rfl, ?_⟩
        rw [neq (by decide)]
        exact iteF (iteF ⟨Nat.zero_le _, fun q nq => kk _ q (upd_new nq) (by rw [if_pos c]; exact upd_same)⟩)
      · rw [neq c]
        exact iteT ⟨V.ref p, rfl, ixF 1 _ _ s0 rfl ⟨(by show 1 ≤ sizeLine; decide), fun q nq => kk _ q (upd_new nq) (by rw [if_neg c]; exact upd_same)⟩⟩
    | @ret _ _ a ht he hx =>
      rw [he] at hds
      cases hds with
      | @cons v1 _ _ _ d1 hds =>
      cases d1
      cases hds with
      | @cons v2 _ _ _ d2 hds =>
      cases d2
      cases hds
      refine ⟨V.ref p, rfl, ixF 0 _ _ s0 rfl ⟨V.str _, rfl, rfl, _, rfl, ?_⟩⟩
      rw [neq (by decide)]
      refine iteF ⟨V.str _, rfl, rfl, _, rfl, ?_⟩
      rw [neq (by decide)]
      refine iteF (iteF ⟨V.str _, rfl, rfl, _, rfl, ?_⟩)
      rw [neq (by decide)]
      refine iteF ⟨V.str _, rfl, rfl, _, rfl, iteT ⟨V.ref p, rfl, ixF 1 _ _ s0 rfl ⟨rfl, _, rfl, ?_⟩⟩⟩
      by_cases c : a = Str.ofString "p"
      · rw [decide_eq_true (show V.str a = V.str (Str.ofString "p") from congrArg V.str c)]
        exact iteT (iteT ⟨(by show 1 ≤ sizeLine; decide), fun q nq => kk _ q (upd_new nq) (by rw [if_pos c]; exact upd_same)⟩)
      · rw [neq c]
        refine iteF ⟨V.ref p, rfl, p, _, rfl, .inr (.inl (.inl hp)), rfl, _, rfl, ?_⟩
        exact iteF ⟨Nat.zero_le _, fun q nq => kk _ q (upd_new nq) (by rw [if_neg c]; exact upd_same)⟩
    | @retc _ _ a ht he hx hb =>
      rw [he] at hds
      cases hds with
      | @cons v1 _ _ _ d1 hds =>
      cases d1
      cases hds with
      | @cons v2 _ _ _ d2 hds =>
      cases d2
      cases hds with
      | @cons v3 _ _ _ d3 hds =>
      cases d3
      cases hds
      refine ⟨V.ref p, rfl, ixF 0 _ _ s0 rfl ⟨V.str _, rfl, rfl, _, rfl, ?_⟩⟩
      rw [neq (by decide)]
      refine iteF ⟨V.str _, rfl, rfl, _, rfl, ?_⟩
      rw [neq (by decide)]
      refine iteF (iteF ⟨V.str _, rfl, rfl, _, rfl, ?_⟩)
      rw [neq (by decide)]
      refine iteF ⟨V.str _, rfl, rfl, _, rfl, iteT ⟨V.ref p, rfl, ixF 1 _ _ s0 rfl ⟨rfl, _, rfl, ?_⟩⟩⟩
      by_cases c : a = Str.ofString "p"
      · rw [decide_eq_true (show V.str a = V.str (Str.ofString "p") from congrArg V.str c)]
        exact iteT (iteT ⟨(by show 1 ≤ sizeLine; decide), fun q nq => kk _ q (upd_new nq) upd_same⟩)
      · rw [neq c]
        refine iteF ⟨V.ref p, rfl, p, _, rfl, .inr (.inl (.inl hp)), rfl, _, rfl, ?_⟩
        exact iteT ⟨(by show 1 ≤ sizeLine; decide), fun q nq => kk _ q (upd_new nq) upd_same⟩
    | @iff m _ t b1 b2 k1 k2 l1 l2 ht he tt h1 hn h2 g1 g2 =>
      rw [he] at hds hfe
      cases hds with
      | @cons v1 _ _ _ d1 hds =>
      cases d1
      cases hds with
      | @cons v2 _ _ _ d2 hds =>
      cases hds with
      | @cons v3 _ _ _ d3 hds =>
      cases hds with
      | @cons v4 _ _ _ d4 hds =>
      have f3 := hfe b1 (by simp)
      have f4 := hfe b2 (by simp)
      have z0 := nmT_len 6 t
      have z1 := g1.nl
      have z2 := g2.nl
      have b5 : (5000 : Nat) < sizeLine := by decide
      refine ⟨V.ref p, rfl, ixF 0 _ _ s0 rfl ⟨V.str _, rfl, rfl, _, rfl, iteT ?_⟩⟩
      refine ⟨V.ref p, rfl, ixF 1 v2 _ s0 rfl ⟨v2, t, 6, rfl, by omega, by omega, d2, tsG_hd tt, tsG_ok tt, fun G1 q1 s1 hq1 => ?_⟩⟩
      refine ⟨V.ref p, rfl, ixF 2 v3 _ s1 rfl ⟨v3, b1, m, k1, l1, rfl, de_mono s1 _ _ d3, f3, h1, .of g1, by omega, by omega, fun G2 q2 s2 hq2 => ?_⟩⟩
      refine ⟨q1, q2, _, _, rfl, rfl, s2 _ _ hq1, hq2, (by rw [List.length_map, List.length_map]; omega), fun q3 nq3 => ?_⟩
      have s3 := upd_new (o := .lst ((nmT 6 t).map V.str ++ l1.map V.str)) nq3
      have hq3 : upd G2 q3 (.lst ((nmT 6 t).map V.str ++ l1.map V.str)) q3 = some (.lst ((nmT 6 t).map V.str ++ l1.map V.str)) := upd_same
      generalize upd G2 q3 (.lst ((nmT 6 t).map V.str ++ l1.map V.str)) = G3 at s3 hq3
      have s03 := (s1.trans s2).trans s3
      refine ⟨V.ref p, rfl, ixF 3 v4 _ s03 rfl ⟨v4, b2, m, k2, l2, rfl, de_mono s03 _ _ d4, f4, h2, .of g2, by omega, by omega, fun G4 q4 s4 hq4 => ?_⟩⟩
      refine ⟨q3, q4, _, _, rfl, rfl, s4 _ _ hq3, hq4, (by rw [List.length_append, List.length_map, List.length_map, List.length_map]; omega), fun q5 nq5 => ?_⟩
      refine kk _ q5 ((s03.trans s4).trans (upd_new nq5)) ?_
      rw [List.map_append, List.map_append]
      exact upd_same
abbrev NNb : List Str := ["block", "out", "statement"]
theorem ok_nb (F : Fun K "names_in_block" "names_in_block" (top 24) f fd) {fS : Addr} {fdS : FuncData}
    (gS : mg "names_in_statement" = some (.ref fS)) (kS : PySem.W.keepIn K (.ref fS) = true) (n : Nat) (GS : FnOk P w K mg base CX0 (2 * n + 9) fS fdS ["statement"] (spNs K n)) (bS : Binds K fdS ["statement"] []) :
    FnOk P w K mg base CX0 (2 * n + 10) f fd ["block"] (spNb K n) := by
  have S0 : FnScope NNb ["block"] (defScope (top 24)) := ⟨rfl, rfl, rfl, by decide +kernel, rfl, by decide +kernel, by decide +kernel⟩
  have nd := S0.nd
  refine F.ok S0 (fun vs H Q E h => ?_) (fun cdv A outer s H vs Q E hr h => ?_)
  · obtain ⟨v, d, m, k, l, rfl, _⟩ := h
    rfl
  · obtain ⟨v, d, m, k, l, rfl, hd, hf, ht, hs, hm, hk, kk⟩ := h
    refine ⟨_, (pss_cons (ps_set (i := 1) nd rfl (Or.inl rfl) (pe_lst pa_nil))
        (pss_cons (ps_for PassesOwn.never rfl (pi_tup (pv 0)) (pg_name (i := 2) nd rfl (Or.inl rfl)) (pss_one (ps_expr (pe_bm PySem.F.plainAttrs_list PySem.F.slot_list_extend PySem.F.type_list_extend mt_extend (pv 1) (pa_cons (pe_call GS hr (by rfl) gS kS bS .nil pass0 (pa_cons (pv 2) pa_nil)) pa_nil)))))
        (pss_one (ps_ret (pv 1))))), ?_⟩
    obtain ⟨p, xs, rfl, hp, hds⟩ := fz_tup hd hf ht
    obtain ⟨_, hfe⟩ := fz_fix hf ht
    generalize elems d = ds at hs hds hfe
    have hxl := deAll_len hds
    have hnl := hs.nl
    have b5 : (5000 : Nat) < sizeLine := by decide
    refine ⟨Nat.zero_le _, fun o no => ?_⟩
    have s1 := upd_new (o := .lst []) no
    have ho1 : upd H o (.lst []) o = some (.lst []) := upd_same
    generalize upd H o (.lst []) = G1 at s1 ho1
    refine ⟨V.ref p, rfl, p, rfl, ⟨xs, .inl (.inl (s1 _ _ hp))⟩, for_it (walk_tup (K := K) (xs := xs)) (fun i σ G => ∃ (x2 : Option V) (la lb : List Str) (kb : Nat), σ = [some (.ref p), some (.ref o), x2] ∧ Same H G ∧ G o = some (.lst (la.map V.str)) ∧ l = la ++ lb ∧ NmL m (ds.drop i) kb lb ∧ kb ≤ 60) ⟨none, [], l, k, rfl, s1, ho1, rfl, hs, hk⟩ (fun i σ G _ q => ?_) ?_ ?_⟩
    · obtain ⟨x2, la, lb, kb, rfl, sG, _⟩ := q
      exact .inl (.inl (sG _ _ hp))
    · rintro i x σ G G' hi ⟨x2, la, lb, kb, rfl, sG, hoG, rfl, hst, hkb⟩ ⟨rfl, hx⟩
      obtain ⟨e, he, hde⟩ := deAll_at hds hx
      have hlt : i < ds.length := by omega
      have ed : ds.drop i = e :: ds.drop (i + 1) := by
        rw [List.drop_eq_getElem_cons hlt]
        rw [List.getElem?_eq_getElem hlt] at he
        rw [Option.some.inj he]
      rw [ed] at hst
      cases hst with
      | @cons blk _ _ ka kc l1 l2 ha hc =>
      have hl1 : l1.length ≤ 64 * ka := ha.nl
      refine ⟨V.ref o, rfl, .inl ⟨rfl, _, .inl (.inl hoG)⟩, x, rfl, x, e, blk, m, ka, l1, rfl, de_mono sG _ _ hde, hfe e (List.mem_of_getElem? he), ha, hm, by omega, fun G2 q s2 hq => ?_⟩
      have ho2 := s2 _ _ hoG
      rw [List.length_append, List.length_append] at hnl
      refine ⟨o, q, _, _, rfl, rfl, ho2, hq, by rw [List.length_map, List.length_map]; omega, ?_⟩
      refine ⟨some x, la ++ l1, l2, kc, rfl, fun b u hb => ?_, by rw [List.map_append]; exact upd_same, by rw [List.append_assoc], hc, by omega⟩
      rw [upd_ne (ne_of_none hb no)]
      exact s2 _ _ (sG _ _ hb)
    · rintro σ G ⟨x2, la, lb, kb, rfl, sG, hoG, rfl, hst, hkb⟩
      rw [List.drop_eq_nil_of_le (by omega)] at hst
      rw [hst.nil_l, List.append_nil] at kk
      exact ⟨V.ref o, rfl, kk G o sG hoG⟩
end
end SK
namespace SK
open PySem PySem.Spec PyProof.Rows L2 LamX NdefX
open K0 (De DeAll XCl spX withX)
/-! ### tuples put together and cut -/
theorem cat_any {K : PySem.W.Frag} {H : Hp} {a b : Addr} {xs ys : List V} {Q : VK} (h1 : H a = some (.tup xs)) (h2 : H b = some (.tup ys)) (hz : xs.length + ys.length ≤ sizeLine) (k : ∀ (H' : Hp) (r : Addr), Same H H' → H' r = some (.tup (xs ++ ys)) → Q (.ref r) H') : rCatA K (.ref a) (.ref b) H Q := by
  refine ⟨a, b, xs, ys, rfl, rfl, .inl (.inl h1), .inl (.inl h2), hz, fun e => ?_, fun _ e => ?_, fun _ _ p np => k _ p (upd_new np) upd_same⟩
  · subst e
    exact k H b (Same.refl _) h2
  · subst e
    exact k H a (Same.refl _) (by rw [List.append_nil]; exact h1)
theorem sl_any {K : PySem.W.Frag} {H : Hp} {a : Addr} {xs : List V} {lo hi : Option Int} {Q : VK} (h1 : H a = some (.tup xs)) (k : ∀ (H' : Hp) (r : Addr), Same H H' → H' r = some (.tup (cutV xs lo hi)) → Q (.ref r) H') : rSlA K (.ref a) lo hi H Q := by
  refine ⟨a, xs, rfl, .inl (.inl h1), fun e => ?_, fun _ p np => k _ p (upd_new np) upd_same⟩
  have z : cutV xs lo hi = xs := by
    unfold cutV
    rw [e.1, e.2]
    simp
  exact k H a (Same.refl _) (by rw [z]; exact h1)
theorem cut_to (xs : List V) {k : Nat} (h : k ≤ xs.length) : cutV xs none (some (k : Int)) = xs.take k := by
  unfold cutV
  rw [HT.sIx_none, HT.sIx_nat, Nat.min_eq_left h]
  simp
theorem cut_from (xs : List V) {k : Nat} (h : k ≤ xs.length) : cutV xs (some (k : Int)) none = xs.drop k := by
  unfold cutV
  rw [HT.sIx_none, HT.sIx_nat, Nat.min_eq_left h]
  exact List.take_of_length_le (by rw [List.length_drop]; exact Nat.le_refl _)
/-! ### the names of a routine -/
def spRn (K : PySem.W.Frag) (CR : Addr) : Sp := fun vs H Q _ => ∃ (x : V) (d1 d2 d3 : PyData) (b1 b2 b3 : Str) (k1 k2 k3 : Nat) (l1 l2 l3 : List Str), vs = [x] ∧ RoF K CR H x d1 d2 d3 ∧ BkR b1 (fz d1) k1 l1 ∧ BkR b2 (fz d2) k2 l2 ∧ BkR b3 (fz d3) k3 l3 ∧ k1 + k2 + k3 ≤ 60 ∧
  ∀ (H' : Hp) (q : Addr), Same H H' → H' q = some (.tup ((srtU (l1 ++ l2 ++ l3)).map V.str)) → Q (.ref q) H'
theorem tup_fz {ds : List PyData} (h : ∀ e ∈ ds, fz e = e) : fz (.tuple ds) = .tuple ds := fz_mk h
section
variable {P : Program} {w : World} {K : PySem.W.Frag} {mg : Str → Option Value} {base : Heap} {f fB CR : Addr} {fd fdB : FuncData}
theorem ok_rn (F : Fun K "names" "Routine.names" (ro 3) f fd) (R : RoK K CR) (gTu : mg "tuple" = none) (gSo : mg "sorted" = none) (gSe : mg "set" = none)
    (gB : mg "names_in_block" = some (.ref fB)) (kB : PySem.W.keepIn K (.ref fB) = true) (GB : FnOk P w K mg base CX0 16 fB fdB ["block"] (spNb K 3)) (bB : Binds K fdB ["block"] []) :
    FnOk P w K mg base CX0 17 f fd ["self"] (spRn K CR) := by
  have S0 : FnScope ["self"] ["self"] (defScope (ro 3)) := ⟨rfl, rfl, rfl, by decide +kernel, rfl, by decide +kernel, by decide +kernel⟩
  refine F.ok S0 (fun vs H Q E h => ?_) (fun cdv A outer s H vs Q E hr h => ?_)
  · obtain ⟨x, d1, d2, d3, b1, b2, b3, k1, k2, k3, l1, l2, l3, rfl, _⟩ := h
    rfl
  · obtain ⟨x, d1, d2, d3, b1, b2, b3, k1, k2, k3, l1, l2, l3, rfl, ⟨a, dx, fs, u1, u2, u3, rfl, ha, T⟩, B1, B2, B3, hk, kk⟩ := h
    have hu64 := hr.units
    have hrB : Room 16 _ := hr
    refine ⟨_, (pss_one (ps_ret (pe_callTy call_tuple_of (by rfl) gTu PyProof.Rows.boot_tuple (pa_cons (pe_sortedSet rfl hu64 (by rfl) gSo (by rfl) gSe (pe_call GB hrB (by rfl) gB kB bB .nil pass0 (pa_cons (pe_op op_catA (pe_op op_catA (pe_fld (pv 0) rfl) (pe_fld (pv 0) rfl)) (pe_fld (pv 0) rfl)) pa_nil))) pa_nil)))), ?_⟩
    obtain ⟨p1, xs1, rfl, hp1, hd1⟩ := fz_tup T.e1 B1.fx B1.tl
    obtain ⟨p2, xs2, rfl, hp2, hd2⟩ := fz_tup T.e2 B2.fx B2.tl
    obtain ⟨p3, xs3, rfl, hp3, hd3⟩ := fz_tup T.e3 B3.fx B3.tl
    have y1 := deAll_len hd1
    have y2 := deAll_len hd2
    have y3 := deAll_len hd3
    have z1 := B1.st.len
    have z2 := B2.st.len
    have z3 := B3.st.len
    have b5 : (5000 : Nat) < sizeLine := by decide
    refine ⟨V.ref a, rfl, a, CR, dx, _, _, rfl, ha, R.cl, R.n1, T.f1, V.ref a, rfl, a, CR, dx, _, _, rfl, ha, R.cl, R.n2, T.f2, cat_any hp1 hp2 (by omega) fun G1 r1 s1 hr1 => ?_⟩
    refine ⟨V.ref a, rfl, a, CR, dx, _, _, rfl, s1 _ _ ha, R.cl, R.n3, T.f3, cat_any hr1 (s1 _ _ hp3) (by rw [List.length_append]; omega) fun G2 r2 s2 hr2 => ?_⟩
    have s12 := s1.trans s2
    have hde : De K G2 (.ref r2) (.tuple (elems (fz d1) ++ elems (fz d2) ++ elems (fz d3))) := .tup hr2 (de_monoAll s12 _ _ (deAll_app (deAll_app hd1 hd2) hd3))
    have N3 := NmL.app (NmL.app (NmL.of B1.st) (NmL.of B2.st)) (NmL.of B3.st)
    have hnl := N3.nl
    refine ⟨.ref r2, _, 2, _, _, rfl, hde, fz_mk fun e he => ?_, rfl, N3, by decide, hk, fun G3 q3 s3 hq3 => ?_⟩
    · rcases List.mem_append.mp he with he | he
      · rcases List.mem_append.mp he with he | he
        · exact (fz_fix B1.fx B1.tl).2 e he
        · exact (fz_fix B2.fx B2.tl).2 e he
      · exact (fz_fix B3.fx B3.tl).2 e he
    refine ⟨q3, _, rfl, .inl (.inl hq3), by omega, fun q4 nq4 => ?_⟩
    refine ⟨q4, _, rfl, .inl ⟨.inl (.inl upd_same), fun q5 nq5 => ?_⟩⟩
    exact kk _ q5 ((s12.trans s3).trans ((upd_new nq4).trans (upd_new nq5))) upd_same
end
end SK
namespace SK
open PySem PySem.Spec PyProof.Rows L2 LamX NdefX
open K0 (De DeAll XCl spX withX)
/-! ### the law's blocks -/
theorem de_keep {K : PySem.W.Frag} {G G' : Hp} {v : V} {d : PyData} (f : fz d = d) (m : KeepN G G') (h : De K G v d) : De K G' v d := by
  have z := de_fz m d v (by rw [f]; exact h)
  rwa [f] at z
theorem deAll_keep {K : PySem.W.Frag} {G G' : Hp} {vs : List V} {ds : List PyData} (f : ∀ e ∈ ds, fz e = e) (m : KeepN G G') (h : DeAll K G vs ds) : DeAll K G' vs ds := by
  have e : fzAll ds = ds := by rw [fzAll_map]; exact (List.map_congr_left f).trans (List.map_id ds)
  have z := de_fzAll m ds vs (by rw [e]; exact h)
  rwa [e] at z
theorem keepN_app {G : Hp} {o : Addr} {acc ys : List V} (h : G o = some (.lst acc)) : KeepN G (upd G o (.lst ys)) := fun b u nl hb => by
  rw [upd_ne (fun z => by rw [z, h] at hb; exact nl acc (Option.some.inj hb).symm)]
  exact hb
theorem StG.le {blk : Str} {n m : Nat} {d : PyData} {k : Nat} {l : List Str} (h : StG blk n d k l) (q : n ≤ m) : StG blk m d k l := by
  induction q with
  | refl => exact h
  | step _ ih => exact ih.mono
/-- a list of statements that is being built -/
structure Bld (K : PySem.W.Frag) (H : Hp) (p l : Addr) (ns : List Int) (o : Addr) (blk : Str) (m : Nat) (G : Hp) (k lf : Int) (acc : List V) (ds : List PyData) (kk : Nat) (ll : List Str) : Prop where
  sb : SameBut p H G
  pn : PenAt G p l ns k lf
  ls : G o = some (.lst acc)
  de : DeAll K G acc ds
  st : StL blk m ds kk ll
  fx : ∀ e ∈ ds, fz e = e
section
variable {K : PySem.W.Frag} {H G G' : Hp} {p l o : Addr} {ns : List Int} {blk : Str} {m : Nat} {k lf k' lf' k0 lf0 : Int} {acc : List V} {ds : List PyData} {kk : Nat} {ll : List Str}
theorem Bld.but (B : Bld K H p l ns o blk m G k lf acc ds kk ll) (s : SameBut p G G') (P : PenAt G' p l ns k' lf') : Bld K H p l ns o blk m G' k' lf' acc ds kk ll :=
  ⟨B.sb.trans s, P, s _ _ (ne_of B.ls B.pn.dc (by intro z; cases z)) B.ls, de_butAll B.pn.dc s B.de, B.st, B.fx⟩
theorem Bld.same (B : Bld K H p l ns o blk m G k lf acc ds kk ll) (s : Same G G') : Bld K H p l ns o blk m G' k lf acc ds kk ll := B.but (.of s) ⟨s _ _ B.pn.dc, s _ _ B.pn.ls⟩
theorem Bld.push (B : Bld K H p l ns o blk m G k lf acc ds kk ll) (P0 : PenAt H p l ns k0 lf0) (no : H o = none) {v : V} {d : PyData} {k1 : Nat} {l1 : List Str} (hv : De K G v d) (hs : StG blk m d k1 l1) (hf : fz d = d) :
    Bld K H p l ns o blk m (upd G o (.lst (acc ++ [v]))) k lf (acc ++ [v]) (ds ++ [d]) (kk + k1) (ll ++ l1) := by
  have fx : ∀ e ∈ ds ++ [d], fz e = e := fun e he => by
    rcases List.mem_append.mp he with he | he
    · exact B.fx e he
    · rw [List.mem_singleton.mp he]
      exact hf
  refine ⟨fun b u hb e => ?_, ⟨?_, ?_⟩, upd_same, deAll_keep fx (keepN_app B.ls) (deAll_app B.de (.cons hv .nil)), B.st.app (.one hs), fx⟩
  · rw [upd_ne (ne_of_none e no)]
    exact B.sb b u hb e
  · rw [upd_ne (ne_of_none P0.dc no)]
    exact B.pn.dc
  · rw [upd_ne (ne_of_none P0.ls no)]
    exact B.pn.ls
end
def c1 : Nat → Nat
  | 0 => 1
  | m + 1 => 2 + 2 * c1 m
def eD : Nat → Nat
  | 0 => 6
  | m + 1 => 22 + 2 * eD m
theorem c1_pos (m : Nat) : 1 ≤ c1 m := by
  cases m with
  | zero => exact Nat.le_refl _
  | succ m =>
    show 1 ≤ 2 + 2 * c1 m
    omega
theorem c1_le : ∀ {j : Nat}, j ≤ 2 → c1 j ≤ 10
  | 0, _ => by decide
  | 1, _ => by decide
  | 2, _ => by decide
  | j + 3, h => by omega
theorem eD_pos (m : Nat) : 6 ≤ eD m := by
  cases m with
  | zero => exact Nat.le_refl _
  | succ m =>
    show 6 ≤ 22 + 2 * eD m
    omega
def spLb (K : PySem.W.Frag) (n : Nat) : Sp := fun vs H Q _ => ∃ (p l : Addr) (ns : List Int) (k lf : Int) (blk : Str) (most m : Nat), vs = [.ref p, .str blk, .int (most : Nat), .int (m : Nat)] ∧ m < n ∧ m ≤ 2 ∧ most ≤ 3 ∧ blk ∈ blk3 ∧ PenAt H p l ns k lf ∧ ns.length ≤ 63 ∧ 0 ≤ k ∧ k + ((1 + most * eD m : Nat) : Int) + 20 ≤ 100000 ∧ 0 ≤ lf ∧
  ∀ (H' : Hp) (k' lf' : Int) (v : V) (d : PyData) (kk : Nat) (ll : List Str), k' ≤ k + ((1 + most * eD m : Nat) : Int) → 0 ≤ k' → 0 ≤ lf' → SameBut p H H' → PenAt H' p l ns k' lf' → De K H' v d → isTL d = true → fz d = d → StL blk m (elems d) kk ll → kk ≤ most * c1 m → Q v H'
section
variable {P : Program} {w : World} {K : PySem.W.Frag} {mg : Str → Option Value} {base : Heap} {f fD fLt fSi : Addr} {fd fdD fdLt fdSi : FuncData}
abbrev NLb : List Str := ["pen", "name", "most", "depth", "found", "k", "test", "inner"]
theorem ok_lb (F : Fun K "_law_block" "_law_block" (top 56) f fd) (gRg : mg "range" = none) (gTu : mg "tuple" = none)
    (gD : mg "_law_draw" = some (.ref fD)) (kD : PySem.W.keepIn K (.ref fD) = true) (GD : FnOk P w K mg base CX0 1 fD fdD ["pen", "many"] spDraw) (bD : Binds K fdD ["pen", "many"] [])
    (gLt : mg "_law_test" = some (.ref fLt)) (kLt : PySem.W.keepIn K (.ref fLt) = true) (GLt : FnOk P w K mg base CX0 7 fLt fdLt ["pen", "depth"] (spLt K 4)) (bLt : Binds K fdLt ["pen", "depth"] [])
    (gSi : mg "_law_simple" = some (.ref fSi)) (kSi : PySem.W.keepIn K (.ref fSi) = true) (GSi : FnOk P w K mg base CX0 3 fSi fdSi ["pen", "name"] (spSi K)) (bSi : Binds K fdSi ["pen", "name"] [])
    (gS : mg "_law_block" = some (.ref f)) (bS : Binds K fd ["pen", "name", "most", "depth"] []) : ∀ n : Nat, FnOk P w K mg base CX0 (n + 7) f fd ["pen", "name", "most", "depth"] (spLb K n) := by
  have S0 : FnScope NLb ["pen", "name", "most", "depth"] (defScope (top 56)) := ⟨rfl, rfl, rfl, by decide +kernel, rfl, by decide +kernel, by decide +kernel⟩
  have nd := S0.nd
  have kS := F.kp
  intro n
  induction n with
  | zero =>
    refine F.ok S0 (fun vs H Q E h => ?_) (fun cdv A outer s H vs Q E hr h => ?_)
    · obtain ⟨p, l, ns, k, lf, blk, most, m, rfl, _⟩ := h
      rfl
    · obtain ⟨p, l, ns, k, lf, blk, most, m, rfl, hm, _⟩ := h
      omega
  | succ n GS =>
  refine F.ok S0 (fun vs H Q E h => ?_) (fun cdv A outer s H vs Q E hr h => ?_)
  · obtain ⟨p, l, ns, k, lf, blk, most, m, rfl, _⟩ := h
    rfl
  · obtain ⟨p, l, ns, k, lf, blk, most, m, rfl, hm, hm2, hmo, hb, P0, hn, i0, i1, i2, kk⟩ := h
    have hr1 : Room 1 _ := hr.mono (by omega)
    have hr3 : Room 3 _ := hr.mono (by omega)
    have hr7 : Room 7 _ := hr.mono (by omega)
    refine ⟨_, (pss_cons (ps_set (i := 4) nd rfl (Or.inl rfl) (pe_lst pa_nil))
        (pss_cons (ps_for PassesOwn.never rfl (pi_range1 (by rfl) gRg (pa_cons (pe_call GD hr1 (by rfl) gD kD bD .nil pass0 (pa_cons (pv 0) (pa_cons (pe_op op_add (pv 2) pe_int) pa_nil))) pa_nil)) (pg_name (i := 5) nd rfl (Or.inl rfl)) (pss_one (ps_if (PW.pt (pw_and (pt_cmpR op_gt (pv 3) pe_int (nomark _)) (pw_and1 (pt_cmpR op_eq (pe_call GD hr1 (by rfl) gD kD bD .nil pass0 (pa_cons (pv 0) (pa_cons pe_int pa_nil))) pe_int (nomark _))))) (pss_cons (ps_par (i := 6) (j := 7) rfl nd rfl rfl (by decide) rfl rfl (pa_cons (pe_call GLt hr7 (by rfl) gLt kLt bLt .nil pass0 (pa_cons (pv 0) (pa_cons pe_int pa_nil))) (pa_cons (pe_op op_catA (pe_tup (pa_cons (pe_call GSi hr3 (by rfl) gSi kSi bSi .nil pass0 (pa_cons (pv 0) (pa_cons (pv 1) pa_nil))) pa_nil)) (pe_call GS hr (by rfl) gS kS bS .nil pass0 (pa_cons (pv 0) (pa_cons (pv 1) (pa_cons pe_int (pa_cons (pe_op op_sub (pv 3) pe_int) pa_nil)))))) pa_nil)) rfl)
        (pss_one (ps_expr (pe_bm PySem.F.plainAttrs_list PySem.F.slot_list_append PySem.F.type_list_append mt_append (pv 4) (pa_cons (pe_tup (pa_cons pe_str (pa_cons (pv 6) (pa_cons (pv 7) (pa_cons (pe_call GS hr (by rfl) gS kS bS .nil pass0 (pa_cons (pv 0) (pa_cons (pv 1) (pa_cons pe_int (pa_cons (pe_op op_sub (pv 3) pe_int) pa_nil))))) pa_nil))))) pa_nil))))) (pss_one (ps_expr (pe_bm PySem.F.plainAttrs_list PySem.F.slot_list_append PySem.F.type_list_append mt_append (pv 4) (pa_cons (pe_call GSi hr3 (by rfl) gSi kSi bSi .nil pass0 (pa_cons (pv 0) (pa_cons (pv 1) pa_nil))) pa_nil)))))))
        (pss_one (ps_ret (pe_callTy call_tuple_of (by rfl) gTu PyProof.Rows.boot_tuple (pa_cons (pv 4) pa_nil)))))), ?_⟩
    have b5 : (5000 : Nat) < sizeLine := by decide
    have e6 := eD_pos m
    have c6 := c1_pos m
    have keepP : ∀ {G G' : Hp} {k' lf' : Int}, PenAt G p l ns k' lf' → Same G G' → PenAt G' p l ns k' lf' := fun {G G' k' lf'} h s => ⟨s _ _ h.dc, s _ _ h.ls⟩
    refine ⟨Nat.zero_le _, fun o no => ?_⟩
    have B0 : Bld K H p l ns o blk m (upd H o (.lst [])) k lf [] [] 0 [] := ⟨.of (upd_new no), keepP P0 (upd_new no), upd_same, .nil, .nil, by simp⟩
    generalize upd H o (.lst []) = G0 at B0
    refine ⟨V.ref p, rfl, V.int (most : Nat), rfl, (most : Int), 1, rfl, rfl, p, l, ns, k, lf, _, rfl, B0.pn, hn, i0, by omega, i2, by omega, by omega, fun G1 k1 lf1 d g1 g2 g3 g4 g5 s1 P1 => ⟨d, rfl, by omega, by omega, ?_⟩⟩
    refine for_it walk_range (fun i σ G => ∃ (x5 x6 x7 : Option V) (k' lf' : Int) (acc : List V) (ds : List PyData) (kn : Nat) (ll : List Str), σ = [some (.ref p), some (.str blk), some (.int (most : Nat)), some (.int (m : Nat)), some (.ref o), x5, x6, x7] ∧ Bld K H p l ns o blk m G k' lf' acc ds kn ll ∧ acc.length = i ∧ 0 ≤ k' ∧ k' ≤ k + 1 + ((i * eD m : Nat) : Int) ∧ 0 ≤ lf' ∧ kn ≤ i * c1 m)
      ⟨none, none, none, k1, lf1, [], [], 0, [], rfl, B0.but s1 P1, rfl, g2, by omega, g3, Nat.zero_le _⟩ (fun _ _ _ _ _ => trivial) ?_ ?_
    · rintro i x σ G Gx hi ⟨x5, x6, x7, k2, lf2, acc, ds, kn, ll, rfl, B, hal, j1, j2, j3, hkn⟩ ⟨rfl, rfl⟩
      have hi : i < d.toNat := by
        have z : (d - 0).toNat = d.toNat := by rw [Int.sub_zero]
        first
          | exact hi
          | omega
      have hi3 : i + 1 ≤ most := by omega
      have me : (i + 1) * eD m = i * eD m + eD m := Nat.succ_mul _ _
      have mc : (i + 1) * c1 m = i * c1 m + c1 m := Nat.succ_mul _ _
      have le := Nat.mul_le_mul_right (eD m) hi3
      rw [me] at le
      suffices els : ∀ (Ge : Hp) (ke lfe : Int), Bld K H p l ns o blk m Ge ke lfe acc ds kn ll → 0 ≤ ke → ke ≤ k2 + 1 → 0 ≤ lfe → _ by
        by_cases hm0 : 0 < m
        · obtain ⟨m', em⟩ : ∃ j, m = j + 1 := ⟨m - 1, by omega⟩
          have ee : eD m = 22 + 2 * eD m' := by rw [em]; rfl
          have ec : c1 m = 2 + 2 * c1 m' := by rw [em]; rfl
          have subE : (m : Int) - 1 = (m' : Int) := by omega
          have c10 : c1 m' ≤ 10 := c1_le (by omega)
          refine ⟨V.int (m : Nat), rfl, _, 0, rfl, rfl, _, rfl, ite2 (fun c => ?_) (fun c => absurd (show (0 : Int) < (m : Int) by omega) (fun z => c (decide_eq_true z)))⟩
          refine ⟨V.ref p, rfl, p, l, ns, k2, lf2, 2, rfl, B.pn, hn, j1, by omega, j3, by decide, by decide, fun G3 k3 lf3 d3 h1 h2 h3 h4 h5 s3 P3 => ?_⟩
          have B3 := B.but s3 P3
          refine ⟨rfl, _, rfl, ite2 (fun c0 => ?_) (fun c0 => els G3 k3 lf3 B3 h2 (by omega) h3)⟩
          have slf : ∀ {G : Hp} {ka la : Int} (R : VK), PenAt G p l ns ka la → 0 ≤ ka → ka + ((1 + 1 * eD m' : Nat) : Int) + 20 ≤ 100000 → 0 ≤ la → (∀ (H' : Hp) (k' lf' : Int) (v : V) (d : PyData) (kk : Nat) (ll : List Str), k' ≤ ka + ((1 + 1 * eD m' : Nat) : Int) → 0 ≤ k' → 0 ≤ lf' → SameBut p G H' → PenAt H' p l ns k' lf' → De K H' v d → isTL d = true → fz d = d → StL blk m' (elems d) kk ll → kk ≤ 1 * c1 m' → R v H') → spLb K n [.ref p, .str blk, .int 1, .int ((m : Int) - 1)] G R (fun _ _ _ => False) :=
            fun {G ka la} R h2 h3 h4 h5 h6 => ⟨p, l, ns, ka, la, blk, 1, m', by rw [subE]; rfl, by omega, by omega, by decide, hb, h2, hn, h3, h4, h5, h6⟩
          refine ⟨V.ref p, rfl, p, l, ns, k3, lf3, 3, rfl, by decide, by decide, P3, hn, h2, (by show k3 + ((14 : Nat) : Int) ≤ 100000; omega), h3, fun G4 k4 lf4 vt dt q1 q2 q3 s4 P4 hvt htt => ?_⟩
          have q1 : k4 ≤ k3 + ((14 : Nat) : Int) := q1
          have B4 := B3.but s4 P4
          refine ⟨V.ref p, rfl, V.str blk, rfl, p, l, ns, k4, lf4, blk, rfl, hb, P4, hn, q2, by omega, q3, fun G5 k5 lf5 v5 d5 r1 r2 r3 s5 P5 hv5 hs5 => ⟨(by show 1 ≤ sizeLine; decide), fun t6 nt6 => ?_⟩⟩
          have s6 := upd_new (o := .tup [v5]) nt6
          have ht6 : upd G5 t6 (.tup [v5]) t6 = some (.tup [v5]) := upd_same
          have B6 := (B4.but s5 P5).same s6
          have hvt6 := de_mono s6 _ _ (de_but P4.dc s5 hvt)
          have hv6 := de_mono s6 _ _ hv5
          generalize upd G5 t6 (.tup [v5]) = G6 at s6 ht6 B6 hvt6 hv6
          refine ⟨V.ref p, rfl, V.str blk, rfl, V.int (m : Nat), rfl, _, 1, rfl, rfl, slf _ B6.pn r2 (by omega) r3 fun G7 k7 lf7 v7 d7 kn7 ll7 t1 t2 t3 s7 P7 hv7 htl7 hf7 hs7 hk7 => ?_⟩
          obtain ⟨a7, xs7, rfl, ha7, hx7⟩ := fz_tup hv7 hf7 htl7
          have B7 := B6.but s7 P7
          have ht7 := s7 _ _ (ne_of ht6 B6.pn.dc (by intro z; cases z)) ht6
          have hvt7 := de_but B6.pn.dc s7 hvt6
          have hv57 := de_but B6.pn.dc s7 hv6
          have hx7l := deAll_len hx7
          have hs7l := hs7.len
          have f7 := (fz_fix hf7 htl7).2
          refine cat_any ht7 ha7 (by rw [List.length_singleton]; omega) fun G8 r8 s8 hr8 => ⟨vt, .ref r8, rfl, ?_⟩
          have B8 := B7.same s8
          have hvt8 := de_mono s8 _ _ hvt7
          have hin8 : De K G8 (.ref r8) (.tuple (d5 :: elems d7)) := .tup hr8 (.cons (de_mono s8 _ _ hv57) (de_monoAll s8 _ _ hx7))
          refine ⟨V.ref o, rfl, .inl ⟨rfl, _, .inl (.inl B8.ls)⟩, vt, rfl, V.ref r8, rfl, V.ref p, rfl, V.str blk, rfl, V.int (m : Nat), rfl, _, 1, rfl, rfl, slf _ B8.pn t2 (by omega) t3 fun G9 k9 lf9 v9 d9 kn9 ll9 w1 w2 w3 s9 P9 hv9 htl9 hf9 hs9 hk9 => ⟨(by show 4 ≤ sizeLine; decide), fun t10 nt10 => ?_⟩⟩
          have s10 := upd_new (o := .tup [.str "if", vt, .ref r8, v9]) nt10
          have ht10 : upd G9 t10 (.tup [.str "if", vt, .ref r8, v9]) t10 = some (.tup [.str "if", vt, .ref r8, v9]) := upd_same
          have B10 := (B8.but s9 P9).same s10
          have hv10 : De K (upd G9 t10 (.tup [.str "if", vt, .ref r8, v9])) (.ref t10) (.tuple [.str "if", dt, .tuple (d5 :: elems d7), d9]) := .tup ht10 (.cons (.str _) (.cons (de_mono s10 _ _ (de_but B8.pn.dc s9 hvt8)) (.cons (de_mono s10 _ _ (de_but B8.pn.dc s9 hin8)) (.cons (de_mono s10 _ _ hv9) .nil))))
          generalize upd G9 t10 (.tup [.str "if", vt, .ref r8, v9]) = G10 at B10 hv10
          obtain ⟨l5, g5⟩ := smR_g hs5
          obtain ⟨gt, ft⟩ := tsR_g htt
          have st10 : StG blk (m' + 1) (.tuple [.str "if", dt, .tuple (d5 :: elems d7), d9]) (1 + (1 + kn7) + kn9) (nmT 6 dt ++ (l5 ++ ll7) ++ ll9) := .iff rfl rfl (gt.mono (by decide)) rfl (by simp [elems]) htl9 (.cons (g5.le (Nat.zero_le _)) hs7) hs9
          have fx10 : fz (.tuple [.str "if", dt, .tuple (d5 :: elems d7), d9]) = .tuple [.str "if", dt, .tuple (d5 :: elems d7), d9] := by
            refine fz_mk fun e he => ?_
            simp only [List.mem_cons, List.mem_nil_iff, or_false] at he
            rcases he with rfl | rfl | rfl | rfl
            · simp [fz]
            · exact ft
            · refine fz_mk fun e he => ?_
              rcases List.mem_cons.mp he with rfl | he
              · exact sm_fz hs5
              · exact f7 e he
            · exact hf9
          refine ⟨o, acc, .ref t10, rfl, rfl, B10.ls, by omega, ?_⟩
          exact ⟨_, _, _, k9, lf9, _, _, _, _, rfl, B10.push P0 no hv10 (by rw [em]; exact st10) fx10, by rw [List.length_append, hal]; rfl, w2, (by rw [me]; omega), w3, (by rw [mc]; omega)⟩
        · refine ⟨V.int (m : Nat), rfl, _, 0, rfl, rfl, _, rfl, ite2 (fun c => absurd (of_decide_eq_true c) (by omega)) (fun c => iteF (els Gx k2 lf2 B j1 (by omega) j3))⟩
      intro Ge ke lfe Be u1 u2 u3
      refine ⟨V.ref o, rfl, .inl ⟨rfl, _, .inl (.inl Be.ls)⟩, V.ref p, rfl, V.str blk, rfl, p, l, ns, ke, lfe, blk, rfl, hb, Be.pn, hn, u1, by omega, u3, fun Gf kf lff vf df r1 r2 r3 sf Pf hvf hsf => ?_⟩
      have Bf := Be.but sf Pf
      obtain ⟨lf5, gf5⟩ := smR_g hsf
      refine ⟨o, acc, vf, rfl, rfl, Bf.ls, by omega, ?_⟩
      exact ⟨_, _, _, kf, lff, _, _, _, _, rfl, Bf.push P0 no hvf (gf5.le (Nat.zero_le _)) (sm_fz hsf), by rw [List.length_append, hal]; rfl, r2, (by rw [me]; omega), r3, (by rw [mc]; omega)⟩
    · rintro σ G ⟨x5, x6, x7, k2, lf2, acc, ds, kn, ll, rfl, B, hal, j1, j2, j3, hkn⟩
      have hd3 : acc.length ≤ most := by
        have z : acc.length = d.toNat := by
          first
            | exact hal
            | (rw [Int.sub_zero] at hal; exact hal)
        omega
      have le := Nat.mul_le_mul_right (eD m) hd3
      have lc := Nat.mul_le_mul_right (c1 m) hd3
      rw [hal] at le lc
      refine ⟨V.ref o, rfl, o, acc, rfl, .inl ⟨.inl (.inl B.ls), fun q nq => ?_⟩⟩
      exact kk _ k2 lf2 (.ref q) (.tuple ds) kn ll (by omega) j1 j3 (B.sb.trans (.of (upd_new nq))) (keepP B.pn (upd_new nq)) (.tup upd_same (de_monoAll (upd_new nq) _ _ B.de)) rfl (fz_mk B.fx) B.st (Nat.le_trans hkn lc)
end
end SK
namespace SK
open PySem PySem.Spec PyProof.Rows L2 LamX NdefX
open K0 (De DeAll XCl spX withX)
/-! ### the law's known routines -/
/-- three right blocks -/
def Kn3 (b1 b2 b3 : PyData) : Prop := ∃ (k1 : Nat) (l1 : List Str) (k2 : Nat) (l2 : List Str) (k3 : Nat) (l3 : List Str), BkR (Str.ofString "down") b1 k1 l1 ∧ BkR (Str.ofString "turn") b2 k2 l2 ∧ BkR (Str.ofString "up") b3 k3 l3 ∧ k1 + k2 + k3 ≤ 30
def known6 : List Str := ["has", "put", "strike", "strike kept", "longest", "begins"]
theorem kn_has : Kn3 (.tuple []) (.tuple [.tuple [.str "if", .tuple [.str "and", .tuple [.str "ends"], .tuple [.str "mark"]], .tuple [.tuple [.str "return", .str "yes"]], .tuple [.tuple [.str "return", .str "no"]]]]) (.tuple []) := ⟨_, _, _, _, _, _, ⟨rfl, .nil, by simp [fz, fzAll]⟩, ⟨rfl, (.cons (.iff rfl rfl (.bin rfl rfl (by decide +kernel) (.w rfl rfl (by decide +kernel)) (.w rfl rfl (by decide +kernel))) rfl (fun z => nomatch z) rfl (.cons (.ret rfl rfl (by decide +kernel)) .nil) (.cons (.ret rfl rfl (by decide +kernel)) .nil)) .nil), by simp [fz, fzAll]⟩, ⟨rfl, .nil, by simp [fz, fzAll]⟩, by decide⟩
theorem kn_put : Kn3 (.tuple [.tuple [.str "if", .tuple [.str "not", .tuple [.str "next"]], .tuple [.tuple [.str "make"]], .tuple []]]) (.tuple [.tuple [.str "if", .tuple [.str "mark"], .tuple [.tuple [.str "return", .str "no"]], .tuple []], .tuple [.str "mark"], .tuple [.str "return", .str "yes"]]) (.tuple []) := ⟨_, _, _, _, _, _, ⟨rfl, (.cons (.iff rfl rfl (.neg rfl rfl (.w rfl rfl (by decide +kernel))) rfl (fun z => nomatch z) rfl (.cons (.one rfl rfl (by decide +kernel)) .nil) .nil) .nil), by simp [fz, fzAll]⟩, ⟨rfl, (.cons (.iff rfl rfl (.w rfl rfl (by decide +kernel)) rfl (fun z => nomatch z) rfl (.cons (.ret rfl rfl (by decide +kernel)) .nil) .nil) (.cons (.one rfl rfl (by decide +kernel)) (.cons (.ret rfl rfl (by decide +kernel)) .nil))), by simp [fz, fzAll]⟩, ⟨rfl, .nil, by simp [fz, fzAll]⟩, by decide⟩
theorem kn_strike : Kn3 (.tuple []) (.tuple [.tuple [.str "if", .tuple [.str "or", .tuple [.str "not", .tuple [.str "ends"]], .tuple [.str "not", .tuple [.str "mark"]]], .tuple [.tuple [.str "return", .str "no"]], .tuple []], .tuple [.str "unmark"], .tuple [.str "if", .tuple [.str "or", .tuple [.str "root"], .tuple [.str "not", .tuple [.str "others", .int 0]]], .tuple [.tuple [.str "return", .str "yes"]], .tuple []]]) (.tuple [.tuple [.str "cut"], .tuple [.str "if", .tuple [.str "or", .tuple [.str "or", .tuple [.str "root"], .tuple [.str "mark"]], .tuple [.str "not", .tuple [.str "others", .int 0]]], .tuple [.tuple [.str "return", .str "yes"]], .tuple []]]) := ⟨_, _, _, _, _, _, ⟨rfl, .nil, by simp [fz, fzAll]⟩, ⟨rfl, (.cons (.iff rfl rfl (.bin rfl rfl (by decide +kernel) (.neg rfl rfl (.w rfl rfl (by decide +kernel))) (.neg rfl rfl (.w rfl rfl (by decide +kernel)))) rfl (fun z => nomatch z) rfl (.cons (.ret rfl rfl (by decide +kernel)) .nil) .nil) (.cons (.one rfl rfl (by decide +kernel)) (.cons (.iff rfl rfl (.bin rfl rfl (by decide +kernel) (.w rfl rfl (by decide +kernel)) (.neg rfl rfl (.oth rfl rfl (by decide) (by decide)))) rfl (fun z => nomatch z) rfl (.cons (.ret rfl rfl (by decide +kernel)) .nil) .nil) .nil))), by simp [fz, fzAll]⟩, ⟨rfl, (.cons (.one rfl rfl (by decide +kernel)) (.cons (.iff rfl rfl (.bin rfl rfl (by decide +kernel) (.bin rfl rfl (by decide +kernel) (.w rfl rfl (by decide +kernel)) (.w rfl rfl (by decide +kernel))) (.neg rfl rfl (.oth rfl rfl (by decide) (by decide)))) rfl (fun z => nomatch z) rfl (.cons (.ret rfl rfl (by decide +kernel)) .nil) .nil) .nil)), by simp [fz, fzAll]⟩, by decide⟩
theorem kn_strike_kept : Kn3 (.tuple [.tuple [.str "if", .tuple [.str "or", .tuple [.str "or", .tuple [.str "root"], .tuple [.str "mark"]], .tuple [.str "not", .tuple [.str "others", .int 0]]], .tuple [.tuple [.str "keep"]], .tuple []]]) (.tuple [.tuple [.str "if", .tuple [.str "or", .tuple [.str "not", .tuple [.str "ends"]], .tuple [.str "not", .tuple [.str "mark"]]], .tuple [.tuple [.str "return", .str "no"]], .tuple []], .tuple [.str "unmark"], .tuple [.str "if", .tuple [.str "or", .tuple [.str "root"], .tuple [.str "not", .tuple [.str "others", .int 0]]], .tuple [.tuple [.str "return", .str "yes"]], .tuple []], .tuple [.str "return", .str "yes", .str "cut"]]) (.tuple []) := ⟨_, _, _, _, _, _, ⟨rfl, (.cons (.iff rfl rfl (.bin rfl rfl (by decide +kernel) (.bin rfl rfl (by decide +kernel) (.w rfl rfl (by decide +kernel)) (.w rfl rfl (by decide +kernel))) (.neg rfl rfl (.oth rfl rfl (by decide) (by decide)))) rfl (fun z => nomatch z) rfl (.cons (.one rfl rfl (by decide +kernel)) .nil) .nil) .nil), by simp [fz, fzAll]⟩, ⟨rfl, (.cons (.iff rfl rfl (.bin rfl rfl (by decide +kernel) (.neg rfl rfl (.w rfl rfl (by decide +kernel))) (.neg rfl rfl (.w rfl rfl (by decide +kernel)))) rfl (fun z => nomatch z) rfl (.cons (.ret rfl rfl (by decide +kernel)) .nil) .nil) (.cons (.one rfl rfl (by decide +kernel)) (.cons (.iff rfl rfl (.bin rfl rfl (by decide +kernel) (.w rfl rfl (by decide +kernel)) (.neg rfl rfl (.oth rfl rfl (by decide) (by decide)))) rfl (fun z => nomatch z) rfl (.cons (.ret rfl rfl (by decide +kernel)) .nil) .nil) (.cons (.retc rfl rfl (by decide +kernel) rfl) .nil)))), by simp [fz, fzAll]⟩, ⟨rfl, .nil, by simp [fz, fzAll]⟩, by decide⟩
theorem kn_longest : Kn3 (.tuple [.tuple [.str "if", .tuple [.str "mark"], .tuple [.tuple [.str "keep"]], .tuple []]]) (.tuple [.tuple [.str "if", .tuple [.str "mark"], .tuple [.tuple [.str "keep"]], .tuple []], .tuple [.str "return", .str "p"]]) (.tuple []) := ⟨_, _, _, _, _, _, ⟨rfl, (.cons (.iff rfl rfl (.w rfl rfl (by decide +kernel)) rfl (fun z => nomatch z) rfl (.cons (.one rfl rfl (by decide +kernel)) .nil) .nil) .nil), by simp [fz, fzAll]⟩, ⟨rfl, (.cons (.iff rfl rfl (.w rfl rfl (by decide +kernel)) rfl (fun z => nomatch z) rfl (.cons (.one rfl rfl (by decide +kernel)) .nil) .nil) (.cons (.ret rfl rfl (by decide +kernel)) .nil)), by simp [fz, fzAll]⟩, ⟨rfl, .nil, by simp [fz, fzAll]⟩, by decide⟩
theorem kn_begins : Kn3 (.tuple []) (.tuple [.tuple [.str "if", .tuple [.str "not", .tuple [.str "ends"]], .tuple [.tuple [.str "return", .str "no"]], .tuple []], .tuple [.str "if", .tuple [.str "and", .tuple [.str "and", .tuple [.str "root"], .tuple [.str "not", .tuple [.str "mark"]]], .tuple [.str "others", .int 0]], .tuple [.tuple [.str "return", .str "no"]], .tuple []], .tuple [.str "return", .str "yes"]]) (.tuple []) := ⟨_, _, _, _, _, _, ⟨rfl, .nil, by simp [fz, fzAll]⟩, ⟨rfl, (.cons (.iff rfl rfl (.neg rfl rfl (.w rfl rfl (by decide +kernel))) rfl (fun z => nomatch z) rfl (.cons (.ret rfl rfl (by decide +kernel)) .nil) .nil) (.cons (.iff rfl rfl (.bin rfl rfl (by decide +kernel) (.bin rfl rfl (by decide +kernel) (.w rfl rfl (by decide +kernel)) (.neg rfl rfl (.w rfl rfl (by decide +kernel)))) (.oth rfl rfl (by decide) (by decide))) rfl (fun z => nomatch z) rfl (.cons (.ret rfl rfl (by decide +kernel)) .nil) .nil) (.cons (.ret rfl rfl (by decide +kernel)) .nil))), by simp [fz, fzAll]⟩, ⟨rfl, .nil, by simp [fz, fzAll]⟩, by decide⟩
theorem al_catT {K : PySem.W.Frag} {H0 : Hp} {σ : St} {t1 t2 : TE} {ds es : List PyData} (h1 : Al K H0 σ t1 (.tuple ds)) (h2 : Al K H0 σ t2 (.tuple es)) (hz : ds.length + es.length ≤ 1000) : Al K H0 σ (tOp (rCatA K) t1 t2) (.tuple (ds ++ es)) := fun H R s k => by
  refine h1 H _ s fun H1 v s1 hd => ?_
  refine h2 H1 _ (s.trans s1) fun H2 u s2 he => ?_
  cases de_mono s2 _ _ hd with
  | @tup a xs _ ha hx =>
    cases he with
    | @tup b ys _ hb hy =>
      have lx := deAll_len hx
      have ly := deAll_len hy
      have b5 : (5000 : Nat) < sizeLine := by decide
      exact cat_any ha hb (by omega) fun H3 r s3 hr => k H3 (.ref r) ((s1.trans s2).trans s3) (.tup hr (deAll_app (de_monoAll s3 _ _ hx) (de_monoAll s3 _ _ hy)))
theorem Al.asg {K : PySem.W.Frag} {H0 H : Hp} {σ : St} {te : TE} {g : TG} {u : TS} {D : Ends} {d : PyData} (h : Al K H0 σ te d) (s : Same H0 H) (k : ∀ H' v, Same H H' → De K H' v d → g v σ H' fun σ2 H2 => u D σ2 H2) : tSeq (tAsg te g) u D σ H := h H _ s k
theorem Al.ret1 {K : PySem.W.Frag} {H0 H : Hp} {σ : St} {te : TE} {R : VK} {d : PyData} (h : Al K H0 σ te d) (s : Same H0 H) (k : ∀ H' v, Same H H' → De K H' v d → R v H') : te σ H R := h H _ s k
def spKn (K : PySem.W.Frag) : Sp := fun vs H Q _ => ∃ (x : Str), vs = [.str x] ∧ x ∈ known6 ∧ ∀ (H' : Hp) (v : V) (b1 b2 b3 : PyData), Same H H' → De K H' v (.tuple [b1, b2, b3]) → Kn3 b1 b2 b3 → Q v H'
section
variable {P : Program} {w : World} {K : PySem.W.Frag} {mg : Str → Option Value} {base : Heap} {f : Addr} {fd : FuncData}
abbrev NKn : List Str := ["name", "make", "no", "bare", "lost", "mine", "alive", "strike", "other", "empty", "lacks"]
theorem ok_kn (F : Fun K "_law_known" "_law_known" (top 57) f fd) : FnOk P w K mg base CX0 1 f fd ["name"] (spKn K) := by
  have S0 : FnScope NKn ["name"] (defScope (top 57)) := ⟨rfl, rfl, rfl, by decide +kernel, rfl, by decide +kernel, by decide +kernel⟩
  have nd := S0.nd
  refine F.ok S0 (fun vs H Q E h => ?_) (fun cdv A outer s H vs Q E hr h => ?_)
  · obtain ⟨x, rfl, _⟩ := h
    rfl
  · obtain ⟨x, rfl, hx, kk⟩ := h
    have neq : ∀ {x y : Str}, x ≠ y → decide (V.str x = V.str y) = false := fun {x y} h => decide_eq_false fun z => h (V.str.inj z)
    refine ⟨_, (pss_cons (ps_asg (pe_tup (pa_cons (pe_tup (pa_cons (pe_tup (pa_cons pe_str (pa_cons (pe_tup (pa_cons pe_str (pa_cons (pe_tup (pa_cons pe_str pa_nil)) pa_nil))) (pa_cons (pe_tup (pa_cons (pe_tup (pa_cons pe_str pa_nil)) pa_nil)) (pa_cons (pe_tup pa_nil) pa_nil))))) pa_nil)) (pa_cons (pe_tup (pa_cons pe_str (pa_cons pe_str pa_nil))) pa_nil))) (pg_tup rfl (pgs_cons (pg_name (i := 1) nd rfl (Or.inl rfl)) (pgs_cons (pg_name (i := 2) nd rfl (Or.inl rfl)) pgs_nil))))
        (pss_cons (ps_set (i := 3) nd rfl (Or.inl rfl) (pe_tup (pa_cons pe_str (pa_cons (pe_tup (pa_cons pe_str (pa_cons (pe_tup (pa_cons pe_str pa_nil)) (pa_cons (pe_tup (pa_cons pe_str pa_nil)) pa_nil)))) (pa_cons (pe_tup (pa_cons pe_str (pa_cons (pe_tup (pa_cons pe_str (pa_cons pe_int pa_nil))) pa_nil))) pa_nil)))))
        (pss_cons (ps_set (i := 4) nd rfl (Or.inl rfl) (pe_tup (pa_cons pe_str (pa_cons (pe_tup (pa_cons pe_str (pa_cons (pe_tup (pa_cons pe_str (pa_cons (pe_tup (pa_cons pe_str pa_nil)) pa_nil))) (pa_cons (pe_tup (pa_cons pe_str (pa_cons (pe_tup (pa_cons pe_str pa_nil)) pa_nil))) pa_nil)))) (pa_cons (pe_tup (pa_cons (pv 2) pa_nil)) (pa_cons (pe_tup pa_nil) pa_nil))))))
        (pss_cons (ps_set (i := 5) nd rfl (Or.inl rfl) (pe_tup (pa_cons pe_str (pa_cons (pe_tup (pa_cons pe_str pa_nil)) (pa_cons (pe_tup (pa_cons (pe_tup (pa_cons pe_str pa_nil)) pa_nil)) (pa_cons (pe_tup pa_nil) pa_nil))))))
        (pss_cons (ps_set (i := 6) nd rfl (Or.inl rfl) (pe_tup (pa_cons pe_str (pa_cons (pe_tup (pa_cons pe_str pa_nil)) (pa_cons (pe_tup (pa_cons pe_str (pa_cons (pe_tup (pa_cons pe_str (pa_cons pe_int pa_nil))) pa_nil))) pa_nil)))))
        (pss_cons (ps_set (i := 7) nd rfl (Or.inl rfl) (pe_tup (pa_cons (pv 4) (pa_cons (pe_tup (pa_cons pe_str pa_nil)) (pa_cons (pe_tup (pa_cons pe_str (pa_cons (pv 6) (pa_cons (pe_tup (pa_cons (pe_tup (pa_cons pe_str (pa_cons pe_str pa_nil))) pa_nil)) (pa_cons (pe_tup pa_nil) pa_nil))))) pa_nil)))))
        (pss_cons (ps_set (i := 8) nd rfl (Or.inl rfl) (pe_tup (pa_cons pe_str (pa_cons (pe_tup (pa_cons pe_str (pa_cons (pe_tup (pa_cons pe_str (pa_cons (pe_tup (pa_cons pe_str pa_nil)) (pa_cons (pe_tup (pa_cons pe_str pa_nil)) pa_nil)))) (pa_cons (pe_tup (pa_cons pe_str (pa_cons (pe_tup (pa_cons pe_str (pa_cons pe_int pa_nil))) pa_nil))) pa_nil)))) (pa_cons (pe_tup (pa_cons (pe_tup (pa_cons pe_str pa_nil)) pa_nil)) (pa_cons (pe_tup pa_nil) pa_nil))))))
        (pss_cons (ps_if (pt_cmpR op_eq (pv 0) pe_str (nomark _)) (pss_one (ps_ret (pe_tup (pa_cons (pv 1) (pa_cons (pe_tup (pa_cons (pe_tup (pa_cons pe_str (pa_cons (pe_tup (pa_cons pe_str pa_nil)) (pa_cons (pe_tup (pa_cons (pv 2) pa_nil)) (pa_cons (pe_tup pa_nil) pa_nil))))) (pa_cons (pe_tup (pa_cons pe_str pa_nil)) (pa_cons (pe_tup (pa_cons pe_str (pa_cons pe_str pa_nil))) pa_nil)))) (pa_cons (pe_tup pa_nil) pa_nil)))))) pss_nil)
        (pss_cons (ps_if (pt_cmpR op_eq (pv 0) pe_str (nomark _)) (pss_one (ps_ret (pe_tup (pa_cons (pe_tup pa_nil) (pa_cons (pv 7) (pa_cons (pe_tup (pa_cons (pe_tup (pa_cons pe_str pa_nil)) (pa_cons (pe_tup (pa_cons pe_str (pa_cons (pv 3) (pa_cons (pe_tup (pa_cons (pe_tup (pa_cons pe_str (pa_cons pe_str pa_nil))) pa_nil)) (pa_cons (pe_tup pa_nil) pa_nil))))) pa_nil))) pa_nil)))))) pss_nil)
        (pss_cons (ps_if (pt_cmpR op_eq (pv 0) pe_str (nomark _)) (pss_one (ps_ret (pe_tup (pa_cons (pe_tup (pa_cons (pv 8) pa_nil)) (pa_cons (pe_op op_catA (pv 7) (pe_tup (pa_cons (pe_tup (pa_cons pe_str (pa_cons pe_str (pa_cons pe_str pa_nil)))) pa_nil))) (pa_cons (pe_tup pa_nil) pa_nil)))))) pss_nil)
        (pss_cons (ps_if (pt_cmpR op_eq (pv 0) pe_str (nomark _)) (pss_one (ps_ret (pe_tup (pa_cons (pe_tup (pa_cons (pv 5) pa_nil)) (pa_cons (pe_tup (pa_cons (pv 5) (pa_cons (pe_tup (pa_cons pe_str (pa_cons pe_str pa_nil))) pa_nil))) (pa_cons (pe_tup pa_nil) pa_nil)))))) pss_nil)
        (pss_cons (ps_set (i := 9) nd rfl (Or.inl rfl) (pe_tup (pa_cons pe_str (pa_cons (pe_tup (pa_cons pe_str (pa_cons (pe_tup (pa_cons pe_str pa_nil)) (pa_cons (pe_tup (pa_cons pe_str (pa_cons (pe_tup (pa_cons pe_str pa_nil)) pa_nil))) pa_nil)))) (pa_cons (pe_tup (pa_cons pe_str (pa_cons pe_int pa_nil))) pa_nil)))))
        (pss_cons (ps_if (pt_cmpR op_eq (pv 0) pe_str (nomark _)) (pss_cons (ps_set (i := 10) nd rfl (Or.inl rfl) (pe_tup (pa_cons pe_str (pa_cons (pe_tup (pa_cons pe_str (pa_cons (pe_tup (pa_cons pe_str pa_nil)) pa_nil))) (pa_cons (pe_tup (pa_cons (pv 2) pa_nil)) (pa_cons (pe_tup pa_nil) pa_nil))))))
        (pss_one (ps_ret (pe_tup (pa_cons (pe_tup pa_nil) (pa_cons (pe_tup (pa_cons (pv 10) (pa_cons (pe_tup (pa_cons pe_str (pa_cons (pv 9) (pa_cons (pe_tup (pa_cons (pv 2) pa_nil)) (pa_cons (pe_tup pa_nil) pa_nil))))) (pa_cons (pe_tup (pa_cons pe_str (pa_cons pe_str pa_nil))) pa_nil)))) (pa_cons (pe_tup pa_nil) pa_nil))))))) pss_nil)
        (pss_one (ps_ret (pe_tup (pa_cons (pe_tup pa_nil) (pa_cons (pe_tup (pa_cons (pe_tup (pa_cons pe_str (pa_cons (pe_tup (pa_cons pe_str (pa_cons (pe_tup (pa_cons pe_str pa_nil)) (pa_cons (pe_tup (pa_cons pe_str pa_nil)) pa_nil)))) (pa_cons (pe_tup (pa_cons (pe_tup (pa_cons pe_str (pa_cons pe_str pa_nil))) pa_nil)) (pa_cons (pe_tup (pa_cons (pv 2) pa_nil)) pa_nil))))) pa_nil)) (pa_cons (pe_tup pa_nil) pa_nil))))))))))))))))))), ?_⟩
    refine Al.asg (K := K) (H0 := H) (d := .tuple [.tuple [.tuple [.str "if", .tuple [.str "not", .tuple [.str "next"]], .tuple [.tuple [.str "make"]], .tuple []]], .tuple [.str "return", .str "no"]]) (al_tup (al_cons (al_tup (al_cons (al_tup (al_cons al_str (al_cons (al_tup (al_cons al_str (al_cons (al_tup (al_cons al_str al_nil) (by decide)) al_nil)) (by decide)) (al_cons (al_tup (al_cons (al_tup (al_cons al_str al_nil) (by decide)) al_nil) (by decide)) (al_cons (al_tup al_nil (by decide)) al_nil)))) (by decide)) al_nil) (by decide)) (al_cons (al_tup (al_cons al_str (al_cons al_str al_nil)) (by decide)) al_nil)) (by decide)) (Same.refl _) fun G2 vv s0 hh => ?_
    obtain ⟨pv, xs, rfl, hpv, hxs⟩ : ∃ (pv : Addr) (xs : List V), vv = .ref pv ∧ G2 pv = some (.tup xs) ∧ DeAll K G2 xs [.tuple [.tuple [.str "if", .tuple [.str "not", .tuple [.str "next"]], .tuple [.tuple [.str "make"]], .tuple []]], .tuple [.str "return", .str "no"]] := by
      cases hh with
      | tup a b => exact ⟨_, _, rfl, a, b⟩
    cases hxs with
    | @cons v1 _ _ _ h1 hxs =>
    cases hxs with
    | @cons v2 _ _ _ h2 hxs =>
    cases hxs
    refine ⟨pv, _, rfl, .inl (.inl hpv), rfl, _, _, rfl, _, _, rfl, rfl, ?_⟩
    refine Al.set (K := K) (H0 := G2) (d := .tuple [.str "or", .tuple [.str "or", .tuple [.str "root"], .tuple [.str "mark"]], .tuple [.str "not", .tuple [.str "others", .int 0]]]) (al_tup (al_cons al_str (al_cons (al_tup (al_cons al_str (al_cons (al_tup (al_cons al_str al_nil) (by decide)) (al_cons (al_tup (al_cons al_str al_nil) (by decide)) al_nil))) (by decide)) (al_cons (al_tup (al_cons al_str (al_cons (al_tup (al_cons al_str (al_cons al_int al_nil)) (by decide)) al_nil)) (by decide)) al_nil))) (by decide)) (Same.refl _) fun G3 v3 s3 h3 => ?_
    have h1 := de_mono s3 _ _ h1
    have h2 := de_mono s3 _ _ h2
    have s0 := s0.trans s3
    refine Al.set (K := K) (H0 := G3) (d := .tuple [.str "if", .tuple [.str "or", .tuple [.str "not", .tuple [.str "ends"]], .tuple [.str "not", .tuple [.str "mark"]]], .tuple [.tuple [.str "return", .str "no"]], .tuple []]) (al_tup (al_cons al_str (al_cons (al_tup (al_cons al_str (al_cons (al_tup (al_cons al_str (al_cons (al_tup (al_cons al_str al_nil) (by decide)) al_nil)) (by decide)) (al_cons (al_tup (al_cons al_str (al_cons (al_tup (al_cons al_str al_nil) (by decide)) al_nil)) (by decide)) al_nil))) (by decide)) (al_cons (al_tup (al_cons (al_var (i := 2) rfl h2) al_nil) (by decide)) (al_cons (al_tup al_nil (by decide)) al_nil)))) (by decide)) (Same.refl _) fun G4 v4 s4 h4 => ?_
    have h1 := de_mono s4 _ _ h1
    have h2 := de_mono s4 _ _ h2
    have h3 := de_mono s4 _ _ h3
    have s0 := s0.trans s4
    refine Al.set (K := K) (H0 := G4) (d := .tuple [.str "if", .tuple [.str "mark"], .tuple [.tuple [.str "keep"]], .tuple []]) (al_tup (al_cons al_str (al_cons (al_tup (al_cons al_str al_nil) (by decide)) (al_cons (al_tup (al_cons (al_tup (al_cons al_str al_nil) (by decide)) al_nil) (by decide)) (al_cons (al_tup al_nil (by decide)) al_nil)))) (by decide)) (Same.refl _) fun G5 v5 s5 h5 => ?_
    have h1 := de_mono s5 _ _ h1
    have h2 := de_mono s5 _ _ h2
    have h3 := de_mono s5 _ _ h3
    have h4 := de_mono s5 _ _ h4
    have s0 := s0.trans s5
    refine Al.set (K := K) (H0 := G5) (d := .tuple [.str "or", .tuple [.str "root"], .tuple [.str "not", .tuple [.str "others", .int 0]]]) (al_tup (al_cons al_str (al_cons (al_tup (al_cons al_str al_nil) (by decide)) (al_cons (al_tup (al_cons al_str (al_cons (al_tup (al_cons al_str (al_cons al_int al_nil)) (by decide)) al_nil)) (by decide)) al_nil))) (by decide)) (Same.refl _) fun G6 v6 s6 h6 => ?_
    have h1 := de_mono s6 _ _ h1
    have h2 := de_mono s6 _ _ h2
    have h3 := de_mono s6 _ _ h3
    have h4 := de_mono s6 _ _ h4
    have h5 := de_mono s6 _ _ h5
    have s0 := s0.trans s6
    refine Al.set (K := K) (H0 := G6) (d := .tuple [.tuple [.str "if", .tuple [.str "or", .tuple [.str "not", .tuple [.str "ends"]], .tuple [.str "not", .tuple [.str "mark"]]], .tuple [.tuple [.str "return", .str "no"]], .tuple []], .tuple [.str "unmark"], .tuple [.str "if", .tuple [.str "or", .tuple [.str "root"], .tuple [.str "not", .tuple [.str "others", .int 0]]], .tuple [.tuple [.str "return", .str "yes"]], .tuple []]]) (al_tup (al_cons (al_var (i := 4) rfl h4) (al_cons (al_tup (al_cons al_str al_nil) (by decide)) (al_cons (al_tup (al_cons al_str (al_cons (al_var (i := 6) rfl h6) (al_cons (al_tup (al_cons (al_tup (al_cons al_str (al_cons al_str al_nil)) (by decide)) al_nil) (by decide)) (al_cons (al_tup al_nil (by decide)) al_nil)))) (by decide)) al_nil))) (by decide)) (Same.refl _) fun G7 v7 s7 h7 => ?_
    have h1 := de_mono s7 _ _ h1
    have h2 := de_mono s7 _ _ h2
    have h3 := de_mono s7 _ _ h3
    have h4 := de_mono s7 _ _ h4
    have h5 := de_mono s7 _ _ h5
    have h6 := de_mono s7 _ _ h6
    have s0 := s0.trans s7
    refine Al.set (K := K) (H0 := G7) (d := .tuple [.str "if", .tuple [.str "or", .tuple [.str "or", .tuple [.str "root"], .tuple [.str "mark"]], .tuple [.str "not", .tuple [.str "others", .int 0]]], .tuple [.tuple [.str "keep"]], .tuple []]) (al_tup (al_cons al_str (al_cons (al_tup (al_cons al_str (al_cons (al_tup (al_cons al_str (al_cons (al_tup (al_cons al_str al_nil) (by decide)) (al_cons (al_tup (al_cons al_str al_nil) (by decide)) al_nil))) (by decide)) (al_cons (al_tup (al_cons al_str (al_cons (al_tup (al_cons al_str (al_cons al_int al_nil)) (by decide)) al_nil)) (by decide)) al_nil))) (by decide)) (al_cons (al_tup (al_cons (al_tup (al_cons al_str al_nil) (by decide)) al_nil) (by decide)) (al_cons (al_tup al_nil (by decide)) al_nil)))) (by decide)) (Same.refl _) fun G8 v8 s8 h8 => ?_
    have h1 := de_mono s8 _ _ h1
    have h2 := de_mono s8 _ _ h2
    have h3 := de_mono s8 _ _ h3
    have h4 := de_mono s8 _ _ h4
    have h5 := de_mono s8 _ _ h5
    have h6 := de_mono s8 _ _ h6
    have h7 := de_mono s8 _ _ h7
    have s0 := s0.trans s8
    simp only [known6, List.mem_cons, List.mem_nil_iff, or_false] at hx
    rcases hx with rfl | rfl | rfl | rfl | rfl | rfl
    · refine ⟨V.str _, rfl, rfl, _, rfl, ?_⟩
      rw [neq (by decide)]
      refine iteF ?_
      refine ⟨V.str _, rfl, rfl, _, rfl, ?_⟩
      rw [neq (by decide)]
      refine iteF ?_
      refine ⟨V.str _, rfl, rfl, _, rfl, ?_⟩
      rw [neq (by decide)]
      refine iteF ?_
      refine ⟨V.str _, rfl, rfl, _, rfl, ?_⟩
      rw [neq (by decide)]
      refine iteF ?_
      refine Al.set (K := K) (H0 := G8) (d := .tuple [.str "and", .tuple [.str "and", .tuple [.str "root"], .tuple [.str "not", .tuple [.str "mark"]]], .tuple [.str "others", .int 0]]) (al_tup (al_cons al_str (al_cons (al_tup (al_cons al_str (al_cons (al_tup (al_cons al_str al_nil) (by decide)) (al_cons (al_tup (al_cons al_str (al_cons (al_tup (al_cons al_str al_nil) (by decide)) al_nil)) (by decide)) al_nil))) (by decide)) (al_cons (al_tup (al_cons al_str (al_cons al_int al_nil)) (by decide)) al_nil))) (by decide)) (Same.refl _) fun G9 v9 s9 h9 => ?_
      have h1 := de_mono s9 _ _ h1
      have h2 := de_mono s9 _ _ h2
      have h3 := de_mono s9 _ _ h3
      have h4 := de_mono s9 _ _ h4
      have h5 := de_mono s9 _ _ h5
      have h6 := de_mono s9 _ _ h6
      have h7 := de_mono s9 _ _ h7
      have h8 := de_mono s9 _ _ h8
      have s0 := s0.trans s9
      refine ⟨V.str _, rfl, rfl, _, rfl, ?_⟩
      rw [neq (by decide)]
      refine iteF ?_
      exact Al.ret1 (d := .tuple [.tuple [], .tuple [.tuple [.str "if", .tuple [.str "and", .tuple [.str "ends"], .tuple [.str "mark"]], .tuple [.tuple [.str "return", .str "yes"]], .tuple [.tuple [.str "return", .str "no"]]]], .tuple []]) (K := K) (H0 := G9) (al_tup (al_cons (al_tup al_nil (by decide)) (al_cons (al_tup (al_cons (al_tup (al_cons al_str (al_cons (al_tup (al_cons al_str (al_cons (al_tup (al_cons al_str al_nil) (by decide)) (al_cons (al_tup (al_cons al_str al_nil) (by decide)) al_nil))) (by decide)) (al_cons (al_tup (al_cons (al_tup (al_cons al_str (al_cons al_str al_nil)) (by decide)) al_nil) (by decide)) (al_cons (al_tup (al_cons (al_var (i := 2) rfl h2) al_nil) (by decide)) al_nil)))) (by decide)) al_nil) (by decide)) (al_cons (al_tup al_nil (by decide)) al_nil))) (by decide)) (Same.refl _) fun Gz vz sz hz => kk Gz vz _ _ _ (s0.trans sz) hz kn_has
    · refine ⟨V.str _, rfl, rfl, _, rfl, ?_⟩
      refine iteT ?_
      exact Al.ret1 (d := .tuple [.tuple [.tuple [.str "if", .tuple [.str "not", .tuple [.str "next"]], .tuple [.tuple [.str "make"]], .tuple []]], .tuple [.tuple [.str "if", .tuple [.str "mark"], .tuple [.tuple [.str "return", .str "no"]], .tuple []], .tuple [.str "mark"], .tuple [.str "return", .str "yes"]], .tuple []]) (K := K) (H0 := G8) (al_tup (al_cons (al_var (i := 1) rfl h1) (al_cons (al_tup (al_cons (al_tup (al_cons al_str (al_cons (al_tup (al_cons al_str al_nil) (by decide)) (al_cons (al_tup (al_cons (al_var (i := 2) rfl h2) al_nil) (by decide)) (al_cons (al_tup al_nil (by decide)) al_nil)))) (by decide)) (al_cons (al_tup (al_cons al_str al_nil) (by decide)) (al_cons (al_tup (al_cons al_str (al_cons al_str al_nil)) (by decide)) al_nil))) (by decide)) (al_cons (al_tup al_nil (by decide)) al_nil))) (by decide)) (Same.refl _) fun Gz vz sz hz => kk Gz vz _ _ _ (s0.trans sz) hz kn_put
    · refine ⟨V.str _, rfl, rfl, _, rfl, ?_⟩
      rw [neq (by decide)]
      refine iteF ?_
      refine ⟨V.str _, rfl, rfl, _, rfl, ?_⟩
      refine iteT ?_
      exact Al.ret1 (d := .tuple [.tuple [], .tuple [.tuple [.str "if", .tuple [.str "or", .tuple [.str "not", .tuple [.str "ends"]], .tuple [.str "not", .tuple [.str "mark"]]], .tuple [.tuple [.str "return", .str "no"]], .tuple []], .tuple [.str "unmark"], .tuple [.str "if", .tuple [.str "or", .tuple [.str "root"], .tuple [.str "not", .tuple [.str "others", .int 0]]], .tuple [.tuple [.str "return", .str "yes"]], .tuple []]], .tuple [.tuple [.str "cut"], .tuple [.str "if", .tuple [.str "or", .tuple [.str "or", .tuple [.str "root"], .tuple [.str "mark"]], .tuple [.str "not", .tuple [.str "others", .int 0]]], .tuple [.tuple [.str "return", .str "yes"]], .tuple []]]]) (K := K) (H0 := G8) (al_tup (al_cons (al_tup al_nil (by decide)) (al_cons (al_var (i := 7) rfl h7) (al_cons (al_tup (al_cons (al_tup (al_cons al_str al_nil) (by decide)) (al_cons (al_tup (al_cons al_str (al_cons (al_var (i := 3) rfl h3) (al_cons (al_tup (al_cons (al_tup (al_cons al_str (al_cons al_str al_nil)) (by decide)) al_nil) (by decide)) (al_cons (al_tup al_nil (by decide)) al_nil)))) (by decide)) al_nil)) (by decide)) al_nil))) (by decide)) (Same.refl _) fun Gz vz sz hz => kk Gz vz _ _ _ (s0.trans sz) hz kn_strike
    · refine ⟨V.str _, rfl, rfl, _, rfl, ?_⟩
      rw [neq (by decide)]
      refine iteF ?_
      refine ⟨V.str _, rfl, rfl, _, rfl, ?_⟩
      rw [neq (by decide)]
      refine iteF ?_
      refine ⟨V.str _, rfl, rfl, _, rfl, ?_⟩
      refine iteT ?_
      exact Al.ret1 (d := .tuple [.tuple [.tuple [.str "if", .tuple [.str "or", .tuple [.str "or", .tuple [.str "root"], .tuple [.str "mark"]], .tuple [.str "not", .tuple [.str "others", .int 0]]], .tuple [.tuple [.str "keep"]], .tuple []]], .tuple [.tuple [.str "if", .tuple [.str "or", .tuple [.str "not", .tuple [.str "ends"]], .tuple [.str "not", .tuple [.str "mark"]]], .tuple [.tuple [.str "return", .str "no"]], .tuple []], .tuple [.str "unmark"], .tuple [.str "if", .tuple [.str "or", .tuple [.str "root"], .tuple [.str "not", .tuple [.str "others", .int 0]]], .tuple [.tuple [.str "return", .str "yes"]], .tuple []], .tuple [.str "return", .str "yes", .str "cut"]], .tuple []]) (K := K) (H0 := G8) (al_tup (al_cons (al_tup (al_cons (al_var (i := 8) rfl h8) al_nil) (by decide)) (al_cons (al_catT (al_var (i := 7) rfl h7) (al_tup (al_cons (al_tup (al_cons al_str (al_cons al_str (al_cons al_str al_nil))) (by decide)) al_nil) (by decide)) (by decide)) (al_cons (al_tup al_nil (by decide)) al_nil))) (by decide)) (Same.refl _) fun Gz vz sz hz => kk Gz vz _ _ _ (s0.trans sz) hz kn_strike_kept
    · refine ⟨V.str _, rfl, rfl, _, rfl, ?_⟩
      rw [neq (by decide)]
      refine iteF ?_
      refine ⟨V.str _, rfl, rfl, _, rfl, ?_⟩
      rw [neq (by decide)]
      refine iteF ?_
      refine ⟨V.str _, rfl, rfl, _, rfl, ?_⟩
      rw [neq (by decide)]
      refine iteF ?_
      refine ⟨V.str _, rfl, rfl, _, rfl, ?_⟩
      refine iteT ?_
      exact Al.ret1 (d := .tuple [.tuple [.tuple [.str "if", .tuple [.str "mark"], .tuple [.tuple [.str "keep"]], .tuple []]], .tuple [.tuple [.str "if", .tuple [.str "mark"], .tuple [.tuple [.str "keep"]], .tuple []], .tuple [.str "return", .str "p"]], .tuple []]) (K := K) (H0 := G8) (al_tup (al_cons (al_tup (al_cons (al_var (i := 5) rfl h5) al_nil) (by decide)) (al_cons (al_tup (al_cons (al_var (i := 5) rfl h5) (al_cons (al_tup (al_cons al_str (al_cons al_str al_nil)) (by decide)) al_nil)) (by decide)) (al_cons (al_tup al_nil (by decide)) al_nil))) (by decide)) (Same.refl _) fun Gz vz sz hz => kk Gz vz _ _ _ (s0.trans sz) hz kn_longest
    · refine ⟨V.str _, rfl, rfl, _, rfl, ?_⟩
      rw [neq (by decide)]
      refine iteF ?_
      refine ⟨V.str _, rfl, rfl, _, rfl, ?_⟩
      rw [neq (by decide)]
      refine iteF ?_
      refine ⟨V.str _, rfl, rfl, _, rfl, ?_⟩
      rw [neq (by decide)]
      refine iteF ?_
      refine ⟨V.str _, rfl, rfl, _, rfl, ?_⟩
      rw [neq (by decide)]
      refine iteF ?_
      refine Al.set (K := K) (H0 := G8) (d := .tuple [.str "and", .tuple [.str "and", .tuple [.str "root"], .tuple [.str "not", .tuple [.str "mark"]]], .tuple [.str "others", .int 0]]) (al_tup (al_cons al_str (al_cons (al_tup (al_cons al_str (al_cons (al_tup (al_cons al_str al_nil) (by decide)) (al_cons (al_tup (al_cons al_str (al_cons (al_tup (al_cons al_str al_nil) (by decide)) al_nil)) (by decide)) al_nil))) (by decide)) (al_cons (al_tup (al_cons al_str (al_cons al_int al_nil)) (by decide)) al_nil))) (by decide)) (Same.refl _) fun G9 v9 s9 h9 => ?_
      have h1 := de_mono s9 _ _ h1
      have h2 := de_mono s9 _ _ h2
      have h3 := de_mono s9 _ _ h3
      have h4 := de_mono s9 _ _ h4
      have h5 := de_mono s9 _ _ h5
      have h6 := de_mono s9 _ _ h6
      have h7 := de_mono s9 _ _ h7
      have h8 := de_mono s9 _ _ h8
      have s0 := s0.trans s9
      refine ⟨V.str _, rfl, rfl, _, rfl, ?_⟩
      refine iteT ?_
      refine Al.set (K := K) (H0 := G9) (d := .tuple [.str "if", .tuple [.str "not", .tuple [.str "ends"]], .tuple [.tuple [.str "return", .str "no"]], .tuple []]) (al_tup (al_cons al_str (al_cons (al_tup (al_cons al_str (al_cons (al_tup (al_cons al_str al_nil) (by decide)) al_nil)) (by decide)) (al_cons (al_tup (al_cons (al_var (i := 2) rfl h2) al_nil) (by decide)) (al_cons (al_tup al_nil (by decide)) al_nil)))) (by decide)) (Same.refl _) fun G10 v10 s10 h10 => ?_
      have h1 := de_mono s10 _ _ h1
      have h2 := de_mono s10 _ _ h2
      have h3 := de_mono s10 _ _ h3
      have h4 := de_mono s10 _ _ h4
      have h5 := de_mono s10 _ _ h5
      have h6 := de_mono s10 _ _ h6
      have h7 := de_mono s10 _ _ h7
      have h8 := de_mono s10 _ _ h8
      have h9 := de_mono s10 _ _ h9
      have s0 := s0.trans s10
      exact Al.ret1 (d := .tuple [.tuple [], .tuple [.tuple [.str "if", .tuple [.str "not", .tuple [.str "ends"]], .tuple [.tuple [.str "return", .str "no"]], .tuple []], .tuple [.str "if", .tuple [.str "and", .tuple [.str "and", .tuple [.str "root"], .tuple [.str "not", .tuple [.str "mark"]]], .tuple [.str "others", .int 0]], .tuple [.tuple [.str "return", .str "no"]], .tuple []], .tuple [.str "return", .str "yes"]], .tuple []]) (K := K) (H0 := G10) (al_tup (al_cons (al_tup al_nil (by decide)) (al_cons (al_tup (al_cons (al_var (i := 10) rfl h10) (al_cons (al_tup (al_cons al_str (al_cons (al_var (i := 9) rfl h9) (al_cons (al_tup (al_cons (al_var (i := 2) rfl h2) al_nil) (by decide)) (al_cons (al_tup al_nil (by decide)) al_nil)))) (by decide)) (al_cons (al_tup (al_cons al_str (al_cons al_str al_nil)) (by decide)) al_nil))) (by decide)) (al_cons (al_tup al_nil (by decide)) al_nil))) (by decide)) (Same.refl _) fun Gz vz sz hz => kk Gz vz _ _ _ (s0.trans sz) hz kn_begins
end
end SK
namespace SK
open PySem PySem.Spec PyProof.Rows L2 LamX NdefX
open K0 (De DeAll XCl spX withX)
/-! ### the law's size of a block -/
def spSz (K : PySem.W.Frag) (n : Nat) : Sp := fun vs H Q _ => ∃ (v : V) (d : PyData) (blk : Str) (m k : Nat) (l : List Str), vs = [v] ∧ De K H v d ∧ fz d = d ∧ isTL d = true ∧ StL blk m (elems d) k l ∧ m < n ∧ k ≤ 1000 ∧ ∀ H', Same H H' → Q (.int (k : Nat)) H'
section
variable {P : Program} {w : World} {K : PySem.W.Frag} {mg : Str → Option Value} {base : Heap} {f : Addr} {fd : FuncData}
abbrev NSz : List Str := ["block", "one"]
theorem ok_sz (F : Fun K "_law_size" "_law_size" (top 59) f fd) (gN : mg "len" = none) (gSu : mg "sum" = none) (gS : mg "_law_size" = some (.ref f)) (bS : Binds K fd ["block"] []) : ∀ n : Nat, FnOk P w K mg base CX0 (n + 1) f fd ["block"] (spSz K n) := by
  have S0 : FnScope NSz ["block"] (defScope (top 59)) := ⟨rfl, rfl, rfl, by decide +kernel, rfl, by decide +kernel, by decide +kernel⟩
  have nd := S0.nd
  have kS := F.kp
  intro n
  induction n with
  | zero =>
    refine F.ok S0 (fun vs H Q E h => ?_) (fun cdv A outer s H vs Q E hr h => ?_)
    · obtain ⟨v, d, blk, m, k, l, rfl, _⟩ := h
      rfl
    · obtain ⟨v, d, blk, m, k, l, rfl, _, _, _, _, hm, _⟩ := h
      omega
  | succ n GS =>
  refine F.ok S0 (fun vs H Q E h => ?_) (fun cdv A outer s H vs Q E hr h => ?_)
  · obtain ⟨v, d, blk, m, k, l, rfl, _⟩ := h
    rfl
  · obtain ⟨v, d, blk, m, k, l, rfl, hd, hf, ht, hs, hm, hk, kk⟩ := h
    refine ⟨_, (pss_one (ps_ret (pe_op op_add (pe_callB call_len_seq (by rfl) gN PySem.boot_len (pa_cons (pv 0) pa_nil)) (pe_callB (cr_sum rfl) (by rfl) gSu PyProof.Rows.boot_sum (pa_cons (pe_lc (own := [("one", 1)]) (g := gName 1) rfl nd (pi_tup (pv 0)) (blkOk_by (N := NSz) (sc := defScope (top 59)) (by decide +kernel)) (fun _ _ _ _ _ => pg_name (i := 1) nd rfl (Or.inl rfl)) (fun _ _ _ _ _ => (pts_one (pt_cmpR op_eq (pe_ix (r := rIx K) ix_seq (pv 1) pe_int (fun _ _ => rfl)) pe_str (nomark _)))) (fun _ _ _ _ _ => (pe_op op_add (pe_call GS hr (by rfl) gS kS bS .nil pass0 (pa_cons (pe_ix (r := rIx K) ix_seq (pv 1) pe_int (fun _ _ => rfl)) pa_nil)) (pe_call GS hr (by rfl) gS kS bS .nil pass0 (pa_cons (pe_ix (r := rIx K) ix_seq (pv 1) pe_int (fun _ _ => rfl)) pa_nil))))) pa_nil))))), ?_⟩
    obtain ⟨p, xs, rfl, hp, hds⟩ := fz_tup hd hf ht
    obtain ⟨_, hfe⟩ := fz_fix hf ht
    generalize elems d = ds at hs hds hfe
    have hxl := deAll_len hds
    have hsl := hs.len
    have b5 : (5000 : Nat) < sizeLine := by decide
    have neq : ∀ {x y : Str}, x ≠ y → decide (V.str x = V.str y) = false := fun {x y} h => decide_eq_false fun z => h (V.str.inj z)
    refine ⟨V.ref p, rfl, p, xs, rfl, .inr (.inl (.inl hp)), V.ref p, rfl, p, rfl, ⟨xs, .inl (.inl hp)⟩, fun D nD => lc_it (walk_tup (K := K) (xs := xs)) (fun i G => Same H G ∧ ∃ (is : List Int) (kb : Nat) (lb : List Str), G D = some (.lst (is.map V.int)) ∧ is.length ≤ i ∧ StL blk m (ds.drop i) kb lb ∧ 0 ≤ is.sum ∧ is.sum + (i : Int) + (kb : Int) = (k : Int)) ⟨upd_new nD, [], k, l, upd_same, Nat.le_refl _, hs, by simp, by simp⟩ (fun i G _ q => .inl (.inl (q.1 _ _ hp))) ?_ ?_⟩
    · rintro i x G G' hi ⟨sG, is, kb, lb, hD, hil, hst, hsn, hsum⟩ ⟨rfl, hx⟩
      obtain ⟨e, he, hde⟩ := deAll_at hds hx
      have hlt : i < ds.length := by omega
      have ed : ds.drop i = e :: ds.drop (i + 1) := by
        rw [List.drop_eq_getElem_cons hlt]
        rw [List.getElem?_eq_getElem hlt] at he
        rw [Option.some.inj he]
      rw [ed] at hst
      have hem := hfe e (List.mem_of_getElem? he)
      cases hst with
      | @cons _ _ _ ka kc l1 l2 ha hc =>
      obtain ⟨q, us, rfl, hq, hus⟩ := fz_tup (de_mono sG _ _ hde) hem ha.tl
      obtain ⟨_, hfu⟩ := fz_fix hem ha.tl
      have ixF : ∀ {H' : Hp} (j : Nat) (v' : V) (R : VK), Same G' H' → us[j]? = some v' → R v' H' → rIx K (.ref q) (.int (j : Nat)) H' R := fun {H'} j v' R s hj hR => .inr (.inl ⟨q, us, (j : Int), v', rfl, rfl, .inl (.inl (s _ _ hq)), atI_nat hj, hR⟩)
      have s0 := Same.refl G'
      have skip : ∀ {x : Str} {ur : List V}, us = .str x :: ur → x ≠ Str.ofString "if" → ka = 1 → decide (V.str x = V.str (Str.ofString "if")) = false ∧ (Same H G' ∧ ∃ (is : List Int) (kb : Nat) (lb : List Str), G' D = some (.lst (is.map V.int)) ∧ is.length ≤ i + 1 ∧ StL blk m (ds.drop (i + 1)) kb lb ∧ 0 ≤ is.sum ∧ is.sum + ((i + 1 : Nat) : Int) + (kb : Int) = (k : Int)) := fun {x ur} e1 e2 e3 => ⟨neq e2, sG, is, kc, l2, hD, by omega, hc, hsn, by omega⟩
      cases ha with
      | @one _ _ x ht he hx =>
        rw [he] at hus
        cases hus with
        | @cons u1 _ _ _ d1 hus =>
        cases d1
        obtain ⟨n1, _⟩ := letK_ne x (letK_of hx)
        obtain ⟨e1, e2⟩ := skip rfl n1 rfl
        refine ⟨rfl, V.ref q, rfl, ixF 0 _ _ s0 rfl ⟨rfl, _, rfl, ?_⟩⟩
        rw [e1]
        exact iteF e2
      | @set _ _ x b ht he hx =>
        rw [he] at hus
        cases hus with
        | @cons u1 _ _ _ d1 hus =>
        cases d1
        obtain ⟨e1, e2⟩ := skip rfl (by decide) rfl
        refine ⟨rfl, V.ref q, rfl, ixF 0 _ _ s0 rfl ⟨rfl, _, rfl, ?_⟩⟩
        rw [e1]
        exact iteF e2
      | @ret _ _ a ht he hx =>
        rw [he] at hus
        cases hus with
        | @cons u1 _ _ _ d1 hus =>
        cases d1
        obtain ⟨e1, e2⟩ := skip rfl (by decide) rfl
        refine ⟨rfl, V.ref q, rfl, ixF 0 _ _ s0 rfl ⟨rfl, _, rfl, ?_⟩⟩
        rw [e1]
        exact iteF e2
      | @retc _ _ a ht he hx hb =>
        rw [he] at hus
        cases hus with
        | @cons u1 _ _ _ d1 hus =>
        cases d1
        obtain ⟨e1, e2⟩ := skip rfl (by decide) rfl
        refine ⟨rfl, V.ref q, rfl, ixF 0 _ _ s0 rfl ⟨rfl, _, rfl, ?_⟩⟩
        rw [e1]
        exact iteF e2
      | @iff m _ t b1 b2 k1 k2 la lc ht he tt h1 hn h2 g1 g2 =>
        rw [he] at hus hfu
        have f3 := hfu b1 (by simp)
        have f4 := hfu b2 (by simp)
        cases hus with
        | @cons u1 _ _ _ d1 hus =>
        cases d1
        cases hus with
        | @cons u2 _ _ _ d2 hus =>
        cases hus with
        | @cons u3 _ _ _ d3 hus =>
        cases hus with
        | @cons u4 _ _ _ d4 hus =>
        refine ⟨rfl, V.ref q, rfl, ixF 0 _ _ s0 rfl ⟨rfl, _, rfl, iteT ?_⟩⟩
        refine ⟨V.ref q, rfl, ixF 2 u3 _ s0 rfl ⟨u3, b1, blk, m, k1, la, rfl, d3, f3, h1, g1, by omega, by omega, fun G2 s2 => ?_⟩⟩
        refine ⟨V.ref q, rfl, ixF 3 u4 _ s2 rfl ⟨u4, b2, blk, m, k2, lc, rfl, de_mono s2 _ _ d4, f4, h2, g2, by omega, by omega, fun G3 s3 => ?_⟩⟩
        have s23 := s2.trans s3
        refine ⟨_, _, rfl, rfl, _, s23 _ _ hD, by rw [List.length_map]; omega, same_upd nD (sG.trans s23), is ++ [((k1 : Nat) : Int) + ((k2 : Nat) : Int)], kc, l2, by rw [List.map_append]; exact upd_same, by rw [List.length_append]; simp; omega, hc, ?_, ?_⟩
        all_goals
          rw [List.sum_append]
          simp only [List.sum_cons, List.sum_nil]
          omega
    · rintro G ⟨sG, is, kb, lb, hD, hil, hst, hsn, hsum⟩
      rw [List.drop_eq_nil_of_le (by omega)] at hst
      cases hst
      refine ⟨D, is, rfl, .inl (.inl hD), _, _, rfl, rfl, ?_⟩
      have e : ((xs.length : Nat) : Int) + is.sum = ((k : Nat) : Int) := by omega
      dsimp only
      rw [e]
      exact kk G sG
end
/-! ### lists for tuples -/
def isTp : PyData → Bool
  | .tuple _ => true
  | _ => false
theorem ty_tp {K : PySem.W.Frag} {H : Hp} {v : V} {d : PyData} (h : De K H v d) : ∃ T : String, TyX K H v (.type T) ∧ kitB T "tuple" = some (isTp d) := by
  cases h with
  | non => exact ⟨"NoneType", .base .non, by show kitB "NoneType" "tuple" = some false; decide +kernel⟩
  | bl b => exact ⟨"bool", .base (.bl b), by show kitB "bool" "tuple" = some false; decide +kernel⟩
  | int i => exact ⟨"int", .base (.int i), by show kitB "int" "tuple" = some false; decide +kernel⟩
  | str x => exact ⟨"str", .base (.str x), by show kitB "str" "tuple" = some false; decide +kernel⟩
  | lst ha hd => exact ⟨"list", .base (.lst ha), by show kitB "list" "tuple" = some false; decide +kernel⟩
  | tup ha hd => exact ⟨"tuple", .base (.tup ha), by show kitB "tuple" "tuple" = some true; decide +kernel⟩
  | dic ha => exact ⟨"dict", .base (.dK ha), by show kitB "dict" "tuple" = some false; decide +kernel⟩
/-- what is there only now -/
def Nw (H H' : Hp) : Hp := fun a => if H a = none then H' a else none
/-- the same, a place left out -/
def NwD (H : Hp) (D : Addr) (H' : Hp) : Hp := fun a => if H a = none ∧ a ≠ D then H' a else none
theorem nw_at {H H' : Hp} {a : Addr} {o : HO} (h : Nw H H' a = some o) : H a = none ∧ H' a = some o := by
  unfold Nw at h
  by_cases c : H a = none
  · rw [if_pos c] at h
    exact ⟨c, h⟩
  · rw [if_neg c] at h
    cases h
theorem nwD_at {H H' : Hp} {D a : Addr} {o : HO} (h : NwD H D H' a = some o) : H a = none ∧ a ≠ D ∧ H' a = some o := by
  unfold NwD at h
  by_cases c : H a = none ∧ a ≠ D
  · rw [if_pos c] at h
    exact ⟨c.1, c.2, h⟩
  · rw [if_neg c] at h
    cases h
theorem nw_mk {H H' : Hp} {a : Addr} {o : HO} (n : H a = none) (h : H' a = some o) : Nw H H' a = some o := by
  unfold Nw
  rw [if_pos n]
  exact h
theorem nwD_mk {H H' : Hp} {D a : Addr} {o : HO} (n : H a = none) (n2 : a ≠ D) (h : H' a = some o) : NwD H D H' a = some o := by
  unfold NwD
  rw [if_pos ⟨n, n2⟩]
  exact h
theorem nw_old {H H' : Hp} : Same (Nw H H') H' := fun a o h => (nw_at h).2
theorem nw_up {H G G' : Hp} (s : Same G G') : Same (Nw H G) (Nw H G') := fun a o h => by
  obtain ⟨n, e⟩ := nw_at h
  exact nw_mk n (s _ _ e)
theorem canLay_mem : ∀ {ds : List PyData}, PyData.canLayAll0 ds = true → ∀ e ∈ ds, e.canLay0 = true
  | [], _, e, he => by cases he
  | d :: ds, h, e, he => by
    simp only [PyData.canLayAll0, Bool.and_eq_true] at h
    rcases List.mem_cons.mp he with z | z
    · rw [z]
      exact h.1
    · exact canLay_mem h.2 e z
def spAl (K : PySem.W.Frag) (n : Nat) : Sp := fun vs H Q _ => ∃ (v : V) (d : PyData), vs = [v] ∧ De K H v d ∧ fz d = d ∧ lev d < n ∧ (∀ m, hdW m d) ∧ d.canLay0 = true ∧ ∀ (H' : Hp) (u : V), Same H H' → De K (Nw H H') u (lz d) → Q u H'
section
variable {P : Program} {w : World} {K : PySem.W.Frag} {mg : Str → Option Value} {base : Heap} {f : Addr} {fd : FuncData}
abbrev NAl : List Str := ["value", "one"]
theorem ok_al (F : Fun K "_law_as_lists" "_law_as_lists" (top 60) f fd) (gI : mg "isinstance" = none) (gT : mg "tuple" = none) (gS : mg "_law_as_lists" = some (.ref f)) (bS : Binds K fd ["value"] []) : ∀ n : Nat, FnOk P w K mg base CX0 (n + 1) f fd ["value"] (spAl K n) := by
  have S0 : FnScope NAl ["value"] (defScope (top 60)) := ⟨rfl, rfl, rfl, by decide +kernel, rfl, by decide +kernel, by decide +kernel⟩
  have nd := S0.nd
  have kS := F.kp
  intro n
  induction n with
  | zero =>
    refine F.ok S0 (fun vs H Q E h => ?_) (fun cdv A outer s H vs Q E hr h => ?_)
    · obtain ⟨v, d, rfl, _⟩ := h
      rfl
    · obtain ⟨v, d, rfl, _, _, hm, _⟩ := h
      omega
  | succ n GS =>
  refine F.ok S0 (fun vs H Q E h => ?_) (fun cdv A outer s H vs Q E hr h => ?_)
  · obtain ⟨v, d, rfl, _⟩ := h
    rfl
  · obtain ⟨v, d, rfl, hd, hf, hl, hw, hc, kk⟩ := h
    refine ⟨_, (pss_one (ps_ret (pe_ifExp (pt_val (pe_callB (r := rIsi K) call_isi (by rfl) gI PyProof.Rows.boot_isinstance (pa_cons (pv 0) (pa_cons (pe_bltn (v := .ty "tuple") (by rfl) gT PyProof.Rows.boot_tuple rfl) pa_nil)))) (pe_lc (own := [("one", 1)]) (g := gName 1) (tt := tYes) (te := tCall (spAl K n) [] E0 (tCons (tVar 1) tNil)) rfl nd (pi_tup (pv 0)) (blkOk_by (N := NAl) (sc := defScope (top 60)) (by decide +kernel)) (fun _ _ _ _ _ => pg_name (i := 1) nd rfl (Or.inl rfl)) (fun _ _ _ _ _ => pts_nil) (fun _ _ _ _ _ => (pe_call GS hr (by rfl) gS kS bS .nil pass0 (pa_cons (pv 1) pa_nil)))) (pv 0)))), ?_⟩
    obtain ⟨Ty, tx, kt⟩ := ty_tp hd
    refine ⟨v, rfl, v, .ty "tuple", .type Ty, .type "tuple", isTp d, rfl, .ty _, tx, kit_ty kt, _, rfl, ?_⟩
    cases hd with
    | non => exact iteF ⟨_, rfl, kk H _ (Same.refl _) (by simp only [lz]; exact .non)⟩
    | bl b => exact iteF ⟨_, rfl, kk H _ (Same.refl _) (by simp only [lz]; exact .bl b)⟩
    | int i => exact iteF ⟨_, rfl, kk H _ (Same.refl _) (by simp only [lz]; exact .int i)⟩
    | str x => exact iteF ⟨_, rfl, kk H _ (Same.refl _) (by simp only [lz]; exact .str x)⟩
    | lst ha hds =>
      simp only [fz] at hf
      cases hf
    | dic ha =>
      simp only [PyData.canLay0] at hc
      cases hc
    | @tup p xs ds hp hds =>
    have hxl := deAll_len hds
    have hfe := (fz_fix hf rfl).2
    have hfe : ∀ e ∈ ds, fz e = e := hfe
    have hlv := lev_tl (d := .tuple ds) rfl
    have hlv : lev (.tuple ds) = levAll ds + 1 := hlv
    have hz := (hw 1 rfl).1
    have hz : ds.length ≤ 1000 := hz
    have hce := canLay_mem (show PyData.canLayAll0 ds = true by simpa only [PyData.canLay0] using hc)
    have hwe : ∀ e ∈ ds, ∀ m, hdW m e := fun e he m => (hw (m + 1) rfl).2 e he
    have b5 : (5000 : Nat) < sizeLine := by decide
    refine iteT ⟨V.ref p, rfl, p, rfl, ⟨xs, .inl (.inl hp)⟩, fun D nD => lc_it (walk_tup (K := K) (xs := xs)) (fun i G => Same H G ∧ ∃ acc : List V, G D = some (.lst acc) ∧ acc.length = i ∧ DeAll K (NwD H D G) acc ((ds.take i).map lz)) ⟨upd_new nD, [], upd_same, rfl, .nil⟩ (fun i G _ q => .inl (.inl (q.1 _ _ hp))) ?_ ?_⟩
    · rintro i x G G' hi ⟨sG, acc, hD, hal, hacc⟩ ⟨rfl, hx⟩
      obtain ⟨dd, hdd, hde⟩ := deAll_at hds hx
      have hm := List.mem_of_getElem? hdd
      refine ⟨rfl, x, rfl, x, dd, rfl, de_mono sG _ _ hde, hfe dd hm, by have := lev_mem hm; omega, hwe dd hm, hce dd hm, fun G2 u s2 hu => ?_⟩
      have hD2 := s2 _ _ hD
      refine ⟨acc, hD2, by omega, same_upd nD (sG.trans s2), acc ++ [u], upd_same, by rw [List.length_append, hal]; rfl, ?_⟩
      have m1 : Same (NwD H D G') (NwD H D (upd G2 D (.lst (acc ++ [u])))) := fun a o h => by
        obtain ⟨n1, n2, e⟩ := nwD_at h
        exact nwD_mk n1 n2 (by rw [upd_ne n2]; exact s2 _ _ e)
      have m2 : Same (Nw G' G2) (NwD H D (upd G2 D (.lst (acc ++ [u])))) := fun a o h => by
        obtain ⟨n1, e⟩ := nw_at h
        have n2 : a ≠ D := fun z => by rw [z, hD] at n1; cases n1
        exact nwD_mk (none_of sG n1) n2 (by rw [upd_ne n2]; exact e)
      rw [take_snoc hdd, List.map_append]
      exact deAll_app (de_monoAll m1 _ _ hacc) (.cons (de_mono m2 _ _ hu) .nil)
    · rintro G ⟨sG, acc, hD, hal, hacc⟩
      rw [hxl, List.take_length] at hacc
      have m : Same (NwD H D G) (Nw H G) := fun a o h => by
        obtain ⟨n1, n2, e⟩ := nwD_at h
        exact nw_mk n1 e
      refine kk G (.ref D) sG ?_
      simp only [lz, lzAll_map]
      exact .lst (nw_mk nD hD) (de_monoAll m _ _ hacc)
end
end SK
namespace SK
open PySem PySem.Spec PyProof.Rows L2 LamX NdefX
open K0 (De DeAll XCl spX withX)
/-! ### the law's names -/
def four : List Str := ["not", "and", "or", "if"]
def three : List Str := ["p", "here", "keep"]
def two2 : List Str := ["x", "y"]
def nmV (x : Str) : List Str := if x ∈ three then ["p"] else if x ∈ two2 then [x] else []
mutual
inductive Nam : Nat → PyData → List Str → Prop
  | no {n : Nat} {d : PyData} : isTp d = false → Nam n d []
  | nil {n : Nat} : Nam n (.tuple []) []
  | tup {n : Nat} {h : PyData} {r : List PyData} {l : List Str} : Eqb (.tuple (h :: r)) → NamT n h r l → Nam (n + 1) (.tuple (h :: r)) l
inductive NamT : Nat → PyData → List PyData → List Str → Prop
  | prt {n : Nat} {h : PyData} {r : List PyData} {l : List Str} : (isTp h = true ∨ ∃ x : Str, h = .str x ∧ x ∈ four) → NamA n (h :: r) l → NamT n h r l
  | one {n : Nat} {x : Str} : PyData.strOk x = true → x ∉ four → x ≠ Str.ofString "return" → x ≠ Str.ofString "set" → NamT n (.str x) [] (nmV x)
  | oth {n : Nat} {i : Int} : NamT n (.str "others") [.int i] []
  | ret {n : Nat} {a : Str} : NamT n (.str "return") [.str a] (if a = Str.ofString "p" then ["p"] else [])
  | retc {n : Nat} {a : Str} : NamT n (.str "return") [.str a, .str "cut"] ["p"]
  | set {n : Nat} {x : Str} {b : Bool} : NamT n (.str "set") [.str x, .bool b] (if x = Str.ofString "f" then [] else [x])
inductive NamA : Nat → List PyData → List Str → Prop
  | nil {n : Nat} : NamA n [] []
  | cons {n : Nat} {d : PyData} {ds : List PyData} {l l' : List Str} : Nam n d l → NamA n ds l' → NamA n (d :: ds) (l ++ l')
end
mutual
theorem Nam.up : ∀ {n : Nat} {d : PyData} {l : List Str}, Nam n d l → Nam (n + 1) d l
  | _, _, _, .no a => .no a
  | _, _, _, .nil => .nil
  | _, _, _, .tup a b => .tup a (NamT.up b)
theorem NamT.up : ∀ {n : Nat} {h : PyData} {r : List PyData} {l : List Str}, NamT n h r l → NamT (n + 1) h r l
  | _, _, _, _, .prt a b => .prt a (NamA.up b)
  | _, _, _, _, .one a b c d => .one a b c d
  | _, _, _, _, .oth => .oth
  | _, _, _, _, .ret => .ret
  | _, _, _, _, .retc => .retc
  | _, _, _, _, .set => .set
theorem NamA.up : ∀ {n : Nat} {ds : List PyData} {l : List Str}, NamA n ds l → NamA (n + 1) ds l
  | _, _, _, .nil => .nil
  | _, _, _, .cons a b => .cons (Nam.up a) (NamA.up b)
end
theorem Nam.le {n m : Nat} {d : PyData} {l : List Str} (h : Nam n d l) (q : n ≤ m) : Nam m d l := by
  induction q with
  | refl => exact h
  | step _ ih => exact ih.up
theorem NamA.le {n m : Nat} {d : List PyData} {l : List Str} (h : NamA n d l) (q : n ≤ m) : NamA m d l := by
  induction q with
  | refl => exact h
  | step _ ih => exact ih.up
theorem plain_nm : ∀ x ∈ plain10, x ∉ four ∧ x ≠ Str.ofString "return" ∧ x ≠ Str.ofString "set" ∧ nmW (.str x) = nmV x := by decide +kernel
theorem plain_not : ∀ x ∈ plain10, x ≠ Str.ofString "not" ∧ x ∉ (["and", "or"] : List Str) := by decide +kernel
theorem letK_nm : ∀ x ∈ letK, x ∉ four ∧ x ≠ Str.ofString "return" ∧ x ≠ Str.ofString "set" ∧ (if x = Str.ofString "keep" then [Str.ofString "p"] else []) = nmV x := by decide +kernel
theorem nmT_eq {N : Nat} {d h : PyData} {r : List PyData} (e : elems d = h :: r) : nmT (N + 1) d = nmT2 (nmT N) h r := by
  show (match elems d with | [] => [] | h :: r => nmT2 (nmT N) h r) = _
  rw [e]
theorem nmT2_not (f : PyData → List Str) (e : PyData) : nmT2 f (.str "not") [e] = f e := by
  unfold nmT2
  rw [if_pos (show nm (PyData.str "not") = some (Str.ofString "not") from rfl)]
theorem nmT2_bin (f : PyData → List Str) {x : Str} (hx : x ∈ (["and", "or"] : List Str)) (a b : PyData) : nmT2 f (.str x) [a, b] = f a ++ f b := by
  obtain ⟨_, _, n2⟩ := andor_ok x hx
  unfold nmT2
  rw [if_neg (show ¬ nm (PyData.str x) = some (Str.ofString "not") from fun q => n2 (Option.some.inj q)), if_pos (show inS ["and", "or"] (.str x) = true by rw [inS_str, decide_eq_true hx])]
theorem nmT2_w (f : PyData → List Str) {x : Str} (r : List PyData) (h1 : x ≠ Str.ofString "not") (h2 : x ∉ (["and", "or"] : List Str)) : nmT2 f (.str x) r = nmW (.str x) := by
  unfold nmT2
  rw [if_neg (show ¬ nm (PyData.str x) = some (Str.ofString "not") from fun q => h1 (Option.some.inj q)), if_neg (show ¬ inS ["and", "or"] (.str x) = true by rw [inS_str, decide_eq_false h2]; simp)]
theorem nam_test {n : Nat} {d : PyData} (h : TsG n d) : n ≤ 60 → fz d = d → ∀ N, n ≤ N → Nam n d (nmT N d) := by
  induction h with
  | @w n d x ht he hx =>
    intro hn f N hN
    have q : Eqb d := by
      have z := (tsG_lay (TsG.w (n := 0) ht he hx)).eqb (by decide)
      rwa [f] at z
    obtain ⟨e, _⟩ := fz_fix f ht
    rw [he] at e
    obtain ⟨N, rfl⟩ : ∃ j, N = j + 1 := ⟨N - 1, by omega⟩
    obtain ⟨a1, a2, a3, a4⟩ := plain_nm x hx
    obtain ⟨b1, b2⟩ := plain_not x hx
    rw [nmT_eq he, nmT2_w _ _ b1 b2, a4]
    subst e
    exact .tup q (.one (plain_str x hx) a1 a2 a3)
  | @oth n d i ht he h0 h1 =>
    intro hn f N hN
    have q : Eqb d := by
      have z := (tsG_lay (TsG.oth (n := 0) ht he h0 h1)).eqb (by decide)
      rwa [f] at z
    obtain ⟨e, _⟩ := fz_fix f ht
    rw [he] at e
    obtain ⟨N, rfl⟩ : ∃ j, N = j + 1 := ⟨N - 1, by omega⟩
    rw [nmT_eq he, nmT2_w _ _ (by decide) (by decide +kernel)]
    rw [show nmW (.str "others") = [] from by decide +kernel]
    subst e
    exact .tup q .oth
  | @neg n d e0 ht he hs ih =>
    intro hn f N hN
    have q : Eqb d := by
      have z := (tsG_lay (TsG.neg ht he hs)).eqb (by omega)
      rwa [f] at z
    obtain ⟨e, hfe⟩ := fz_fix f ht
    rw [he] at e hfe
    obtain ⟨N, rfl⟩ : ∃ j, N = j + 1 := ⟨N - 1, by omega⟩
    have i1 := ih (by omega) (hfe e0 (by simp)) N (by omega)
    rw [nmT_eq he, nmT2_not]
    have en : nmT N e0 = [] ++ (nmT N e0 ++ []) := by rw [List.append_nil, List.nil_append]
    rw [en]
    subst e
    exact .tup q (.prt (.inr ⟨_, rfl, by decide +kernel⟩) (.cons (.no rfl) (.cons i1 .nil)))
  | @bin n d a0 b0 x ht he hx hsa hsb ia ib =>
    intro hn f N hN
    have q : Eqb d := by
      have z := (tsG_lay (TsG.bin ht he hx hsa hsb)).eqb (by omega)
      rwa [f] at z
    obtain ⟨e, hfe⟩ := fz_fix f ht
    rw [he] at e hfe
    obtain ⟨N, rfl⟩ : ∃ j, N = j + 1 := ⟨N - 1, by omega⟩
    have i1 := ia (by omega) (hfe a0 (by simp)) N (by omega)
    have i2 := ib (by omega) (hfe b0 (by simp)) N (by omega)
    rw [nmT_eq he, nmT2_bin _ hx]
    have en : nmT N a0 ++ nmT N b0 = [] ++ (nmT N a0 ++ (nmT N b0 ++ [])) := by rw [List.append_nil, List.nil_append]
    rw [en]
    subst e
    have f4 : ∀ x ∈ (["and", "or"] : List Str), x ∈ four := by decide +kernel
    exact .tup q (.prt (.inr ⟨_, rfl, f4 x hx⟩) (.cons (.no rfl) (.cons i1 (.cons i2 .nil))))
section
variable {blk : Str}
theorem nam_blk {n : Nat} {d : PyData} {l : List Str} (hn : n ≤ 50) (t : isTL d = true) (f : fz d = d) (q : Eqb d) (h1 : ∀ e ∈ elems d, isTL e = true) (h : NamA n (elems d) l) : Nam (n + 1) d l := by
  obtain ⟨e, hfe⟩ := fz_fix f t
  generalize elems d = ds at e h h1 hfe
  subst e
  cases ds with
  | nil =>
    cases h
    exact .nil
  | cons a r =>
    refine .tup q (.prt (.inl ?_) h)
    obtain ⟨e, _⟩ := fz_fix (hfe a (by simp)) (h1 a (by simp))
    rw [e]
    rfl
theorem StL.tls {n : Nat} : ∀ {ds : List PyData} {k : Nat} {l : List Str}, StL blk n ds k l → ∀ e ∈ ds, isTL e = true
  | [], _, _, .nil, e, he => by cases he
  | d :: ds, _, _, .cons a b, e, he => by
    rcases List.mem_cons.mp he with z | z
    · rw [z]
      exact a.tl
    · exact StL.tls b e z
mutual
theorem nam_st : ∀ {n : Nat} {d : PyData} {k : Nat} {l : List Str}, StG blk n d k l → n ≤ 20 → fz d = d → Nam (7 + 2 * n) d l
  | n, d, _, _, .one (x := x) ht he hx, hn, f => by
    have q := (stG_lay (StG.one (n := 0) ht he hx)).eqb (by decide)
    rw [f] at q
    obtain ⟨e, _⟩ := fz_fix f ht
    rw [he] at e
    subst e
    obtain ⟨a1, a2, a3, a4⟩ := letK_nm x (letK_of hx)
    have z : Nam (0 + 1) (.tuple [.str x]) (nmV x) := .tup q (.one (letK_ok x (letK_of hx)) a1 a2 a3)
    rw [← a4] at z
    exact z.le (by omega)
  | n, d, _, _, .set (x := x) (b := b) ht he hx, hn, f => by
    have q := (stG_lay (blk := blk) (StG.set (n := 0) ht he hx)).eqb (by decide)
    rw [f] at q
    obtain ⟨e, _⟩ := fz_fix f ht
    rw [he] at e
    subst e
    have z : Nam (0 + 1) (.tuple [.str "set", .str x, .bool b]) _ := .tup q .set
    exact z.le (by omega)
  | n, d, _, _, .ret (a := a) ht he hx, hn, f => by
    have q := (stG_lay (blk := blk) (StG.ret (n := 0) ht he hx)).eqb (by decide)
    rw [f] at q
    obtain ⟨e, _⟩ := fz_fix f ht
    rw [he] at e
    subst e
    have z : Nam (0 + 1) (.tuple [.str "return", .str a]) _ := .tup q .ret
    exact z.le (by omega)
  | n, d, _, _, .retc (a := a) ht he hx hb, hn, f => by
    have q := (stG_lay (StG.retc (n := 0) ht he hx hb)).eqb (by decide)
    rw [f] at q
    obtain ⟨e, _⟩ := fz_fix f ht
    rw [he] at e
    subst e
    have z : Nam (0 + 1) (.tuple [.str "return", .str a, .str "cut"]) _ := .tup q .retc
    exact z.le (by omega)
  | _, d, _, _, .iff (n := n) (t := t) (b1 := b1) (b2 := b2) (l1 := l1) (l2 := l2) ht he tt h1 hne h2 g1 g2, hn, f => by
    have q := (stG_lay (StG.iff ht he tt h1 hne h2 g1 g2)).eqb (by omega)
    rw [f] at q
    obtain ⟨e, hfe⟩ := fz_fix f ht
    rw [he] at e hfe
    have f1 := hfe t (by simp)
    have f2 := hfe b1 (by simp)
    have f3 := hfe b2 (by simp)
    have y1 := lay_tup (stL_lay g1)
    rw [← fz_tl h1, f2] at y1
    have y2 := lay_tup (stL_lay g2)
    rw [← fz_tl h2, f3] at y2
    have z1 := nam_blk (by omega) h1 f2 (y1.eqb (by omega)) g1.tls (nam_stl g1 (by omega) (fz_fix f2 h1).2)
    have z2 := nam_blk (by omega) h2 f3 (y2.eqb (by omega)) g2.tls (nam_stl g2 (by omega) (fz_fix f3 h2).2)
    have z0 := nam_test tt (by decide) f1 6 (Nat.le_refl _)
    have en : nmT 6 t ++ l1 ++ l2 = [] ++ (nmT 6 t ++ (l1 ++ (l2 ++ []))) := by rw [List.append_nil, List.nil_append, List.append_assoc]
    rw [en]
    subst e
    have z : Nam (8 + 2 * n + 1) (.tuple [.str "if", t, b1, b2]) ([] ++ (nmT 6 t ++ (l1 ++ (l2 ++ [])))) := .tup q (.prt (.inr ⟨_, rfl, by decide +kernel⟩) (.cons (.no rfl) (.cons (z0.le (by omega)) (.cons (z1.le (by omega)) (.cons (z2.le (by omega)) .nil)))))
    exact z.le (by omega)
theorem nam_stl : ∀ {n : Nat} {ds : List PyData} {k : Nat} {l : List Str}, StL blk n ds k l → n ≤ 20 → (∀ e ∈ ds, fz e = e) → NamA (7 + 2 * n) ds l
  | _, _, _, _, .nil, hn, f => .nil
  | _, _, _, _, .cons a b, hn, f => .cons (nam_st a hn (f _ (List.mem_cons_self))) (nam_stl b hn fun e he => f e (List.mem_cons_of_mem _ he))
end
theorem BkR.nam {d : PyData} {k : Nat} {l : List Str} (B : BkR blk d k l) : Nam 12 d l :=
  nam_blk (by decide) B.tl B.fx B.eqb B.st.tls (nam_stl B.st (by decide) (fz_fix B.fx B.tl).2)
end
end SK
namespace SK
open PySem PySem.Spec PyProof.Rows L2 LamX NdefX
open K0 (De DeAll XCl spX withX)
theorem NamA.nil_l {n : Nat} {l : List Str} (h : NamA n [] l) : l = [] := by
  cases h
  rfl
theorem eqv_nil {h : PyData} {r : List PyData} : PyData.eqv (.tuple (h :: r)) (.tuple []) = false := by
  simp [PyData.eqv, PyData.eqvAll]
theorem lay_nil : SeqAt.shaped (.tuple []) = true := by decide +kernel
def spNa (K : PySem.W.Frag) (n : Nat) : Sp := fun vs H Q _ => ∃ (v : V) (d : PyData) (m : Nat) (l : List Str), vs = [v] ∧ De K H v d ∧ Nam m d l ∧ m < n ∧ l.length ≤ 4000 ∧ ∀ (H' : Hp) (q : Addr), Same H H' → H' q = some (.lst (l.map V.str)) → Q (.ref q) H'
section
variable {P : Program} {w : World} {K : PySem.W.Frag} {mg : Str → Option Value} {base : Heap} {f : Addr} {fd : FuncData}
abbrev NNa : List Str := ["value", "found", "part"]
theorem ok_na (F : Fun K "_law_named" "_law_named" (top 61) f fd) (gI : mg "isinstance" = none) (gT : mg "tuple" = none) (gN : mg "len" = none) (gS : mg "_law_named" = some (.ref f)) (bS : Binds K fd ["value"] []) : ∀ n : Nat, FnOk P w K mg base CX0 (n + 1) f fd ["value"] (spNa K n) := by
  have S0 : FnScope NNa ["value"] (defScope (top 61)) := ⟨rfl, rfl, rfl, by decide +kernel, rfl, by decide +kernel, by decide +kernel⟩
  have nd := S0.nd
  have kS := F.kp
  intro n
  induction n with
  | zero =>
    refine F.ok S0 (fun vs H Q E h => ?_) (fun cdv A outer s H vs Q E hr h => ?_)
    · obtain ⟨v, d, m, l, rfl, _⟩ := h
      rfl
    · obtain ⟨v, d, m, l, rfl, _, _, hm, _⟩ := h
      omega
  | succ n GS =>
  refine F.ok S0 (fun vs H Q E h => ?_) (fun cdv A outer s H vs Q E hr h => ?_)
  · obtain ⟨v, d, m, l, rfl, _⟩ := h
    rfl
  · obtain ⟨v, d, m, l, rfl, hd, hna, hm, hz, kk⟩ := h
    have hu64 := hr.units
    refine ⟨_, (pss_cons (ps_if (PW.pt (pw_or (pt_not (pt_val (pe_callB (r := rIsi K) call_isi (by rfl) gI PyProof.Rows.boot_isinstance (pa_cons (pv 0) (pa_cons (pe_bltn (v := .ty "tuple") (by rfl) gT PyProof.Rows.boot_tuple rfl) pa_nil))))) (pw_or1 (pt_cmpR (r := rEqD K) (op_eqD hu64) (pv 0) (pe_tup pa_nil) (nomark _))))) (pss_one (ps_ret (pe_lst pa_nil))) pss_nil)
        (pss_cons (ps_if (PW.pt (pw_or (pt_val (pe_callB (r := rIsi K) call_isi (by rfl) gI PyProof.Rows.boot_isinstance (pa_cons (pe_ix (r := rIx K) ix_seq (pv 0) pe_int (fun _ _ => rfl)) (pa_cons (pe_bltn (v := .ty "tuple") (by rfl) gT PyProof.Rows.boot_tuple rfl) pa_nil)))) (pw_or1 (pt_cmpR (r := rInD K false) (op_inD hu64) (pe_ix (r := rIx K) ix_seq (pv 0) pe_int (fun _ _ => rfl)) (pe_tup (pa_cons pe_str (pa_cons pe_str (pa_cons pe_str (pa_cons pe_str pa_nil))))) (by rfl))))) (pss_cons (ps_set (i := 1) nd rfl (Or.inl rfl) (pe_lst pa_nil))
        (pss_cons (ps_for PassesOwn.never rfl (pi_tup (pv 0)) (pg_name (i := 2) nd rfl (Or.inl rfl)) (pss_one (ps_set (i := 1) nd rfl (Or.inl rfl) (pe_op op_cat (pv 1) (pe_call GS hr (by rfl) gS kS bS .nil pass0 (pa_cons (pv 2) pa_nil))))))
        (pss_one (ps_ret (pv 1))))) pss_nil)
        (pss_cons (ps_if (PW.pt (pw_or (pt_cmpR (r := rInD K false) (op_inD hu64) (pe_ix (r := rIx K) ix_seq (pv 0) pe_int (fun _ _ => rfl)) (pe_tup (pa_cons pe_str (pa_cons pe_str (pa_cons pe_str pa_nil)))) (by rfl)) (pw_or1 (PW.pt (pw_and (pt_cmpR op_eq (pe_ix (r := rIx K) ix_seq (pv 0) pe_int (fun _ _ => rfl)) pe_str (nomark _)) (pw_and1 (PW.pt (pw_or (pt_cmpR op_eq (pe_ix (r := rIx K) ix_seq (pv 0) pe_int (fun _ _ => rfl)) pe_str (nomark _)) (pw_or1 (pt_cmpR op_eq (pe_callB call_len_seq (by rfl) gN PySem.boot_len (pa_cons (pv 0) pa_nil)) pe_int (nomark _))))))))))) (pss_one (ps_ret (pe_lst (pa_cons pe_str pa_nil)))) pss_nil)
        (pss_cons (ps_if (pt_cmpR (r := rInD K false) (op_inD hu64) (pe_ix (r := rIx K) ix_seq (pv 0) pe_int (fun _ _ => rfl)) (pe_tup (pa_cons pe_str (pa_cons pe_str pa_nil))) (by rfl)) (pss_one (ps_ret (pe_lst (pa_cons (pe_ix (r := rIx K) ix_seq (pv 0) pe_int (fun _ _ => rfl)) pa_nil)))) pss_nil)
        (pss_one (ps_ret (pe_ifExp (PW.pt (pw_and (pt_cmpR op_eq (pe_ix (r := rIx K) ix_seq (pv 0) pe_int (fun _ _ => rfl)) pe_str (nomark _)) (pw_and1 (pt_cmpR op_ne (pe_ix (r := rIx K) ix_seq (pv 0) pe_int (fun _ _ => rfl)) pe_str (nomark _))))) (pe_lst (pa_cons (pe_ix (r := rIx K) ix_seq (pv 0) pe_int (fun _ _ => rfl)) pa_nil)) (pe_lst pa_nil)))))))), ?_⟩
    obtain ⟨Ty, tx, kt⟩ := ty_tp hd
    refine ⟨v, rfl, v, .ty "tuple", .type Ty, .type "tuple", isTp d, rfl, .ty _, tx, kit_ty kt, _, rfl, ?_⟩
    have b5 : (5000 : Nat) < sizeLine := by decide
    cases hna with
    | no e =>
      rw [e]
      exact iteT ⟨Nat.zero_le _, fun q nq => kk _ q (upd_new nq) upd_same⟩
    | nil =>
      have hd0 := hd
      cases hd0 with
      | @tup p xs _ hp hxs =>
      cases hxs
      refine iteF ⟨V.ref p, rfl, Nat.zero_le _, fun q nq => ?_⟩
      have s1 := upd_new (o := .tup []) nq
      have hq1 : upd H q (.tup []) q = some (.tup []) := upd_same
      generalize upd H q (.tup []) = G1 at s1 hq1
      refine ⟨.tuple [], .tuple [], .tup (.inl (.inl (s1 _ _ hp))) .nil, .tup (.inl (.inl hq1)) .nil, lay_nil, lay_nil, _, rfl, ?_⟩
      exact iteT ⟨Nat.zero_le _, fun q nq => kk _ q (s1.trans (upd_new nq)) upd_same⟩
    | @tup n' h r _ hq hnt =>
      obtain ⟨hsh, hdp⟩ := hq
      obtain ⟨p, xs, rfl, hp, hds⟩ : ∃ (p : Addr) (xs : List V), v = .ref p ∧ H p = some (.tup xs) ∧ DeAll K H xs (h :: r) := by
        cases hd with
        | tup a b => exact ⟨_, _, rfl, a, b⟩
      refine iteF ⟨V.ref p, rfl, Nat.zero_le _, fun q nq => ?_⟩
      have s1 := upd_new (o := .tup []) nq
      have hq1 : upd H q (.tup []) q = some (.tup []) := upd_same
      generalize upd H q (.tup []) = G1 at s1 hq1
      refine ⟨.tuple (h :: r), .tuple [], hdp _ _ _ (de_mono s1 _ _ hd), .tup (.inl (.inl hq1)) .nil, hsh, lay_nil, _, rfl, ?_⟩
      rw [eqv_nil]
      refine iteF ?_
      have ixF : ∀ {H' : Hp} (j : Nat) (v' : V) (R : VK), Same H H' → xs[j]? = some v' → R v' H' → rIx K (.ref p) (.int (j : Nat)) H' R := fun {H'} j v' R s hj hR => .inr (.inl ⟨p, xs, (j : Int), v', rfl, rfl, .inl (.inl (s _ _ hp)), atI_nat hj, hR⟩)
      have neq : ∀ {x y : Str}, x ≠ y → decide (V.str x = V.str y) = false := fun {x y} h => decide_eq_false fun z => h (V.str.inj z)
      cases hds with
      | @cons v1 vr _ _ d1 hdr =>
      obtain ⟨Ty1, tx1, kt1⟩ := ty_tp (de_mono s1 _ _ d1)
      refine ⟨V.ref p, rfl, ixF 0 v1 _ s1 rfl ⟨v1, .ty "tuple", .type Ty1, .type "tuple", isTp h, rfl, .ty _, tx1, kit_ty kt1, _, rfl, ?_⟩⟩
      have hdsA : DeAll K H (v1 :: vr) (h :: r) := .cons d1 hdr
      cases hnt with
      | prt hh hA =>
        suffices lp : ∀ G : Hp, Same H G → _ by
          rcases hh.symm with ⟨x, eh, hx4⟩ | e
          · have ev : v1 = .str x := by
              rw [eh] at d1
              cases d1
              rfl
            have hx : HdOk (.str x) := .str x (by
              have q : ∀ x ∈ four, PyData.strOk x = true := by decide +kernel
              exact q x hx4)
            rw [show isTp h = false by rw [eh]; rfl]
            refine iteF ?_
            refine ⟨V.ref p, rfl, ixF 0 v1 _ s1 rfl ⟨(by show 4 ≤ sizeLine; decide), fun t2 nt2 => ?_⟩⟩
            have st2 := upd_new (o := .tup [.str "not", .str "and", .str "or", .str "if"]) nt2
            have ht2 : upd G1 t2 (.tup [.str "not", .str "and", .str "or", .str "if"]) t2 = some (.tup [.str "not", .str "and", .str "or", .str "if"]) := upd_same
            generalize upd G1 t2 (.tup [.str "not", .str "and", .str "or", .str "if"]) = Gt2 at st2 ht2
            have s2 := (s1).trans st2
            refine ⟨t2, _, (["not", "and", "or", "if"] : List Str).map PyData.str, .str x, rfl, .inr (.inl (.inl ht2)), dp_strs ["not", "and", "or", "if"], (by rw [ev]; exact .str _), hx.lay.1, by decide +kernel, hx.lay.2, _, rfl, ?_⟩
            rw [if_neg Bool.false_ne_true, any_strs, inS_str]
            have hx4 : x ∈ (["not", "and", "or", "if"] : List Str) := hx4
            rw [decide_eq_true hx4]
            exact iteT (lp Gt2 s2)
          · rw [e]
            exact iteT (iteT (lp G1 s1))
        intro G sG
        refine ⟨Nat.zero_le _, fun o no => ?_⟩
        have sG2 := sG.trans (upd_new (o := .lst []) no)
        have ho2 : upd G o (.lst []) o = some (.lst []) := upd_same
        generalize upd G o (.lst []) = G2 at sG2 ho2
        have hxl := deAll_len hdsA
        refine ⟨V.ref p, rfl, p, rfl, ⟨_, .inl (.inl (sG2 _ _ hp))⟩, for_it (walk_tup (K := K) (xs := v1 :: vr)) (fun i σ G => ∃ (x2 : Option V) (o : Addr) (la lb : List Str), σ = [some (.ref p), some (.ref o), x2] ∧ Same H G ∧ G o = some (.lst (la.map V.str)) ∧ l = la ++ lb ∧ NamA n' ((h :: r).drop i) lb) ⟨none, o, [], l, rfl, sG2, ho2, rfl, hA⟩ (fun i σ G _ q => ?_) ?_ ?_⟩
        · obtain ⟨x2, o, la, lb, rfl, sG, _⟩ := q
          exact .inl (.inl (sG _ _ hp))
        · rintro i y σ Ga Gb hi ⟨x2, o, la, lb, rfl, sa, hoa, rfl, hst⟩ ⟨rfl, hy⟩
          obtain ⟨e, he, hde⟩ := deAll_at hdsA hy
          have hlt : i < (h :: r).length := by omega
          have ed : (h :: r).drop i = e :: (h :: r).drop (i + 1) := by
            rw [List.drop_eq_getElem_cons hlt]
            rw [List.getElem?_eq_getElem hlt] at he
            rw [Option.some.inj he]
          rw [ed] at hst
          cases hst with
          | @cons _ _ _ l1 l2 ha hc =>
          rw [List.length_append, List.length_append] at hz
          refine ⟨V.ref o, rfl, y, rfl, y, e, n', l1, rfl, de_mono sa _ _ hde, ha, by omega, by omega, fun G3 q3 s3 hq3 => ?_⟩
          refine ⟨o, q3, _, _, rfl, rfl, s3 _ _ hoa, hq3, by rw [List.length_map, List.length_map]; omega, fun q4 nq4 => ?_⟩
          exact ⟨some y, q4, la ++ l1, l2, rfl, (sa.trans s3).trans (upd_new nq4), by rw [upd_same, List.map_append], by rw [List.append_assoc], hc⟩
        · rintro σ Ga ⟨x2, o, la, lb, rfl, sa, hoa, rfl, hst⟩
          rw [List.drop_eq_nil_of_le (by omega)] at hst
          rw [hst.nil_l, List.append_nil] at kk
          exact ⟨V.ref o, rfl, kk Ga o sa hoa⟩
      | @one _ x hxo h4 hr hs =>
        cases d1
        have hx : HdOk (.str x) := .str x hxo
        refine iteF ?_
        refine ⟨V.ref p, rfl, ixF 0 _ _ s1 rfl ⟨(by show 4 ≤ sizeLine; decide), fun t2 nt2 => ?_⟩⟩
        have st2 := upd_new (o := .tup [.str "not", .str "and", .str "or", .str "if"]) nt2
        have ht2 : upd G1 t2 (.tup [.str "not", .str "and", .str "or", .str "if"]) t2 = some (.tup [.str "not", .str "and", .str "or", .str "if"]) := upd_same
        generalize upd G1 t2 (.tup [.str "not", .str "and", .str "or", .str "if"]) = Gt2 at st2 ht2
        have s2 := (s1).trans st2
        refine ⟨t2, _, (["not", "and", "or", "if"] : List Str).map PyData.str, _, rfl, .inr (.inl (.inl ht2)), dp_strs ["not", "and", "or", "if"], .str _, hx.lay.1, by decide +kernel, hx.lay.2, _, rfl, ?_⟩
        rw [if_neg Bool.false_ne_true, any_strs, inS_str]
        have h4 : x ∉ (["not", "and", "or", "if"] : List Str) := h4
        rw [decide_eq_false h4]
        refine iteF ?_
        refine ⟨V.ref p, rfl, ixF 0 _ _ s2 rfl ⟨(by show 3 ≤ sizeLine; decide), fun t3 nt3 => ?_⟩⟩
        have st3 := upd_new (o := .tup [.str "p", .str "here", .str "keep"]) nt3
        have ht3 : upd Gt2 t3 (.tup [.str "p", .str "here", .str "keep"]) t3 = some (.tup [.str "p", .str "here", .str "keep"]) := upd_same
        generalize upd Gt2 t3 (.tup [.str "p", .str "here", .str "keep"]) = Gt3 at st3 ht3
        have s3 := (s2).trans st3
        refine ⟨t3, _, (["p", "here", "keep"] : List Str).map PyData.str, _, rfl, .inr (.inl (.inl ht3)), dp_strs ["p", "here", "keep"], .str _, hx.lay.1, by decide +kernel, hx.lay.2, _, rfl, ?_⟩
        rw [if_neg Bool.false_ne_true, any_strs, inS_str]
        by_cases c3 : x ∈ (["p", "here", "keep"] : List Str)
        · rw [decide_eq_true c3]
          exact iteT (iteT ⟨(by show 1 ≤ sizeLine; decide), fun q nq => kk _ q (s3.trans (upd_new nq)) (by unfold nmV; rw [if_pos (show x ∈ three from c3)]; exact upd_same)⟩)
        rw [decide_eq_false c3]
        refine iteF ⟨V.ref p, rfl, ixF 0 _ _ s3 rfl ⟨rfl, _, rfl, ?_⟩⟩
        rw [neq hr]
        refine iteF (iteF ?_)
        refine ⟨V.ref p, rfl, ixF 0 _ _ s3 rfl ⟨(by show 2 ≤ sizeLine; decide), fun t4 nt4 => ?_⟩⟩
        have st4 := upd_new (o := .tup [.str "x", .str "y"]) nt4
        have ht4 : upd Gt3 t4 (.tup [.str "x", .str "y"]) t4 = some (.tup [.str "x", .str "y"]) := upd_same
        generalize upd Gt3 t4 (.tup [.str "x", .str "y"]) = Gt4 at st4 ht4
        have s4 := (s3).trans st4
        refine ⟨t4, _, (["x", "y"] : List Str).map PyData.str, _, rfl, .inr (.inl (.inl ht4)), dp_strs ["x", "y"], .str _, hx.lay.1, by decide +kernel, hx.lay.2, _, rfl, ?_⟩
        rw [if_neg Bool.false_ne_true, any_strs, inS_str]
        by_cases c2 : x ∈ (["x", "y"] : List Str)
        · rw [decide_eq_true c2]
          exact iteT ⟨V.ref p, rfl, ixF 0 _ _ s4 rfl ⟨(by show 1 ≤ sizeLine; decide), fun q nq => kk _ q (s4.trans (upd_new nq)) (by unfold nmV; rw [if_neg (show x ∉ three from c3), if_pos (show x ∈ two2 from c2)]; exact upd_same)⟩⟩
        rw [decide_eq_false c2]
        refine iteF ⟨V.ref p, rfl, ixF 0 _ _ s4 rfl ⟨rfl, _, rfl, ?_⟩⟩
        rw [neq hs]
        exact iteF (iteF ⟨Nat.zero_le _, fun q nq => kk _ q (s4.trans (upd_new nq)) (by unfold nmV; rw [if_neg (show x ∉ three from c3), if_neg (show x ∉ two2 from c2)]; exact upd_same)⟩)
      | oth =>
        cases d1
        have hx : HdOk (.str "others") := .str _ (by decide +kernel)
        refine iteF ?_
        refine ⟨V.ref p, rfl, ixF 0 _ _ s1 rfl ⟨(by show 4 ≤ sizeLine; decide), fun t2 nt2 => ?_⟩⟩
        have st2 := upd_new (o := .tup [.str "not", .str "and", .str "or", .str "if"]) nt2
        have ht2 : upd G1 t2 (.tup [.str "not", .str "and", .str "or", .str "if"]) t2 = some (.tup [.str "not", .str "and", .str "or", .str "if"]) := upd_same
        generalize upd G1 t2 (.tup [.str "not", .str "and", .str "or", .str "if"]) = Gt2 at st2 ht2
        have s2 := (s1).trans st2
        refine ⟨t2, _, (["not", "and", "or", "if"] : List Str).map PyData.str, _, rfl, .inr (.inl (.inl ht2)), dp_strs ["not", "and", "or", "if"], .str _, hx.lay.1, by decide +kernel, hx.lay.2, _, rfl, ?_⟩
        rw [if_neg Bool.false_ne_true, any_strs, inS_str]
        rw [decide_eq_false (by decide +kernel)]
        refine iteF ?_
        refine ⟨V.ref p, rfl, ixF 0 _ _ s2 rfl ⟨(by show 3 ≤ sizeLine; decide), fun t3 nt3 => ?_⟩⟩
        have st3 := upd_new (o := .tup [.str "p", .str "here", .str "keep"]) nt3
        have ht3 : upd Gt2 t3 (.tup [.str "p", .str "here", .str "keep"]) t3 = some (.tup [.str "p", .str "here", .str "keep"]) := upd_same
        generalize upd Gt2 t3 (.tup [.str "p", .str "here", .str "keep"]) = Gt3 at st3 ht3
        have s3 := (s2).trans st3
        refine ⟨t3, _, (["p", "here", "keep"] : List Str).map PyData.str, _, rfl, .inr (.inl (.inl ht3)), dp_strs ["p", "here", "keep"], .str _, hx.lay.1, by decide +kernel, hx.lay.2, _, rfl, ?_⟩
        rw [if_neg Bool.false_ne_true, any_strs, inS_str]
        rw [decide_eq_false (by decide +kernel)]
        refine iteF ⟨V.ref p, rfl, ixF 0 _ _ s3 rfl ⟨rfl, _, rfl, ?_⟩⟩
        rw [neq (by decide)]
        refine iteF (iteF ?_)
        refine ⟨V.ref p, rfl, ixF 0 _ _ s3 rfl ⟨(by show 2 ≤ sizeLine; decide), fun t4 nt4 => ?_⟩⟩
        have st4 := upd_new (o := .tup [.str "x", .str "y"]) nt4
        have ht4 : upd Gt3 t4 (.tup [.str "x", .str "y"]) t4 = some (.tup [.str "x", .str "y"]) := upd_same
        generalize upd Gt3 t4 (.tup [.str "x", .str "y"]) = Gt4 at st4 ht4
        have s4 := (s3).trans st4
        refine ⟨t4, _, (["x", "y"] : List Str).map PyData.str, _, rfl, .inr (.inl (.inl ht4)), dp_strs ["x", "y"], .str _, hx.lay.1, by decide +kernel, hx.lay.2, _, rfl, ?_⟩
        rw [if_neg Bool.false_ne_true, any_strs, inS_str]
        rw [decide_eq_false (by decide +kernel)]
        refine iteF ⟨V.ref p, rfl, ixF 0 _ _ s4 rfl ⟨rfl, _, rfl, ?_⟩⟩
        rw [neq (by decide)]
        exact iteF (iteF ⟨Nat.zero_le _, fun q nq => kk _ q (s4.trans (upd_new nq)) upd_same⟩)
      | @ret _ a =>
        cases d1
        cases hdr with
        | @cons v2 _ _ _ d2 hdr =>
        cases d2
        cases hdr
        have hx : HdOk (.str "return") := .str _ (by decide +kernel)
        refine iteF ?_
        refine ⟨V.ref p, rfl, ixF 0 _ _ s1 rfl ⟨(by show 4 ≤ sizeLine; decide), fun t2 nt2 => ?_⟩⟩
        have st2 := upd_new (o := .tup [.str "not", .str "and", .str "or", .str "if"]) nt2
        have ht2 : upd G1 t2 (.tup [.str "not", .str "and", .str "or", .str "if"]) t2 = some (.tup [.str "not", .str "and", .str "or", .str "if"]) := upd_same
        generalize upd G1 t2 (.tup [.str "not", .str "and", .str "or", .str "if"]) = Gt2 at st2 ht2
        have s2 := (s1).trans st2
        refine ⟨t2, _, (["not", "and", "or", "if"] : List Str).map PyData.str, _, rfl, .inr (.inl (.inl ht2)), dp_strs ["not", "and", "or", "if"], .str _, hx.lay.1, by decide +kernel, hx.lay.2, _, rfl, ?_⟩
        rw [if_neg Bool.false_ne_true, any_strs, inS_str]
        rw [decide_eq_false (by decide +kernel)]
        refine iteF ?_
        refine ⟨V.ref p, rfl, ixF 0 _ _ s2 rfl ⟨(by show 3 ≤ sizeLine; decide), fun t3 nt3 => ?_⟩⟩
        have st3 := upd_new (o := .tup [.str "p", .str "here", .str "keep"]) nt3
        have ht3 : upd Gt2 t3 (.tup [.str "p", .str "here", .str "keep"]) t3 = some (.tup [.str "p", .str "here", .str "keep"]) := upd_same
        generalize upd Gt2 t3 (.tup [.str "p", .str "here", .str "keep"]) = Gt3 at st3 ht3
        have s3 := (s2).trans st3
        refine ⟨t3, _, (["p", "here", "keep"] : List Str).map PyData.str, _, rfl, .inr (.inl (.inl ht3)), dp_strs ["p", "here", "keep"], .str _, hx.lay.1, by decide +kernel, hx.lay.2, _, rfl, ?_⟩
        rw [if_neg Bool.false_ne_true, any_strs, inS_str]
        rw [decide_eq_false (by decide +kernel)]
        refine iteF ⟨V.ref p, rfl, ixF 0 _ _ s3 rfl ⟨rfl, _, rfl, iteT ⟨V.ref p, rfl, ixF 1 _ _ s3 rfl ⟨rfl, _, rfl, ?_⟩⟩⟩⟩
        by_cases c : a = Str.ofString "p"
        · rw [decide_eq_true (show V.str a = V.str (Str.ofString "p") from congrArg V.str c)]
          exact iteT (iteT ⟨(by show 1 ≤ sizeLine; decide), fun q nq => kk _ q (s3.trans (upd_new nq)) (by rw [if_pos c]; exact upd_same)⟩)
        rw [neq c]
        refine iteF ⟨V.ref p, rfl, p, _, rfl, .inr (.inl (.inl (s3 _ _ hp))), rfl, _, rfl, iteF ?_⟩
        refine ⟨V.ref p, rfl, ixF 0 _ _ s3 rfl ⟨(by show 2 ≤ sizeLine; decide), fun t4 nt4 => ?_⟩⟩
        have st4 := upd_new (o := .tup [.str "x", .str "y"]) nt4
        have ht4 : upd Gt3 t4 (.tup [.str "x", .str "y"]) t4 = some (.tup [.str "x", .str "y"]) := upd_same
        generalize upd Gt3 t4 (.tup [.str "x", .str "y"]) = Gt4 at st4 ht4
        have s4 := (s3).trans st4
        refine ⟨t4, _, (["x", "y"] : List Str).map PyData.str, _, rfl, .inr (.inl (.inl ht4)), dp_strs ["x", "y"], .str _, hx.lay.1, by decide +kernel, hx.lay.2, _, rfl, ?_⟩
        rw [if_neg Bool.false_ne_true, any_strs, inS_str]
        rw [decide_eq_false (by decide +kernel)]
        refine iteF ⟨V.ref p, rfl, ixF 0 _ _ s4 rfl ⟨rfl, _, rfl, ?_⟩⟩
        rw [neq (by decide)]
        exact iteF (iteF ⟨Nat.zero_le _, fun q nq => kk _ q (s4.trans (upd_new nq)) (by rw [if_neg c]; exact upd_same)⟩)
      | @retc _ a =>
        cases d1
        cases hdr with
        | @cons v2 _ _ _ d2 hdr =>
        cases d2
        cases hdr with
        | @cons v3 _ _ _ d3 hdr =>
        cases d3
        cases hdr
        have hx : HdOk (.str "return") := .str _ (by decide +kernel)
        refine iteF ?_
        refine ⟨V.ref p, rfl, ixF 0 _ _ s1 rfl ⟨(by show 4 ≤ sizeLine; decide), fun t2 nt2 => ?_⟩⟩
        have st2 := upd_new (o := .tup [.str "not", .str "and", .str "or", .str "if"]) nt2
        have ht2 : upd G1 t2 (.tup [.str "not", .str "and", .str "or", .str "if"]) t2 = some (.tup [.str "not", .str "and", .str "or", .str "if"]) := upd_same
        generalize upd G1 t2 (.tup [.str "not", .str "and", .str "or", .str "if"]) = Gt2 at st2 ht2
        have s2 := (s1).trans st2
        refine ⟨t2, _, (["not", "and", "or", "if"] : List Str).map PyData.str, _, rfl, .inr (.inl (.inl ht2)), dp_strs ["not", "and", "or", "if"], .str _, hx.lay.1, by decide +kernel, hx.lay.2, _, rfl, ?_⟩
        rw [if_neg Bool.false_ne_true, any_strs, inS_str]
        rw [decide_eq_false (by decide +kernel)]
        refine iteF ?_
        refine ⟨V.ref p, rfl, ixF 0 _ _ s2 rfl ⟨(by show 3 ≤ sizeLine; decide), fun t3 nt3 => ?_⟩⟩
        have st3 := upd_new (o := .tup [.str "p", .str "here", .str "keep"]) nt3
        have ht3 : upd Gt2 t3 (.tup [.str "p", .str "here", .str "keep"]) t3 = some (.tup [.str "p", .str "here", .str "keep"]) := upd_same
        generalize upd Gt2 t3 (.tup [.str "p", .str "here", .str "keep"]) = Gt3 at st3 ht3
        have s3 := (s2).trans st3
        refine ⟨t3, _, (["p", "here", "keep"] : List Str).map PyData.str, _, rfl, .inr (.inl (.inl ht3)), dp_strs ["p", "here", "keep"], .str _, hx.lay.1, by decide +kernel, hx.lay.2, _, rfl, ?_⟩
        rw [if_neg Bool.false_ne_true, any_strs, inS_str]
        rw [decide_eq_false (by decide +kernel)]
        refine iteF ⟨V.ref p, rfl, ixF 0 _ _ s3 rfl ⟨rfl, _, rfl, iteT ⟨V.ref p, rfl, ixF 1 _ _ s3 rfl ⟨rfl, _, rfl, ?_⟩⟩⟩⟩
        by_cases c : a = Str.ofString "p"
        · rw [decide_eq_true (show V.str a = V.str (Str.ofString "p") from congrArg V.str c)]
          exact iteT (iteT ⟨(by show 1 ≤ sizeLine; decide), fun q nq => kk _ q (s3.trans (upd_new nq)) upd_same⟩)
        rw [neq c]
        exact iteF ⟨V.ref p, rfl, p, _, rfl, .inr (.inl (.inl (s3 _ _ hp))), rfl, _, rfl, iteT ⟨(by show 1 ≤ sizeLine; decide), fun q nq => kk _ q (s3.trans (upd_new nq)) upd_same⟩⟩
      | @set _ x b =>
        cases d1
        cases hdr with
        | @cons v2 _ _ _ d2 hdr =>
        cases d2
        have hx : HdOk (.str "set") := .str _ (by decide +kernel)
        refine iteF ?_
        refine ⟨V.ref p, rfl, ixF 0 _ _ s1 rfl ⟨(by show 4 ≤ sizeLine; decide), fun t2 nt2 => ?_⟩⟩
        have st2 := upd_new (o := .tup [.str "not", .str "and", .str "or", .str "if"]) nt2
        have ht2 : upd G1 t2 (.tup [.str "not", .str "and", .str "or", .str "if"]) t2 = some (.tup [.str "not", .str "and", .str "or", .str "if"]) := upd_same
        generalize upd G1 t2 (.tup [.str "not", .str "and", .str "or", .str "if"]) = Gt2 at st2 ht2
        have s2 := (s1).trans st2
        refine ⟨t2, _, (["not", "and", "or", "if"] : List Str).map PyData.str, _, rfl, .inr (.inl (.inl ht2)), dp_strs ["not", "and", "or", "if"], .str _, hx.lay.1, by decide +kernel, hx.lay.2, _, rfl, ?_⟩
        rw [if_neg Bool.false_ne_true, any_strs, inS_str]
        rw [decide_eq_false (by decide +kernel)]
        refine iteF ?_
        refine ⟨V.ref p, rfl, ixF 0 _ _ s2 rfl ⟨(by show 3 ≤ sizeLine; decide), fun t3 nt3 => ?_⟩⟩
        have st3 := upd_new (o := .tup [.str "p", .str "here", .str "keep"]) nt3
        have ht3 : upd Gt2 t3 (.tup [.str "p", .str "here", .str "keep"]) t3 = some (.tup [.str "p", .str "here", .str "keep"]) := upd_same
        generalize upd Gt2 t3 (.tup [.str "p", .str "here", .str "keep"]) = Gt3 at st3 ht3
        have s3 := (s2).trans st3
        refine ⟨t3, _, (["p", "here", "keep"] : List Str).map PyData.str, _, rfl, .inr (.inl (.inl ht3)), dp_strs ["p", "here", "keep"], .str _, hx.lay.1, by decide +kernel, hx.lay.2, _, rfl, ?_⟩
        rw [if_neg Bool.false_ne_true, any_strs, inS_str]
        rw [decide_eq_false (by decide +kernel)]
        refine iteF ⟨V.ref p, rfl, ixF 0 _ _ s3 rfl ⟨rfl, _, rfl, ?_⟩⟩
        rw [neq (by decide)]
        refine iteF (iteF ?_)
        refine ⟨V.ref p, rfl, ixF 0 _ _ s3 rfl ⟨(by show 2 ≤ sizeLine; decide), fun t4 nt4 => ?_⟩⟩
        have st4 := upd_new (o := .tup [.str "x", .str "y"]) nt4
        have ht4 : upd Gt3 t4 (.tup [.str "x", .str "y"]) t4 = some (.tup [.str "x", .str "y"]) := upd_same
        generalize upd Gt3 t4 (.tup [.str "x", .str "y"]) = Gt4 at st4 ht4
        have s4 := (s3).trans st4
        refine ⟨t4, _, (["x", "y"] : List Str).map PyData.str, _, rfl, .inr (.inl (.inl ht4)), dp_strs ["x", "y"], .str _, hx.lay.1, by decide +kernel, hx.lay.2, _, rfl, ?_⟩
        rw [if_neg Bool.false_ne_true, any_strs, inS_str]
        rw [decide_eq_false (by decide +kernel)]
        refine iteF ⟨V.ref p, rfl, ixF 0 _ _ s4 rfl ⟨rfl, _, rfl, iteT ⟨V.ref p, rfl, ixF 1 _ _ s4 rfl ⟨rfl, _, rfl, ?_⟩⟩⟩⟩
        by_cases c : x = Str.ofString "f"
        · rw [decide_eq_true (show V.str x = V.str (Str.ofString "f") from congrArg V.str c)]
          exact iteF ⟨Nat.zero_le _, fun q nq => kk _ q (s4.trans (upd_new nq)) (by rw [if_pos c]; exact upd_same)⟩
        rw [neq c]
        exact iteT ⟨V.ref p, rfl, ixF 1 _ _ s4 rfl ⟨(by show 1 ≤ sizeLine; decide), fun q nq => kk _ q (s4.trans (upd_new nq)) (by rw [if_neg c]; exact upd_same)⟩⟩
end
end SK
namespace SK
open PySem PySem.Spec PyProof.Rows L2 LamX NdefX
open K0 (De DeAll XCl spX withX)
/-! ### the law's routines -/
def KnB (c : Nat) (b1 b2 b3 : PyData) : Prop := ∃ (k1 : Nat) (l1 : List Str) (k2 : Nat) (l2 : List Str) (k3 : Nat) (l3 : List Str), BkR (Str.ofString "down") b1 k1 l1 ∧ BkR (Str.ofString "turn") b2 k2 l2 ∧ BkR (Str.ofString "up") b3 k3 l3 ∧ k1 + k2 + k3 ≤ c
theorem KnB.mono {c c' : Nat} {b1 b2 b3 : PyData} (h : KnB c b1 b2 b3) (q : c ≤ c') : KnB c' b1 b2 b3 := by
  obtain ⟨k1, l1, k2, l2, k3, l3, h1, h2, h3, h4⟩ := h
  exact ⟨k1, l1, k2, l2, k3, l3, h1, h2, h3, Nat.le_trans h4 q⟩
theorem kn_at {b1 b2 b3 : PyData} (h : KnB 30 b1 b2 b3) : ∀ j, j < 3 → ∃ (b : PyData) (blk : Str) (kk : Nat) (ll : List Str), [b1, b2, b3][j]? = some b ∧ blk3[j]? = some blk ∧ blk ∈ blk3 ∧ BkR blk b kk ll ∧ kk ≤ 30 ∧
    ∀ (b' : PyData) (ll' : List Str), BkR blk b' (kk + 1) ll' → ∃ c1 c2 c3 : PyData, [b1, b2, b3].take j ++ [b'] ++ [b1, b2, b3].drop (j + 1) = [c1, c2, c3] ∧ KnB 31 c1 c2 c3 := by
  intro j hj
  obtain ⟨k1, l1, k2, l2, k3, l3, h1, h2, h3, h4⟩ := h
  match j, hj with
  | 0, _ => exact ⟨b1, _, k1, l1, rfl, rfl, by decide +kernel, h1, by omega, fun b' ll' B => ⟨b', b2, b3, rfl, k1 + 1, ll', k2, l2, k3, l3, B, h2, h3, by omega⟩⟩
  | 1, _ => exact ⟨b2, _, k2, l2, rfl, rfl, by decide +kernel, h2, by omega, fun b' ll' B => ⟨b1, b', b3, rfl, k1, l1, k2 + 1, ll', k3, l3, h1, B, h3, by omega⟩⟩
  | 2, _ => exact ⟨b3, _, k3, l3, rfl, rfl, by decide +kernel, h3, by omega, fun b' ll' B => ⟨b1, b2, b', rfl, k1, l1, k2, l2, k3 + 1, ll', h1, h2, B, by omega⟩⟩
theorem StL.split {blk : Str} {n : Nat} : ∀ {ds : List PyData} {k : Nat} {l : List Str} (s : Nat), StL blk n ds k l → ∃ k1 l1 k2 l2, StL blk n (ds.take s) k1 l1 ∧ StL blk n (ds.drop s) k2 l2 ∧ k1 + k2 = k
  | ds, k, l, 0, h => ⟨0, [], k, l, by rw [List.take_zero]; exact .nil, by rw [List.drop_zero]; exact h, by omega⟩
  | [], k, l, s + 1, h => by
    cases h
    exact ⟨0, [], 0, [], .nil, .nil, rfl⟩
  | d :: ds, _, _, s + 1, .cons (k := ka) (l := la) a b => by
    obtain ⟨k1, l1, k2, l2, h1, h2, h3⟩ := b.split s
    exact ⟨ka + k1, la ++ l1, k2, l2, .cons a h1, h2, by omega⟩
theorem BkR.put {blk : Str} {d e : PyData} {k : Nat} {l : List Str} (B : BkR blk d k l) (s : Nat) {le : List Str} (he : StG blk 2 e 1 le) (f : fz e = e) : ∃ ll, BkR blk (.tuple ((elems d).take s ++ [e] ++ (elems d).drop s)) (k + 1) ll := by
  obtain ⟨k1, l1, k2, l2, h1, h2, h3⟩ := B.st.split s
  have hfe := (fz_fix B.fx B.tl).2
  have z := (h1.app (.one he)).app h2
  rw [show k1 + 1 + k2 = k + 1 from by omega] at z
  refine ⟨_, rfl, z, fz_mk fun x hx => ?_⟩
  rcases List.mem_append.mp hx with hx | hx
  · rcases List.mem_append.mp hx with hx | hx
    · exact hfe x (List.mem_of_mem_take hx)
    · rw [List.mem_singleton.mp hx]
      exact f
  · exact hfe x (List.mem_of_mem_drop hx)
theorem deAll_take {K : PySem.W.Frag} {H : Hp} : ∀ {vs : List V} {ds : List PyData} (j : Nat), DeAll K H vs ds → DeAll K H (vs.take j) (ds.take j)
  | _, _, 0, _ => by
    rw [List.take_zero, List.take_zero]
    exact .nil
  | _, _, j + 1, .nil => .nil
  | _, _, j + 1, .cons a b => .cons a (deAll_take j b)
theorem deAll_drop {K : PySem.W.Frag} {H : Hp} : ∀ {vs : List V} {ds : List PyData} (j : Nat), DeAll K H vs ds → DeAll K H (vs.drop j) (ds.drop j)
  | _, _, 0, h => h
  | _, _, j + 1, .nil => .nil
  | _, _, j + 1, .cons a b => deAll_drop j b
theorem deAll_ix {K : PySem.W.Frag} {H : Hp} : ∀ {vs : List V} {ds : List PyData} {j : Nat} {d : PyData}, DeAll K H vs ds → ds[j]? = some d → ∃ v, vs[j]? = some v ∧ De K H v d
  | _, _, j, d, .nil, h => by simp at h
  | _, _, 0, d, .cons a b, h => by
    simp at h
    subst h
    exact ⟨_, rfl, a⟩
  | _, _, j + 1, d, .cons a b, h => by
    obtain ⟨v, h1, h2⟩ := deAll_ix b (by simpa using h)
    exact ⟨v, by simpa using h1, h2⟩
theorem noPart_go {K : PySem.W.Frag} {σ : St} {G : Hp} {x : V} {l : Option Int} {R : VK} (h : rSlA K x l none G R) : tNoPart σ G (fun u H3 => rSlA K x l u H3 R) := h
/-- right blocks, in their order -/
def BsR (bs : List PyData) : Prop := ∀ (j : Nat) (b : PyData), bs[j]? = some b → ∃ blk kk ll, blk3[j]? = some blk ∧ BkR blk b kk ll ∧ kk ≤ 30
def spRo (K : PySem.W.Frag) : Sp := fun vs H Q _ => ∃ (p l : Addr) (ns : List Int) (k lf : Int), vs = [.ref p] ∧ PenAt H p l ns k lf ∧ ns.length ≤ 63 ∧ 0 ≤ k ∧ k + 1000 ≤ 100000 ∧ 0 ≤ lf ∧
  ∀ (H' : Hp) (k' lf' : Int) (v : V) (b1 b2 b3 : PyData), k' ≤ k + 900 → 0 ≤ k' → 0 ≤ lf' → SameBut p H H' → PenAt H' p l ns k' lf' → De K H' v (.tuple [b1, b2, b3]) → KnB 31 b1 b2 b3 → Q v H'
section
variable {P : Program} {w : World} {K : PySem.W.Frag} {mg : Str → Option Value} {base : Heap} {f fD fPk fKn fLb fSz fSi : Addr} {fd fdD fdPk fdKn fdLb fdSz fdSi : FuncData}
abbrev NRo : List Str := ["pen", "known", "blocks", "way", "names", "drawn", "block", "at", "more", "spot", "name"]
theorem ok_ro (F : Fun K "_law_routine" "_law_routine" (top 58) f fd) (gTu : mg "tuple" = none) (gSu : mg "sum" = none) (gN : mg "len" = none)
    (gD : mg "_law_draw" = some (.ref fD)) (kD : PySem.W.keepIn K (.ref fD) = true) (GD : FnOk P w K mg base CX0 1 fD fdD ["pen", "many"] spDraw) (bD : Binds K fdD ["pen", "many"] [])
    (gPk : mg "_law_pick" = some (.ref fPk)) (kPk : PySem.W.keepIn K (.ref fPk) = true) (GPk : FnOk P w K mg base CX0 2 fPk fdPk ["pen", "some"] spPick) (bPk : Binds K fdPk ["pen", "some"] [])
    (gKn : mg "_law_known" = some (.ref fKn)) (kKn : PySem.W.keepIn K (.ref fKn) = true) (GKn : FnOk P w K mg base CX0 1 fKn fdKn ["name"] (spKn K)) (bKn : Binds K fdKn ["name"] [])
    (gLb : mg "_law_block" = some (.ref fLb)) (kLb : PySem.W.keepIn K (.ref fLb) = true) (GLb : FnOk P w K mg base CX0 10 fLb fdLb ["pen", "name", "most", "depth"] (spLb K 3)) (bLb : Binds K fdLb ["pen", "name", "most", "depth"] [])
    (gSz : mg "_law_size" = some (.ref fSz)) (kSz : PySem.W.keepIn K (.ref fSz) = true) (GSz : FnOk P w K mg base CX0 4 fSz fdSz ["block"] (spSz K 3)) (bSz : Binds K fdSz ["block"] [])
    (gSi : mg "_law_simple" = some (.ref fSi)) (kSi : PySem.W.keepIn K (.ref fSi) = true) (GSi : FnOk P w K mg base CX0 3 fSi fdSi ["pen", "name"] (spSi K)) (bSi : Binds K fdSi ["pen", "name"] []) :
    FnOk P w K mg base CX0 11 f fd ["pen"] (spRo K) := by
  have S0 : FnScope NRo ["pen"] (defScope (top 58)) := ⟨rfl, rfl, rfl, by decide +kernel, rfl, by decide +kernel, by decide +kernel⟩
  have nd := S0.nd
  refine F.ok S0 (fun vs H Q E h => ?_) (fun cdv A outer s H vs Q E hr h => ?_)
  · obtain ⟨p, l, ns, k, lf, rfl, _⟩ := h
    rfl
  · obtain ⟨p, l, ns, k, lf, rfl, P0, hn, i0, i1, i2, kk⟩ := h
    have hr1 : Room 1 _ := hr.mono (by decide)
    have hr2 : Room 2 _ := hr.mono (by decide)
    have hr3 : Room 3 _ := hr.mono (by decide)
    have hr4 : Room 4 _ := hr.mono (by decide)
    have hr10 : Room 10 _ := hr.mono (by decide)
    refine ⟨_, (pss_cons (ps_set (i := 1) nd rfl (Or.inl rfl) (pe_call GPk hr2 (by rfl) gPk kPk bPk .nil pass0 (pa_cons (pv 0) (pa_cons (pe_lst (pa_cons pe_str (pa_cons pe_str (pa_cons pe_str (pa_cons pe_str (pa_cons pe_str (pa_cons pe_str pa_nil))))))) pa_nil))))
        (pss_cons (ps_par3 (i := 2) (j := 3) (l := 4) rfl nd rfl rfl rfl (by decide) (by decide) (by decide) rfl rfl rfl (pa_cons (pe_call GKn hr1 (by rfl) gKn kKn bKn .nil pass0 (pa_cons (pv 1) pa_nil)) (pa_cons (pe_call GD hr1 (by rfl) gD kD bD .nil pass0 (pa_cons (pv 0) (pa_cons pe_int pa_nil))) (pa_cons (pe_lst (pa_cons pe_str (pa_cons pe_str (pa_cons pe_str pa_nil)))) pa_nil))) rfl)
        (pss_cons (ps_if (pt_cmpR op_eq (pv 3) pe_int (nomark _)) (pss_cons (ps_set (i := 5) nd rfl (Or.inl rfl) (pe_callTy call_tuple_of (by rfl) gTu PyProof.Rows.boot_tuple (pa_cons (pe_lc (own := [("name", 10)]) (g := gName 10) (tt := tYes) rfl nd (pi_list (pv 4)) (blkOk_by (N := NRo) (sc := defScope (top 58)) (by decide +kernel)) (fun _ _ _ _ _ => pg_name (i := 10) nd rfl (Or.inl rfl)) (fun _ _ _ _ _ => pts_nil) (fun _ _ _ _ _ => (pe_call GLb hr10 (by rfl) gLb kLb bLb .nil pass0 (pa_cons (pv 0) (pa_cons (pv 10) (pa_cons pe_int (pa_cons pe_int pa_nil))))))) pa_nil)))
        (pss_one (ps_ret (pe_ifExp (pt_cmpR op_le (pe_callB (cr_sum rfl) (by rfl) gSu PyProof.Rows.boot_sum (pa_cons (pe_lc (own := [("block", 6)]) (g := gName 6) (tt := tYes) rfl nd (pi_tup (pv 5)) (blkOk_by (N := NRo) (sc := defScope (top 58)) (by decide +kernel)) (fun _ _ _ _ _ => pg_name (i := 6) nd rfl (Or.inl rfl)) (fun _ _ _ _ _ => pts_nil) (fun _ _ _ _ _ => (pe_call GSz hr4 (by rfl) gSz kSz bSz .nil pass0 (pa_cons (pv 6) pa_nil)))) pa_nil)) pe_int (nomark _)) (pv 5) (pv 2))))) pss_nil)
        (pss_cons (ps_if (pt_cmpR op_eq (pv 3) pe_int (nomark _)) (pss_cons (ps_set (i := 7) nd rfl (Or.inl rfl) (pe_call GD hr1 (by rfl) gD kD bD .nil pass0 (pa_cons (pv 0) (pa_cons pe_int pa_nil))))
        (pss_cons (ps_par (i := 8) (j := 9) rfl nd rfl rfl (by decide) rfl rfl (pa_cons (pe_tup (pa_cons (pe_call GSi hr3 (by rfl) gSi kSi bSi .nil pass0 (pa_cons (pv 0) (pa_cons (pe_ix (r := rIx K) ix_seq (pv 4) (pv 7) (fun _ _ => rfl)) pa_nil))) pa_nil)) (pa_cons (pe_call GD hr1 (by rfl) gD kD bD .nil pass0 (pa_cons (pv 0) (pa_cons (pe_op op_add (pe_callB call_len_seq (by rfl) gN PySem.boot_len (pa_cons (pe_ix (r := rIx K) ix_seq (pv 2) (pv 7) (fun _ _ => rfl)) pa_nil)) pe_int) pa_nil))) pa_nil)) rfl)
        (pss_cons (ps_set (i := 6) nd rfl (Or.inl rfl) (pe_op op_catA (pe_op op_catA (pe_slice sl_tupA (pe_ix (r := rIx K) ix_seq (pv 2) (pv 7) (fun _ _ => rfl)) po_none (po_some (pv 9))) (pv 8)) (pe_slice sl_tupA (pe_ix (r := rIx K) ix_seq (pv 2) (pv 7) (fun _ _ => rfl)) (po_some (pv 9)) po_none)))
        (pss_one (ps_ret (pe_op op_catA (pe_op op_catA (pe_slice sl_tupA (pv 2) po_none (po_some (pv 7))) (pe_tup (pa_cons (pv 6) pa_nil))) (pe_slice sl_tupA (pv 2) (po_some (pe_op op_add (pv 7) pe_int)) po_none))))))) pss_nil)
        (pss_one (ps_ret (pv 2))))))), ?_⟩
    have b5 : (5000 : Nat) < sizeLine := by decide
    have keepP : ∀ {G G' : Hp} {k' lf' : Int}, PenAt G p l ns k' lf' → Same G G' → PenAt G' p l ns k' lf' := fun {G G' k' lf'} h s => ⟨s _ _ h.dc, s _ _ h.ls⟩
    refine ⟨V.ref p, rfl, (by show 6 ≤ sizeLine; decide), fun q nq => ?_⟩
    have s0 := upd_new (o := .lst (known6.map V.str)) nq
    have hq0 : upd H q (.lst (known6.map V.str)) q = some (.lst (known6.map V.str)) := upd_same
    have PQ := keepP P0 s0
    refine ⟨p, l, .ref q, ns, k, lf, known6.map V.str, rfl, PQ, hn, i0, by omega, i2, .inl ⟨q, rfl, hq0⟩, by decide, by decide, fun G1 k1 lf1 y e1 e2 e3 hy s1 P1 => ?_⟩
    obtain ⟨x, hx, rfl⟩ := List.mem_map.mp hy
    have sb1 := (SameBut.of (p := p) s0).trans s1
    refine ⟨V.str x, rfl, x, rfl, hx, fun G2 v2 b1 b2 b3 s2 hv2 hk2 => ?_⟩
    have hk2 : KnB 30 b1 b2 b3 := hk2
    have P2 := keepP P1 s2
    refine ⟨V.ref p, rfl, p, l, ns, k1, lf1, 4, rfl, P2, hn, e2, by omega, e3, by decide, by decide, fun G3 k3 lf3 d f1 f2 f3 f4 f5 s3 P3 => ⟨(by show 3 ≤ sizeLine; decide), fun na nna => ⟨v2, V.int d, .ref na, rfl, ?_⟩⟩⟩
    have s4 := upd_new (o := .lst (blk3.map V.str)) nna
    have hn4 : upd G3 na (.lst (blk3.map V.str)) na = some (.lst (blk3.map V.str)) := upd_same
    have P4 := keepP P3 s4
    have hv4 := de_mono s4 _ _ (de_but P2.dc s3 hv2)
    have sb4 := ((sb1.trans (.of s2)).trans s3).trans (.of s4)
    have hGe : upd G3 na (.lst [.str "down", .str "turn", .str "up"]) = upd G3 na (.lst (blk3.map V.str)) := rfl
    rw [hGe]
    generalize upd G3 na (.lst (blk3.map V.str)) = G4 at hn4 P4 hv4 sb4
    clear s4 s3 s2 s1 s0 hGe
    refine ⟨V.int d, rfl, rfl, _, rfl, ite2 (fun c => ?_) (fun c => ?_)⟩
    · have e90 : eD 2 = 90 := by decide
      have c10 : c1 2 = 10 := by decide
      refine ⟨V.ref na, rfl, na, rfl, ⟨_, .inl (.inl hn4)⟩, fun D nD => lc_it (walk_list (K := K) (xs := blk3.map V.str)) (fun i G => ∃ (k' lf' : Int) (acc : List V) (bs : List PyData), SameBut p G4 G ∧ PenAt G p l ns k' lf' ∧ 0 ≤ k' ∧ k' ≤ k3 + 271 * i ∧ 0 ≤ lf' ∧ G D = some (.lst acc) ∧ acc.length = i ∧ DeAll K G acc bs ∧ BsR bs ∧ ∀ e ∈ bs, fz e = e)
        ⟨k3, lf3, [], [], .of (upd_new nD), keepP P4 (upd_new nD), f2, by omega, f3, upd_same, rfl, .nil, fun j b h => by simp at h, fun e he => by cases he⟩ (fun i G _ q => ?_) ?_ ?_⟩
      · obtain ⟨k', lf', acc, bs, sG, _⟩ := q
        exact .inl (.inl (sG _ _ (ne_of hn4 P4.dc (by intro z; cases z)) hn4))
      · rintro i x G G' hi ⟨k5, lf5, acc, bs, sG, PG, g1, g2, g3, hD, hal, hde, hbs, hfx⟩ ⟨rfl, hx⟩
        obtain ⟨blk, hblk, rfl⟩ := map_at (enc := V.str) (ws := blk3) hx
        have hi3 : i < 3 := hi
        have hbl := List.mem_of_getElem? hblk
        refine ⟨rfl, V.ref p, rfl, V.str blk, rfl, p, l, ns, k5, lf5, blk, 3, 2, rfl, by decide, by decide, by decide, hbl, PG, hn, g1, (by rw [e90]; omega), g3, fun G6 k6 lf6 u b kb lb h1 h2 h3 s6 P6 hu ht hf hst hkb => ?_⟩
        rw [e90] at h1
        rw [c10] at hkb
        have hD6 := s6 _ _ (ne_of hD PG.dc (by intro z; cases z)) hD
        have hde6 := de_butAll PG.dc s6 hde
        have fx : ∀ e ∈ bs ++ [b], fz e = e := fun e he => by
          rcases List.mem_append.mp he with he | he
          · exact hfx e he
          · rw [List.mem_singleton.mp he]
            exact hf
        have hlb : bs.length = i := by rw [← deAll_len hde, hal]
        have nDp : D ≠ p := fun z => by rw [z, P4.dc] at nD; cases nD
        have nDl : D ≠ l := fun z => by rw [z, P4.ls] at nD; cases nD
        refine ⟨acc, hD6, by omega, k6, lf6, acc ++ [u], bs ++ [b], fun a o ha e => ?_, ⟨by rw [upd_ne (Ne.symm nDp)]; exact P6.dc, by rw [upd_ne (Ne.symm nDl)]; exact P6.ls⟩, h2, by omega, h3, upd_same, by rw [List.length_append, hal]; rfl, deAll_keep fx (keepN_app hD6) (deAll_app hde6 (.cons hu .nil)), fun j b' hj => ?_, fx⟩
        · rw [upd_ne (ne_of_none e nD)]
          exact (sG.trans s6) _ _ ha e
        · by_cases hji : j < bs.length
          · rw [List.getElem?_append_left hji] at hj
            exact hbs j b' hj
          · have ej : j = bs.length := by
              have z := (List.getElem?_eq_some_iff.mp hj).1
              rw [List.length_append, List.length_singleton] at z
              omega
            subst ej
            rw [List.getElem?_concat_length] at hj
            injection hj with hj
            subst hj
            exact ⟨blk, kb, lb, by rw [hlb]; exact hblk, ⟨ht, hst, hf⟩, by omega⟩
      · rintro G ⟨k5, lf5, acc, bs, sG, PG, g1, g2, g3, hD, hal, hde, hbs, hfx⟩
        have hal : acc.length = 3 := hal
        refine ⟨D, acc, rfl, .inl ⟨.inl (.inl hD), fun t nt => ?_⟩⟩
        have s6 := upd_new (o := .tup acc) nt
        have ht6 : upd G t (.tup acc) t = some (.tup acc) := upd_same
        have P6 := keepP PG s6
        have hde6 := de_monoAll s6 _ _ hde
        have hv6 := de_mono s6 _ _ (de_but P4.dc sG hv4)
        have sb6 := (sb4.trans sG).trans (.of s6)
        generalize upd G t (.tup acc) = G6 at ht6 P6 hde6 hv6 sb6
        have hbl : bs.length = 3 := by rw [← deAll_len hde, hal]
        match acc, bs, hal, hbl, hde6, hbs, ht6 with
        | [u1, u2, u3], [d1, d2, d3], _, _, hde6, hbs, ht6 =>
        obtain ⟨k1', l1', m1, w1, B1, y1⟩ := hbs 0 d1 rfl
        obtain ⟨k2', l2', m2, w2, B2, y2⟩ := hbs 1 d2 rfl
        obtain ⟨k3', l3', m3, w3, B3, y3⟩ := hbs 2 d3 rfl
        cases w1
        cases w2
        cases w3
        cases hde6 with
        | cons z1 hde6 =>
        cases hde6 with
        | cons z2 hde6 =>
        cases hde6 with
        | cons z3 hde6 =>
        have rows : ∀ (i : Nat) (x : V × Nat), [(u1, l1'), (u2, l2'), (u3, l3')][i]? = some x → ∃ (d : PyData) (blk : Str) (ll : List Str), De K G6 x.1 d ∧ BkR blk d x.2 ll ∧ x.2 ≤ 30 := fun i x hx => by
          have hm := List.mem_of_getElem? hx
          simp only [List.mem_cons, List.mem_nil_iff, or_false] at hm
          rcases hm with rfl | rfl | rfl
          · exact ⟨_, _, _, z1, B1, y1⟩
          · exact ⟨_, _, _, z2, B2, y2⟩
          · exact ⟨_, _, _, z3, B3, y3⟩
        refine ⟨V.ref t, rfl, t, rfl, ⟨_, .inl (.inl ht6)⟩, fun D2 nD2 => lcS_tup (K := K) (ws := [(u1, l1'), (u2, l2'), (u3, l3')]) (fun x => x.1) nD2 (fun x => V.int (x.2 : Nat)) (fun _ => true) (.inl (.inl ht6)) (by show 3 < sizeLine; decide) (fun i x G hx sG A B kA kB => ?_) fun G sG hD => ?_⟩
        · obtain ⟨dx, bx, lx, hdx, Bx, hkx⟩ := rows i x hx
          exact ⟨rfl, x.1, rfl, x.1, dx, bx, 2, x.2, lx, rfl, de_mono sG _ _ hdx, Bx.fx, Bx.tl, Bx.st, by decide, by omega, fun H' s => kA rfl H' s⟩
        · have hD : G D2 = some (.lst ([(l1' : Int), (l2' : Int), (l3' : Int)].map V.int)) := hD
          refine ⟨D2, [(l1' : Int), (l2' : Int), (l3' : Int)], rfl, .inl (.inl hD), ?_⟩
          refine ⟨_, 30, rfl, rfl, _, rfl, ite2 (fun cc => ?_) (fun cc => ?_)⟩
          · have cc := of_decide_eq_true cc
            simp only [List.sum_cons, List.sum_nil] at cc
            exact ⟨V.ref t, rfl, kk G k5 lf5 (.ref t) d1 d2 d3 (by omega) g1 g3 (sb6.trans (.of sG)) (keepP P6 sG) (.tup (sG _ _ ht6) (de_monoAll sG _ _ (.cons z1 (.cons z2 (.cons z3 .nil))))) ⟨l1', m1, l2', m2, l3', m3, B1, B2, B3, by omega⟩⟩
          · exact ⟨v2, rfl, kk G k5 lf5 v2 b1 b2 b3 (by omega) g1 g3 (sb6.trans (.of sG)) (keepP P6 sG) (de_mono sG _ _ hv6) (hk2.mono (by decide))⟩
    · refine ⟨V.int d, rfl, rfl, _, rfl, ite2 (fun c1 => ?_) (fun c1 => ?_)⟩
      · refine ⟨V.ref p, rfl, p, l, ns, k3, lf3, 3, rfl, P4, hn, f2, by omega, f3, by decide, by decide, fun G5 k5 lf5 d5 g1 g2 g3 g4 g5 s5 P5 => ?_⟩
        obtain ⟨j, hj⟩ : ∃ j : Nat, d5 = (j : Int) := ⟨d5.toNat, (Int.toNat_of_nonneg g4).symm⟩
        subst hj
        obtain ⟨b, blk, kb, lb, hb1, hb2, hb3, B, hkb, fin⟩ := kn_at hk2 j (by omega)
        have hv5 := de_but P4.dc s5 hv4
        have hn5 := s5 _ _ (ne_of hn4 P4.dc (by intro z; cases z)) hn4
        obtain ⟨a2, us, rfl, ha5, hus⟩ : ∃ (a2 : Addr) (us : List V), v2 = .ref a2 ∧ G5 a2 = some (.tup us) ∧ DeAll K G5 us [b1, b2, b3] := by
          cases hv5 with
          | tup a b => exact ⟨_, _, rfl, a, b⟩
        obtain ⟨u, huj, hde⟩ := deAll_ix hus hb1
        obtain ⟨ab, ws, rfl, hab, hws⟩ := fz_tup hde B.fx B.tl
        have hul := deAll_len hus
        have hwl := deAll_len hws
        have hsl := B.st.len
        have hul : us.length = 3 := hul
        have bix : ∀ {G : Hp} (R : VK), Same G5 G → R (.ref ab) G → rIx K (.ref a2) (.int (j : Nat)) G R := fun {G} R s hR => .inr (.inl ⟨a2, us, (j : Int), .ref ab, rfl, rfl, .inl (.inl (s _ _ ha5)), atI_nat huj, hR⟩)
        have hblkj : (blk3.map V.str)[j]? = some (.str blk) := by rw [List.getElem?_map, hb2]; rfl
        refine ⟨V.ref p, rfl, V.ref na, rfl, V.int (j : Nat), rfl, .inl ⟨na, blk3.map V.str, (j : Int), .str blk, rfl, rfl, .inl (.inl hn5), atI_nat hblkj, ?_⟩⟩
        refine ⟨p, l, ns, k5, lf5, blk, rfl, hb3, P5, hn, g2, by omega, g3, fun G6 k6 lf6 v6 d6 h1 h2 h3 s6 P6 hv6 hs6 => ⟨(by show 1 ≤ sizeLine; decide), fun t7 nt7 => ?_⟩⟩
        have s7 := upd_new (o := .tup [v6]) nt7
        have ht7 : upd G6 t7 (.tup [v6]) t7 = some (.tup [v6]) := upd_same
        have P7 := keepP P6 s7
        have hv7 := de_mono s7 _ _ hv6
        have sb7 := (sb4.trans s5).trans (s6.trans (.of s7))
        have up : ∀ {a : Addr} {o : HO}, a ≠ p → G5 a = some o → upd G6 t7 (.tup [v6]) a = some o := fun {a o} ha e => s7 _ _ (s6 _ _ ha e)
        have ha7 := up (ne_of ha5 P5.dc (by intro z; cases z)) ha5
        have hab7 := up (ne_of hab P5.dc (by intro z; cases z)) hab
        have hus7 := de_monoAll s7 _ _ (de_butAll P5.dc s6 hus)
        have hws7 := de_monoAll s7 _ _ (de_butAll P5.dc s6 hws)
        generalize upd G6 t7 (.tup [v6]) = G7 at ht7 P7 hv7 sb7 ha7 hab7 hus7 hws7
        clear up s7 bix
        have bix : ∀ {G : Hp} (R : VK), Same G7 G → R (.ref ab) G → rIx K (.ref a2) (.int (j : Nat)) G R := fun {G} R s hR => .inr (.inl ⟨a2, us, (j : Int), .ref ab, rfl, rfl, .inl (.inl (s _ _ ha7)), atI_nat huj, hR⟩)
        refine ⟨V.ref p, rfl, V.ref a2, rfl, V.int (j : Nat), rfl, bix _ (Same.refl _) ⟨ab, ws, rfl, .inr (.inl (.inl hab7)), _, 1, rfl, rfl, ?_⟩⟩
        refine ⟨p, l, ns, k6, lf6, _, rfl, P7, hn, h2, by omega, h3, by omega, by omega, fun G8 k8 lf8 d8 q1 q2 q3 q4 q5 s8 P8 => ⟨.ref t7, .int d8, rfl, ?_⟩⟩
        obtain ⟨sp, hsp⟩ : ∃ sp : Nat, d8 = (sp : Int) := ⟨d8.toNat, (Int.toNat_of_nonneg q4).symm⟩
        subst hsp
        have hspl : sp ≤ ws.length := by omega
        have up : ∀ {a : Addr} {o : HO}, a ≠ p → G7 a = some o → G8 a = some o := fun {a o} ha e => s8 _ _ ha e
        have ha8 := up (ne_of ha7 P7.dc (by intro z; cases z)) ha7
        have hab8 := up (ne_of hab7 P7.dc (by intro z; cases z)) hab7
        have ht8 := up (ne_of ht7 P7.dc (by intro z; cases z)) ht7
        have hus8 := de_butAll P7.dc s8 hus7
        have hws8 := de_butAll P7.dc s8 hws7
        have hv8 := de_but P7.dc s8 hv7
        have sb8 := sb7.trans s8
        clear up bix
        have bix : ∀ {G : Hp} (R : VK), Same G8 G → R (.ref ab) G → rIx K (.ref a2) (.int (j : Nat)) G R := fun {G} R s hR => .inr (.inl ⟨a2, us, (j : Int), .ref ab, rfl, rfl, .inl (.inl (s _ _ ha8)), atI_nat huj, hR⟩)
        refine ⟨V.ref a2, rfl, V.int (j : Nat), rfl, bix _ (Same.refl _) ⟨V.int (sp : Nat), rfl, (sp : Int), rfl, sl_any hab8 fun G9 r9 s9 hr9 => ?_⟩⟩
        rw [cut_to ws hspl] at hr9
        refine ⟨V.ref t7, rfl, cat_any hr9 (s9 _ _ ht8) (by rw [List.length_take, List.length_singleton]; omega) fun G10 r10 s10 hr10 => ?_⟩
        have s910 := s9.trans s10
        refine ⟨V.ref a2, rfl, V.int (j : Nat), rfl, bix _ s910 ⟨V.int (sp : Nat), rfl, (sp : Int), rfl, ?_⟩⟩
        refine noPart_go (sl_any (s910 _ _ hab8) fun G11 r11 s11 hr11 => ?_)
        rw [cut_from ws hspl] at hr11
        refine cat_any (s11 _ _ hr10) hr11 (by rw [List.length_append, List.length_take, List.length_singleton, List.length_drop]; omega) fun G12 r12 s12 hr12 => ?_
        have s812 := s910.trans (s11.trans s12)
        have ha12 := s812 _ _ ha8
        have hws12 := de_monoAll s812 _ _ hws8
        have hus12 := de_monoAll s812 _ _ hus8
        have hv12 := de_mono s812 _ _ hv8
        have hnew : De K G12 (.ref r12) (.tuple ((elems b).take sp ++ [d6] ++ (elems b).drop sp)) := .tup hr12 (deAll_app (deAll_app (deAll_take sp hws12) (.cons hv12 .nil)) (deAll_drop sp hws12))
        have P12 := keepP P8 s812
        have sb12 := sb8.trans (.of s812)
        obtain ⟨l6, hg6⟩ := smR_g hs6
        obtain ⟨ll, B'⟩ := B.put sp (hg6.le (Nat.zero_le _)) (sm_fz hs6)
        obtain ⟨c1', c2', c3', hce, hkn⟩ := fin _ _ B'
        refine ⟨V.ref a2, rfl, V.int (j : Nat), rfl, (j : Int), rfl, sl_any ha12 fun G13 r13 s13 hr13 => ?_⟩
        rw [cut_to us (by omega)] at hr13
        refine ⟨V.ref r12, rfl, (by show 1 ≤ sizeLine; decide), fun t14 nt14 => ?_⟩
        have s14 := upd_new (o := .tup [.ref r12]) nt14
        have ht14 : upd G13 t14 (.tup [.ref r12]) t14 = some (.tup [.ref r12]) := upd_same
        generalize upd G13 t14 (.tup [.ref r12]) = G14 at s14 ht14
        refine cat_any (s14 _ _ hr13) ht14 (by rw [List.length_take, List.length_singleton]; omega) fun G15 r15 s15 hr15 => ?_
        have s1215 := s13.trans (s14.trans s15)
        refine ⟨V.ref a2, rfl, V.int (j : Nat), rfl, (j : Int), 1, rfl, rfl, ((j + 1 : Nat) : Int), rfl, ?_⟩
        refine noPart_go (sl_any (s1215 _ _ ha12) fun G16 r16 s16 hr16 => ?_)
        rw [cut_from us (by omega)] at hr16
        refine cat_any (s16 _ _ hr15) hr16 (by rw [List.length_append, List.length_take, List.length_singleton, List.length_drop]; omega) fun G17 r17 s17 hr17 => ?_
        have s1217 := s1215.trans (s16.trans s17)
        have hus17 := de_monoAll s1217 _ _ hus12
        have hall := deAll_app (deAll_app (deAll_take j hus17) (.cons (de_mono s1217 _ _ hnew) .nil)) (deAll_drop (j + 1) hus17)
        rw [hce] at hall
        exact kk G17 k8 lf8 (.ref r17) c1' c2' c3' (by omega) q2 q3 (sb12.trans (.of s1217)) (keepP P12 s1217) (.tup hr17 hall) hkn
      · exact ⟨v2, rfl, kk G4 k3 lf3 v2 b1 b2 b3 (by omega) f2 f3 sb4 P4 hv4 (hk2.mono (by decide))⟩
end
end SK
namespace SK
open PySem PySem.Spec PyProof.Rows L2 LamX NdefX
open K0 (De DeAll XCl spX withX)
/-! ### the law -/
theorem eqvAll_len : ∀ {xs ys : List PyData}, xs.length ≠ ys.length → PyData.eqvAll xs ys = false
  | [], [], h => absurd rfl h
  | [], _ :: _, _ => by simp [PyData.eqvAll]
  | _ :: _, [], _ => by simp [PyData.eqvAll]
  | x :: xs, y :: ys, h => by
    rw [PyData.eqvAll, eqvAll_len (fun z => h (by rw [List.length_cons, List.length_cons, z])), Bool.and_false]
theorem eqv_longer {d : PyData} {xs : List PyData} (h : d = .tuple xs) (e : PyData) : PyData.eqv d (.tuple (xs ++ [e])) = false := by
  rw [h]
  simp only [PyData.eqv]
  exact eqvAll_len (by rw [List.length_append, List.length_singleton]; omega)
/-! names are p, x or y -/
def pxy (l : List Str) : Prop := ∀ y ∈ l, y ∈ (["p", "x", "y"] : List Str)
theorem pxy_app {a b : List Str} (h1 : pxy a) (h2 : pxy b) : pxy (a ++ b) := fun y hy => (List.mem_append.mp hy).elim (h1 y) (h2 y)
theorem pxy_nil : pxy [] := fun y hy => by cases hy
theorem pxy_p : pxy ["p"] := fun y hy => by rw [List.mem_singleton.mp hy]; decide +kernel
theorem pxy_ite {c : Prop} [Decidable c] {a b : List Str} (h1 : c → pxy a) (h2 : ¬ c → pxy b) : pxy (if c then a else b) := by
  by_cases h : c
  · rw [if_pos h]
    exact h1 h
  · rw [if_neg h]
    exact h2 h
theorem pxy_one {z : Str} (h : z ∈ (["p", "x", "y"] : List Str)) : pxy [z] := fun y hy => by rw [List.mem_singleton.mp hy]; exact h
theorem nmW_pxy (h : PyData) : pxy (nmW h) := by
  unfold nmW
  refine pxy_ite (fun _ => pxy_p) fun _ => ?_
  split
  · exact pxy_ite (fun h => pxy_one h) fun _ => pxy_nil
  · exact pxy_nil
theorem nmT_pxy : ∀ (n : Nat) (d : PyData), pxy (nmT n d)
  | 0, d => by
    simp only [nmT]
    exact pxy_nil
  | n + 1, d => by
    unfold nmT
    split
    · exact pxy_nil
    · rename_i h r _
      unfold nmT2
      refine pxy_ite (fun _ => ?_) fun _ => pxy_ite (fun _ => ?_) fun _ => nmW_pxy h
      · split
        · exact nmT_pxy n _
        · exact pxy_nil
      · split
        · exact pxy_app (nmT_pxy n _) (nmT_pxy n _)
        · exact pxy_nil
section
variable {blk : Str}
mutual
theorem stG_pxy : ∀ {n : Nat} {d : PyData} {k : Nat} {l : List Str}, StG blk n d k l → pxy l
  | _, _, _, _, .one a b c => pxy_ite (fun _ => pxy_p) fun _ => pxy_nil
  | _, _, _, _, .set (x := x) a b c => pxy_ite (fun _ => pxy_nil) fun h => pxy_one (by
    have q : ∀ x ∈ (["f", "x", "y"] : List Str), x ≠ Str.ofString "f" → x ∈ (["p", "x", "y"] : List Str) := by decide +kernel
    exact q x c h)
  | _, _, _, _, .ret a b c => pxy_ite (fun _ => pxy_p) fun _ => pxy_nil
  | _, _, _, _, .retc a b c d => pxy_p
  | _, _, _, _, .iff (t := t) a b c d e f g h => pxy_app (pxy_app (nmT_pxy 6 t) (stL_pxy g)) (stL_pxy h)
theorem stL_pxy : ∀ {n : Nat} {ds : List PyData} {k : Nat} {l : List Str}, StL blk n ds k l → pxy l
  | _, _, _, _, .nil => pxy_nil
  | _, _, _, _, .cons a b => pxy_app (stG_pxy a) (stL_pxy b)
end
end
theorem pxy_srtU {l : List Str} (h : pxy l) : pxy (srtU l) := fun y hy => h y (mem_nubS.mp ((srt_perm _).mem_iff.mp hy))
theorem pxy_lay {l : List Str} (h : pxy l) : PyData.canLayAll0 (l.map PyData.str) = true := by
  induction l with
  | nil => rfl
  | cons x l ih =>
    have q : ∀ x ∈ (["p", "x", "y"] : List Str), PyData.strOk x = true := by decide +kernel
    simp only [List.map_cons, PyData.canLayAll0, PyData.canLay0, q x (h x (by simp)), ih fun y hy => h y (List.mem_cons_of_mem _ hy)]
    rfl
theorem strs_depth : ∀ l : List Str, PyData.depthAll (l.map PyData.str) = 0
  | [] => by simp [PyData.depthAll]
  | x :: l => by simp [PyData.depthAll, PyData.depth, strs_depth l]
theorem pxy_shaped {l : List Str} (h : pxy l) : SeqAt.shaped (.tuple (l.map PyData.str)) = true := by
  unfold SeqAt.shaped
  rw [Bool.and_eq_true, decide_eq_true_eq]
  refine ⟨by simp only [PyData.canLay0]; exact pxy_lay h, ?_⟩
  simp only [PyData.depth, strs_depth]
  decide
/-! routines made -/
theorem mk_ro {K : PySem.W.Frag} {CR : Addr} {H : Hp} {R : Addr → Hp → Prop} {E : XK} {v1 v2 v3 : V} {d1 d2 d3 : PyData} {n1 n2 n3 : Nat} (B1 : BlkQ K H (Str.ofString "down") v1 d1 n1) (B2 : BlkQ K H (Str.ofString "turn") v2 d2 n2) (B3 : BlkQ K H (Str.ofString "up") v3 d3 n3) (hz : n1 + n2 + n3 ≤ 40)
    (kk : ∀ (H' : Hp) (x : Addr), Same H H' → RoF K CR H' (.ref x) d1 d2 d3 → R x H') : ∀ x dx, H x = none → H dx = none → dx ≠ x → spInitRo K CR [.ref x, v1, v2, v3] (upd (upd H dx (.own x)) x (.ins CR dx [])) (fun v H3 => v = .non ∧ R x H3) E := by
  intro x dx nx ndx nxd
  have s7 : Same H (upd (upd H dx (.own x)) x (.ins CR dx [])) := fun b o e => by
    rw [upd_ne (ne_of_none e nx), upd_ne (ne_of_none e ndx)]
    exact e
  have hx7 : upd (upd H dx (.own x)) x (.ins CR dx []) x = some (.ins CR dx []) := upd_same
  generalize upd (upd H dx (.own x)) x (.ins CR dx []) = H7 at s7 hx7
  have mq : ∀ {blk : Str} {v : V} {d : PyData} {n : Nat}, BlkQ K H blk v d n → BlkQ K H7 blk v d n := fun {blk v d n} b => ⟨de_mono s7 _ _ b.1, b.2⟩
  refine ⟨x, dx, v1, v2, v3, d1, d2, d3, n1, n2, n3, rfl, hx7, mq B1, mq B2, mq B3, hz, fun H' fs u1 u2 u3 hb hx T => ⟨rfl, kk H' x (fun b o e => ?_) ⟨x, dx, fs, u1, u2, u3, rfl, hx, T⟩⟩⟩
  exact hb b o (fun z => by rw [z, nx] at e; cases e) (s7 _ _ e)
theorem RoF.lz {K : PySem.W.Frag} {CR : Addr} {H : Hp} {x : V} {d1 d2 d3 : PyData} (h : RoF K CR H x (lz d1) (lz d2) (lz d3)) : RoF K CR H x d1 d2 d3 := by
  obtain ⟨a, dx, fs, u1, u2, u3, e, ha, T⟩ := h
  have e1 := T.e1
  have e2 := T.e2
  have e3 := T.e3
  rw [fz_lz] at e1 e2 e3
  exact ⟨a, dx, fs, u1, u2, u3, e, ha, T.f1, T.f2, T.f3, T.no, e1, e2, e3⟩
theorem RoF.keep {K : PySem.W.Frag} {CR : Addr} {H H' : Hp} {x : V} {d1 d2 d3 : PyData} (h : RoF K CR H x d1 d2 d3) (m : KeepN H H') : RoF K CR H' x d1 d2 d3 := by
  obtain ⟨a, dx, fs, u1, u2, u3, e, ha, T⟩ := h
  exact ⟨a, dx, fs, u1, u2, u3, e, m _ _ (fun _ z => nomatch z) ha, T.f1, T.f2, T.f3, T.no, de_fz m _ _ T.e1, de_fz m _ _ T.e2, de_fz m _ _ T.e3⟩
theorem KeepN.of {G G' : Hp} (s : Same G G') : KeepN G G' := fun b o _ h => s b o h
theorem KeepN.trans {G G1 G2 : Hp} (a : KeepN G G1) (b : KeepN G1 G2) : KeepN G G2 := fun c o n h => b c o n (a c o n h)
theorem RoF.ins {K : PySem.W.Frag} {CR : Addr} {H : Hp} {x : V} {d1 d2 d3 : PyData} (h : RoF K CR H x d1 d2 d3) : Ins CR H x := by
  obtain ⟨a, dx, fs, u1, u2, u3, e, ha, T⟩ := h
  exact ⟨a, dx, fs, e, ha⟩
/-- one block told otherwise -/
theorem kn_other {b1 b2 b3 : PyData} (h : KnB 31 b1 b2 b3) : ∀ j, j < 3 → ∃ (b c1 c2 c3 : PyData), [b1, b2, b3][j]? = some b ∧ isTL b = true ∧ fz b = b ∧ (elems b).length ≤ 31 ∧
    [b1, b2, b3].take j ++ [.tuple (elems b ++ [.tuple [.str "mark"]])] ++ [b1, b2, b3].drop (j + 1) = [c1, c2, c3] ∧ KnB 32 c1 c2 c3 ∧ (PyData.eqv b1 c1 && (PyData.eqv b2 c2 && PyData.eqv b3 c3)) = false := by
  intro j hj
  obtain ⟨k1, l1, k2, l2, k3, l3, h1, h2, h3, h4⟩ := h
  have mk : ∀ {blk : Str} {b : PyData} {k : Nat} {l : List Str}, blk ∈ blk3 → BkR blk b k l → ∃ ll, BkR blk (.tuple (elems b ++ [.tuple [.str "mark"]])) (k + 1) ll := fun {blk b k l} hb B => by
    refine ⟨_, rfl, B.st.app (.one (.one rfl rfl (letD_all blk hb).1)), fz_mk fun x hx => ?_⟩
    rcases List.mem_append.mp hx with hx | hx
    · exact (fz_fix B.fx B.tl).2 x hx
    · rw [List.mem_singleton.mp hx]
      simp [fz, fzAll]
  have y1 := h1.st.len
  have y2 := h2.st.len
  have y3 := h3.st.len
  match j, hj with
  | 0, _ =>
    obtain ⟨ll, B⟩ := mk (by decide +kernel) h1
    exact ⟨b1, _, b2, b3, rfl, h1.tl, h1.fx, by omega, rfl, ⟨_, _, _, _, _, _, B, h2, h3, by omega⟩, by rw [eqv_longer (fz_fix h1.fx h1.tl).1]; rfl⟩
  | 1, _ =>
    obtain ⟨ll, B⟩ := mk (by decide +kernel) h2
    exact ⟨b2, b1, _, b3, rfl, h2.tl, h2.fx, by omega, rfl, ⟨_, _, _, _, _, _, h1, B, h3, by omega⟩, by rw [eqv_longer (fz_fix h2.fx h2.tl).1, Bool.false_and, Bool.and_false]⟩
  | 2, _ =>
    obtain ⟨ll, B⟩ := mk (by decide +kernel) h3
    exact ⟨b3, b1, b2, _, rfl, h3.tl, h3.fx, by omega, rfl, ⟨_, _, _, _, _, _, h1, h2, B, by omega⟩, by rw [eqv_longer (fz_fix h3.fx h3.tl).1, Bool.and_false, Bool.and_false]⟩
end SK
namespace SK
open PySem PySem.Spec PyProof.Rows L2 LamX NdefX
open K0 (De DeAll XCl spX withX)
/-! ### lists of lists that are changed -/
structure TL (D l : Addr) (hs : List V) (c : Nat) (G : Hp) : Prop where
  ls : G D = some (.lst hs)
  el : ∀ h ∈ hs, ∃ (b : Addr) (ys : List V), h = .ref b ∧ b ≠ D ∧ b ≠ l ∧ G b = some (.lst ys) ∧ ys.length ≤ c ∧ ∀ y ∈ ys, ∃ (e : Addr) (zs : List V), y = .ref e ∧ e ≠ D ∧ e ≠ l ∧ G e = some (.lst zs)
theorem TL.same {D l : Addr} {hs : List V} {c : Nat} {G G' : Hp} (T : TL D l hs c G) (s : Same G G') : TL D l hs c G' := by
  refine ⟨s _ _ T.ls, fun h hh => ?_⟩
  obtain ⟨b, ys, e1, e2, e3, e4, e5, e6⟩ := T.el h hh
  refine ⟨b, ys, e1, e2, e3, s _ _ e4, e5, fun y hy => ?_⟩
  obtain ⟨e, zs, f1, f2, f3, f4⟩ := e6 y hy
  exact ⟨e, zs, f1, f2, f3, s _ _ f4⟩
theorem TL.put {D l : Addr} {hs : List V} {c c' : Nat} {G : Hp} (T : TL D l hs c G) {b : Addr} {ys ws : List V} (hb : G b = some (.lst ys)) (nb : b ≠ D) (hc : c ≤ c') (hw : ws.length ≤ c') (ok : ∀ y ∈ ws, ∃ (e : Addr) (zs : List V), y = .ref e ∧ e ≠ D ∧ e ≠ l ∧ G e = some (.lst zs)) :
    TL D l hs c' (upd G b (.lst ws)) := by
  have st : ∀ {e : Addr} {zs : List V}, G e = some (.lst zs) → ∃ zs', upd G b (.lst ws) e = some (.lst zs') := fun {e zs} he => by
    by_cases q : e = b
    · exact ⟨ws, by rw [q]; exact upd_same⟩
    · exact ⟨zs, by rw [upd_ne q]; exact he⟩
  refine ⟨by rw [upd_ne (Ne.symm nb)]; exact T.ls, fun h hh => ?_⟩
  obtain ⟨b', ys', e1, e2, e3, e4, e5, e6⟩ := T.el h hh
  by_cases q : b' = b
  · refine ⟨b', ws, e1, e2, e3, by rw [q]; exact upd_same, hw, fun y hy => ?_⟩
    obtain ⟨e, zs, f1, f2, f3, f4⟩ := ok y hy
    obtain ⟨zs', f5⟩ := st f4
    exact ⟨e, zs', f1, f2, f3, f5⟩
  · refine ⟨b', ys', e1, e2, e3, by rw [upd_ne q]; exact e4, Nat.le_trans e5 hc, fun y hy => ?_⟩
    obtain ⟨e, zs, f1, f2, f3, f4⟩ := e6 y hy
    obtain ⟨zs', f5⟩ := st f4
    exact ⟨e, zs', f1, f2, f3, f5⟩
theorem tl_el {K : PySem.W.Frag} {G1 G : Hp} {D l : Addr} {h : V} {b : PyData} {c : Nat} (hl : G1 l ≠ none) (t : isTL b = true) (f : fz b = b) (ts : ∀ e ∈ elems b, isTL e = true) (hz : (elems b).length ≤ c) (hd : De K (NwD G1 D G) h (lz b)) :
    ∃ (a : Addr) (ys : List V), h = .ref a ∧ a ≠ D ∧ a ≠ l ∧ G a = some (.lst ys) ∧ ys.length ≤ c ∧ ∀ y ∈ ys, ∃ (e : Addr) (zs : List V), y = .ref e ∧ e ≠ D ∧ e ≠ l ∧ G e = some (.lst zs) := by
  have ne : ∀ {a : Addr}, G1 a = none → a ≠ l := fun {a} n z => by rw [z] at n; exact hl n
  obtain ⟨e0, hfe⟩ := fz_fix f t
  generalize elems b = ds at e0 hfe ts hz
  subst e0
  simp only [lz, lzAll_map] at hd
  cases hd with
  | @lst a ys _ ha hys =>
  obtain ⟨n1, n2, n3⟩ := nwD_at ha
  have hl2 := deAll_len hys
  rw [List.length_map] at hl2
  refine ⟨a, ys, rfl, n2, ne n1, n3, by omega, fun y hy => ?_⟩
  obtain ⟨d', hd', hde⟩ := deAll_mem hys hy
  obtain ⟨e, he, rfl⟩ := List.mem_map.mp hd'
  obtain ⟨e1, _⟩ := fz_fix (hfe e he) (ts e he)
  rw [e1] at hde
  simp only [lz] at hde
  cases hde with
  | @lst a2 zs _ ha2 _ =>
  obtain ⟨m1, m2, m3⟩ := nwD_at ha2
  exact ⟨a2, zs, rfl, m2, ne m1, m3⟩
theorem BkR.al {blk : Str} {d : PyData} {k : Nat} {l : List Str} (B : BkR blk d k l) (hk : k ≤ 1000) : lev d < 13 ∧ (∀ m, hdW m d) ∧ d.canLay0 = true := by
  refine ⟨?_, fun m => hdW_mk (Nat.le_trans B.st.len hk) fun j _ => stL_w B.st hk j, ?_⟩
  · have := stL_lev B.st
    rw [lev_tl B.tl]
    omega
  · have z := lay_tup (stL_lay B.st)
    rw [← fz_tl B.tl, B.fx] at z
    exact z.1
theorem BkR.lay {blk : Str} {d : PyData} {k : Nat} {l : List Str} (B : BkR blk d k l) : Lay 12 d := by
  have z := lay_tup (stL_lay B.st)
  rw [← fz_tl B.tl, B.fx] at z
  exact z.mono (by decide)
theorem RoF.but {K : PySem.W.Frag} {CR : Addr} {H H' : Hp} {p l : Addr} {k lf : Int} {x : V} {d1 d2 d3 : PyData} (h : RoF K CR H x d1 d2 d3) (hp : H p = some (.dK (pen l k lf))) (s : SameBut p H H') : RoF K CR H' x d1 d2 d3 := by
  obtain ⟨a, dx, fs, u1, u2, u3, e, ha, T⟩ := h
  exact ⟨a, dx, fs, u1, u2, u3, e, s _ _ (ne_of ha hp (by intro z; cases z)) ha, T.f1, T.f2, T.f3, T.no, de_but hp s T.e1, de_but hp s T.e2, de_but hp s T.e3⟩
def spLaw (K : PySem.W.Frag) : Sp := fun vs H Q _ => ∃ (a : Addr) (ns : List Int), vs = [.ref a] ∧ SqL K H a (ns.map V.int) ∧ ns.length ≤ 63 ∧ ∀ H', Q (.bl true) H'
section
variable {P : Program} {w : World} {K : PySem.W.Frag} {mg : Str → Option Value} {base : Heap} {f fPen fD fRo fAl fNa CR fI fE fNm : Addr} {fd fdPen fdD fdRo fdAl fdNa fdI fdE fdNm : FuncData}
abbrev NLw : List Str := ["script", "pen", "turn", "blocks", "block", "handed", "routine", "names", "lap", "at", "other"]
theorem ok_law (F : Fun K "law" "law" (top 62) f fd) (RK : RoK K CR) (gRg : mg "range" = none) (gMn : mg "min" = none) (gN : mg "len" = none) (gSo : mg "sorted" = none) (gSe : mg "set" = none) (gTu : mg "tuple" = none)
    (gC : mg "Routine" = some (.ref CR)) (M : Mk K CR fI) (GI : FnOk P w K mg base (L2.CX P w) 23 fI fdI ["self", "down", "turn", "up"] (spInitRo K CR)) (bI : Binds K fdI ["self", "down", "turn", "up"] [])
    (ME : Has K CR "__eq__" fE) (GE : FnOk P w K mg base (L2.CX P w) 1 fE fdE ["self", "other"] (spEqRo K CR)) (bE : Binds K fdE ["self", "other"] [])
    (MNa : Meth K CR "names" fNm) (GNm : FnOk P w K mg base CX0 17 fNm fdNm ["self"] (spRn K CR)) (bNm : Binds K fdNm ["self"] [])
    (gPen : mg "_law_pen" = some (.ref fPen)) (kPen : PySem.W.keepIn K (.ref fPen) = true) (GPen : FnOk P w K mg base CX0 1 fPen fdPen ["script"] (spPen K)) (bPen : Binds K fdPen ["script"] [])
    (gD : mg "_law_draw" = some (.ref fD)) (kD : PySem.W.keepIn K (.ref fD) = true) (GD : FnOk P w K mg base CX0 1 fD fdD ["pen", "many"] spDraw) (bD : Binds K fdD ["pen", "many"] [])
    (gRo : mg "_law_routine" = some (.ref fRo)) (kRo : PySem.W.keepIn K (.ref fRo) = true) (GRo : FnOk P w K mg base CX0 11 fRo fdRo ["pen"] (spRo K)) (bRo : Binds K fdRo ["pen"] [])
    (gAl : mg "_law_as_lists" = some (.ref fAl)) (kAl : PySem.W.keepIn K (.ref fAl) = true) (GAl : FnOk P w K mg base CX0 14 fAl fdAl ["value"] (spAl K 13)) (bAl : Binds K fdAl ["value"] [])
    (gNa : mg "_law_named" = some (.ref fNa)) (kNa : PySem.W.keepIn K (.ref fNa) = true) (GNa : FnOk P w K mg base CX0 14 fNa fdNa ["value"] (spNa K 13)) (bNa : Binds K fdNa ["value"] []) :
    FnOk P w K mg base CX0 25 f fd ["script"] (spLaw K) := by
  have S0 : FnScope NLw ["script"] (defScope (top 62)) := ⟨rfl, rfl, rfl, by decide +kernel, rfl, by decide +kernel, by decide +kernel⟩
  have nd := S0.nd
  refine F.ok S0 (fun vs H Q E h => ?_) (fun cdv A outer s H vs Q E hr h => ?_)
  · obtain ⟨a, ns, rfl, _⟩ := h
    rfl
  · obtain ⟨a, ns, rfl, hS, hn, kk⟩ := h
    have hu64 := hr.units
    have hr1 : Room 1 _ := hr.mono (by decide)
    have hr2 : Room 2 _ := hr.mono (by decide)
    have hr11 : Room 11 _ := hr.mono (by decide)
    have hr14 : Room 14 _ := hr.mono (by decide)
    have hr17 : Room 17 _ := hr.mono (by decide)
    have hr24 : Room 24 _ := hr.mono (by decide)
    have ps0 : Passes (L2.CX P w) (cxOf CX0 P w K mg base NLw "law" (defScope (top 62)) f cdv A outer s H E).nox (fun _ _ _ => False) := passes_call LamX.takes0 (fun _ _ _ _ h => h)
    refine ⟨_, (pss_cons (ps_set (i := 1) nd rfl (Or.inl rfl) (pe_call GPen hr1 (by rfl) gPen kPen bPen .nil pass0 (pa_cons (pv 0) pa_nil)))
        (pss_cons (ps_for PassesOwn.never rfl (pi_range1 (by rfl) gRg (pa_cons (pe_op op_add pe_int (pe_callB (call_min2 rfl) (by rfl) gMn PyProof.Rows.boot_min (pa_cons pe_int (pa_cons (pe_callB call_len_seq (by rfl) gN PySem.boot_len (pa_cons (pv 0) pa_nil)) pa_nil)))) pa_nil)) (pg_name (i := 2) nd rfl (Or.inl rfl)) (pss_cons (ps_set (i := 3) nd rfl (Or.inl rfl) (pe_call GRo hr11 (by rfl) gRo kRo bRo .nil pass0 (pa_cons (pv 1) pa_nil)))
        (pss_cons (ps_setLc (i := 5) (own := [("block", 4)]) (g := gName 4) (tt := tYes) rfl nd rfl rfl (sw_true rfl rfl rfl (by decide +kernel)) (pi_tup (pv 3)) (blkOk_by (N := NLw) (sc := defScope (top 62)) (by decide +kernel)) (fun _ _ _ _ _ => pg_name (i := 4) nd rfl (Or.inl rfl)) (fun _ _ _ _ _ => pts_nil) (fun _ _ _ _ _ => (pe_call GAl hr14 (by rfl) gAl kAl bAl .nil pass0 (pa_cons (pv 4) pa_nil))))
        (pss_cons (ps_set (i := 6) nd rfl (Or.inl rfl) (pe_make M GI hr24 (by rfl) gC bI .nil ps0 (pa_cons (pe_ix (r := rIx K) ix_seq (pv 5) pe_int (fun _ _ => rfl)) (pa_cons (pe_ix (r := rIx K) ix_seq (pv 5) pe_int (fun _ _ => rfl)) (pa_cons (pe_ix (r := rIx K) ix_seq (pv 5) pe_int (fun _ _ => rfl)) pa_nil)))))
        (pss_cons (ps_for PassesOwn.never rfl (pi_list (pv 5)) (pg_name (i := 4) nd rfl (Or.inl rfl)) (pss_cons (ps_expr (pe_bm PySem.F.plainAttrs_list PySem.F.slot_list_append PySem.F.type_list_append mt_append (pv 4) (pa_cons (pe_lst (pa_cons pe_str pa_nil)) pa_nil)))
        (pss_one (ps_expr (pe_bm0 PySem.F.plainAttrs_list PySem.F.slot_list_clear PySem.F.type_list_clear mt_clear (pe_ix (r := rIx K) ix_seq (pv 4) pe_int (fun _ _ => rfl)))))))
        (pss_cons (ps_set (i := 7) nd rfl (Or.inl rfl) (pe_sortedSet rfl hu64 (by rfl) gSo (by rfl) gSe (pe_op op_cat (pe_op op_cat (pe_call GNa hr14 (by rfl) gNa kNa bNa .nil pass0 (pa_cons (pe_ix (r := rIx K) ix_seq (pv 3) pe_int (fun _ _ => rfl)) pa_nil)) (pe_call GNa hr14 (by rfl) gNa kNa bNa .nil pass0 (pa_cons (pe_ix (r := rIx K) ix_seq (pv 3) pe_int (fun _ _ => rfl)) pa_nil))) (pe_call GNa hr14 (by rfl) gNa kNa bNa .nil pass0 (pa_cons (pe_ix (r := rIx K) ix_seq (pv 3) pe_int (fun _ _ => rfl)) pa_nil)))))
        (pss_cons (ps_for PassesOwn.never rfl (pi_range1 (by rfl) gRg (pa_cons pe_int pa_nil)) (pg_name (i := 8) nd rfl (Or.inl rfl)) (pss_cons (ps_if (PW.pt (pw_or (pt_cmpR (r := rNeD K) (op_neD hu64) (pe_tup (pa_cons (pe_fld (pv 6) rfl) (pa_cons (pe_fld (pv 6) rfl) (pa_cons (pe_fld (pv 6) rfl) pa_nil)))) (pv 3) (nomark _)) (pw_or1 (pt_cmpR (r := rNeD K) (op_neD hu64) (pe_meth0 (pv 6) RK.cl MNa GNm hr17 bNm .nil pass0) (pe_callTy call_tuple_of (by rfl) gTu PyProof.Rows.boot_tuple (pa_cons (pv 7) pa_nil)) (nomark _))))) (pss_one (ps_ret pe_bl)) pss_nil)
        (pss_one (ps_if (PW.pt (pw_or (pt_not (pt_cmpR (op_ownEq RK.own ME GE hr1 bE ps0) (pv 6) (pe_make M GI hr24 (by rfl) gC bI .nil ps0 (pa_cons (pe_ix (r := rIx K) ix_seq (pv 3) pe_int (fun _ _ => rfl)) (pa_cons (pe_ix (r := rIx K) ix_seq (pv 3) pe_int (fun _ _ => rfl)) (pa_cons (pe_ix (r := rIx K) ix_seq (pv 3) pe_int (fun _ _ => rfl)) pa_nil)))) (by rfl))) (pw_or1 (pt_cmpR (op_ownEq RK.own ME GE hr1 bE ps0) (pv 6) (pv 3) (by rfl))))) (pss_one (ps_ret pe_bl)) pss_nil))))
        (pss_cons (ps_set (i := 9) nd rfl (Or.inl rfl) (pe_call GD hr1 (by rfl) gD kD bD .nil pass0 (pa_cons (pv 1) (pa_cons pe_int pa_nil))))
        (pss_cons (ps_set (i := 10) nd rfl (Or.inl rfl) (pe_op op_catA (pe_op op_catA (pe_slice sl_tupA (pv 3) po_none (po_some (pv 9))) (pe_tup (pa_cons (pe_op op_catA (pe_ix (r := rIx K) ix_seq (pv 3) (pv 9) (fun _ _ => rfl)) (pe_tup (pa_cons (pe_tup (pa_cons pe_str pa_nil)) pa_nil))) pa_nil))) (pe_slice sl_tupA (pv 3) (po_some (pe_op op_add (pv 9) pe_int)) po_none)))
        (pss_one (ps_if (PW.pt (pw_or (pt_cmpR (op_ownEq RK.own ME GE hr1 bE ps0) (pv 6) (pe_make M GI hr24 (by rfl) gC bI .nil ps0 (pa_cons (pe_ix (r := rIx K) ix_seq (pv 10) pe_int (fun _ _ => rfl)) (pa_cons (pe_ix (r := rIx K) ix_seq (pv 10) pe_int (fun _ _ => rfl)) (pa_cons (pe_ix (r := rIx K) ix_seq (pv 10) pe_int (fun _ _ => rfl)) pa_nil)))) (by rfl)) (pw_or1 (pt_not (pt_cmpR (op_ownNe RK.own RK.ne RK.oo ME GE hr2 bE ps0) (pv 6) (pe_make M GI hr24 (by rfl) gC bI .nil ps0 (pa_cons (pe_ix (r := rIx K) ix_seq (pv 10) pe_int (fun _ _ => rfl)) (pa_cons (pe_ix (r := rIx K) ix_seq (pv 10) pe_int (fun _ _ => rfl)) (pa_cons (pe_ix (r := rIx K) ix_seq (pv 10) pe_int (fun _ _ => rfl)) pa_nil)))) (by rfl)))))) (pss_one (ps_ret pe_bl)) pss_nil)))))))))))
        (pss_one (ps_ret pe_bl)))), ?_⟩
    have b5 : (5000 : Nat) < sizeLine := by decide
    refine ⟨V.ref a, rfl, a, ns, rfl, hS, hn, fun G0 p l s0 P0 => ?_⟩
    obtain ⟨mn, hmn, hm0, hm6⟩ : ∃ mn : Int, (if ((ns.map V.int).length : Int) < 6 then ((ns.map V.int).length : Int) else 6) = mn ∧ 0 ≤ mn ∧ mn ≤ 6 := by
      by_cases c : ((ns.map V.int).length : Int) < 6
      · exact ⟨_, if_pos c, by omega, by omega⟩
      · exact ⟨_, if_neg c, by decide, by decide⟩
    refine ⟨V.ref a, rfl, a, ns.map V.int, rfl, .inl (Same.seq s0 hS), 6, _, rfl, ?_⟩
    rw [hmn]
    refine ⟨5, mn, rfl, rfl, 5 + mn, rfl, by omega, by omega, ?_⟩
    refine for_it walk_range (fun i σ G => ∃ (x2 x3 x4 x5 x6 x7 x8 x9 x10 : Option V) (k lf : Int), σ = [some (.ref a), some (.ref p), x2, x3, x4, x5, x6, x7, x8, x9, x10] ∧ PenAt G p l ns k lf ∧ 0 ≤ k ∧ k ≤ 910 * i ∧ 0 ≤ lf) ⟨none, none, none, none, none, none, none, none, none, 0, 0, rfl, P0, by decide, by decide, by decide⟩ (fun _ _ _ _ _ => trivial) ?_ ?_
    rotate_left
    · rintro σ G ⟨x2, x3, x4, x5, x6, x7, x8, x9, x10, k, lf, rfl, _⟩
      exact kk G
    rintro i x σ G Gx hi ⟨x2, x3, x4, x5, x6, x7, x8, x9, x10, k, lf, rfl, PG, j1, j2, j3⟩ ⟨rfl, rfl⟩
    have hi11 : i < 11 := by
      have hi : i < (5 + mn).toNat := by
        first
          | exact hi
          | (rw [Int.sub_zero] at hi; exact hi)
      omega
    refine ⟨V.ref p, rfl, p, l, ns, k, lf, rfl, PG, hn, j1, by omega, j3, fun G1 k1 lf1 v b1 b2 b3 e1 e2 e3 s1 P1 hv hK => ?_⟩
    obtain ⟨m1, l1, m2, l2, m3, l3, B1, B2, B3, hm⟩ := id hK
    obtain ⟨q, us, rfl, hq1, hus1⟩ : ∃ (q : Addr) (us : List V), v = .ref q ∧ G1 q = some (.tup us) ∧ DeAll K G1 us [b1, b2, b3] := by
      cases hv with
      | tup a b => exact ⟨_, _, rfl, a, b⟩
    have fxs : ∀ dd ∈ [b1, b2, b3], fz dd = dd ∧ lev dd < 13 ∧ (∀ m, hdW m dd) ∧ dd.canLay0 = true := fun dd hd => by
      simp only [List.mem_cons, List.mem_nil_iff, or_false] at hd
      rcases hd with rfl | rfl | rfl
      · exact ⟨B1.fx, B1.al (by omega)⟩
      · exact ⟨B2.fx, B2.al (by omega)⟩
      · exact ⟨B3.fx, B3.al (by omega)⟩
    have hul := deAll_len hus1
    have hul : us.length = 3 := hul
    refine ⟨V.ref q, rfl, q, rfl, ⟨us, .inl (.inl hq1)⟩, fun D nD => lc_it (walk_tup (K := K) (xs := us)) (fun i G => Same G1 G ∧ ∃ acc : List V, G D = some (.lst acc) ∧ acc.length = i ∧ DeAll K (NwD G1 D G) acc (([b1, b2, b3].take i).map lz)) ⟨upd_new nD, [], upd_same, rfl, .nil⟩ (fun i G _ q => .inl (.inl (q.1 _ _ hq1))) ?_ ?_⟩
    · rintro j x G G' hj ⟨sG, acc, hD, hal, hacc⟩ ⟨rfl, hx⟩
      obtain ⟨dd, hdd, hde⟩ := deAll_at hus1 hx
      have hm := List.mem_of_getElem? hdd
      obtain ⟨g1, g2, g3, g4⟩ := fxs dd hm
      refine ⟨rfl, x, rfl, x, dd, rfl, de_mono sG _ _ hde, g1, g2, g3, g4, fun G2 u s2 hu => ?_⟩
      have hD2 := s2 _ _ hD
      refine ⟨acc, hD2, by omega, same_upd nD (sG.trans s2), acc ++ [u], upd_same, by rw [List.length_append, hal]; rfl, ?_⟩
      have y1 : Same (NwD G1 D G') (NwD G1 D (upd G2 D (.lst (acc ++ [u])))) := fun a o h => by
        obtain ⟨n1, n2, e⟩ := nwD_at h
        exact nwD_mk n1 n2 (by rw [upd_ne n2]; exact s2 _ _ e)
      have y2 : Same (Nw G' G2) (NwD G1 D (upd G2 D (.lst (acc ++ [u])))) := fun a o h => by
        obtain ⟨n1, e⟩ := nw_at h
        have n2 : a ≠ D := fun z => by rw [z, hD] at n1; cases n1
        exact nwD_mk (none_of sG n1) n2 (by rw [upd_ne n2]; exact e)
      rw [take_snoc hdd, List.map_append]
      exact deAll_app (de_monoAll y1 _ _ hacc) (.cons (de_mono y2 _ _ hu) .nil)
    rintro G2 ⟨s2, acc, hD, hal, hacc⟩
    rw [hul] at hal hacc
    have hacc : DeAll K (NwD G1 D G2) acc [lz b1, lz b2, lz b3] := hacc
    have old : Same (NwD G1 D G2) G2 := fun a o h => (nwD_at h).2.2
    obtain ⟨h1, h2, h3, rfl, z1, z2, z3⟩ : ∃ h1 h2 h3, acc = [h1, h2, h3] ∧ De K (NwD G1 D G2) h1 (lz b1) ∧ De K (NwD G1 D G2) h2 (lz b2) ∧ De K (NwD G1 D G2) h3 (lz b3) := by
      cases hacc with
      | cons z1 hacc =>
      cases hacc with
      | cons z2 hacc =>
      cases hacc with
      | cons z3 hacc =>
      cases hacc
      exact ⟨_, _, _, rfl, z1, z2, z3⟩
    have ixD : ∀ (j : Nat) (v' : V) (R : VK), [h1, h2, h3][j]? = some v' → R v' G2 → rIx K (.ref D) (.int (j : Nat)) G2 R := fun j v' R hj hR => .inl ⟨D, _, (j : Int), v', rfl, rfl, .inl (.inl hD), atI_nat hj, hR⟩
    have hl1 : G1 l ≠ none := by rw [P1.ls]; simp
    have T2 : TL D l [h1, h2, h3] 40 G2 := ⟨hD, fun h hh => by
      simp only [List.mem_cons, List.mem_nil_iff, or_false] at hh
      have y1 := B1.st.len
      have y2 := B2.st.len
      have y3 := B3.st.len
      rcases hh with rfl | rfl | rfl
      · exact tl_el hl1 B1.tl B1.fx B1.st.tls (by omega) z1
      · exact tl_el hl1 B2.tl B2.fx B2.st.tls (by omega) z2
      · exact tl_el hl1 B3.tl B3.fx B3.st.tls (by omega) z3⟩
    refine ⟨V.ref D, rfl, ixD 0 h1 _ rfl ⟨V.ref D, rfl, ixD 1 h2 _ rfl ⟨V.ref D, rfl, ixD 2 h3 _ rfl ?_⟩⟩⟩
    refine mk_ro (B1.ql (de_mono old _ _ z1) (by omega)) (B2.ql (de_mono old _ _ z2) (by omega)) (B3.ql (de_mono old _ _ z3) (by omega)) (by omega) fun G3 x6' s3 hR => ?_
    have hR3 := hR.lz
    have T3 := T2.same s3
    have s13 := s2.trans s3
    refine ⟨V.ref D, rfl, D, rfl, ⟨_, .inl (.inl T3.ls)⟩, for_it (walk_list (K := K) (xs := [h1, h2, h3])) (fun j σ G => ∃ x4, σ = [some (.ref a), some (.ref p), some (.int (0 + (i : Int))), some (.ref q), x4, some (.ref D), some (.ref x6'), x7, x8, x9, x10] ∧ KeepN G3 G ∧ G l = some (.lst (ns.map V.int)) ∧ TL D l [h1, h2, h3] (40 + j) G) ⟨x4, rfl, KeepN.of (Same.refl _), s13 _ _ P1.ls, T3⟩ (fun j σ G _ q => ?_) ?_ ?_⟩
    · obtain ⟨x4', rfl, _, _, T⟩ := q
      exact .inl (.inl T.ls)
    · rintro j x σ G G' hj ⟨x4', rfl, kp, hlG, T⟩ ⟨rfl, hx⟩
      have hj3 : j < 3 := hj
      have hxm := List.mem_of_getElem? hx
      obtain ⟨b, ys, rfl, nb1, nb2, hb, hyl, hys⟩ := T.el x hxm
      refine ⟨V.ref b, rfl, .inl ⟨rfl, _, .inl (.inl hb)⟩, (by show 1 ≤ sizeLine; decide), fun n nn => ?_⟩
      have t1 := upd_new (o := .lst [.str "mark"]) nn
      have hn1 : upd G' n (.lst [.str "mark"]) n = some (.lst [.str "mark"]) := upd_same
      have nD1 : n ≠ D := fun z => by rw [z, T.ls] at nn; cases nn
      have nl1 : n ≠ l := fun z => by rw [z, hlG] at nn; cases nn
      generalize upd G' n (.lst [.str "mark"]) = Ga at t1 hn1
      have hba := t1 _ _ hb
      refine ⟨b, ys, .ref n, rfl, rfl, hba, by omega, ?_⟩
      have Tb : TL D l [h1, h2, h3] (40 + (j + 1)) (upd Ga b (.lst (ys ++ [.ref n]))) := (T.same t1).put hba nb1 (by omega) (by rw [List.length_append, List.length_singleton]; omega) fun y hy => by
        rcases List.mem_append.mp hy with hy | hy
        · obtain ⟨e, zs, f1, f2, f3, f4⟩ := hys y hy
          exact ⟨e, zs, f1, f2, f3, t1 _ _ f4⟩
        · rw [List.mem_singleton.mp hy]
          exact ⟨n, _, rfl, nD1, nl1, hn1⟩
      have hbb : upd Ga b (.lst (ys ++ [.ref n])) b = some (.lst (ys ++ [.ref n])) := upd_same
      have kb : KeepN G3 (upd Ga b (.lst (ys ++ [.ref n]))) := (kp.trans (KeepN.of t1)).trans (keepN_app hba)
      have hlb : upd Ga b (.lst (ys ++ [.ref n])) l = some (.lst (ns.map V.int)) := by
        rw [upd_ne (Ne.symm nb2)]
        exact t1 _ _ hlG
      generalize upd Ga b (.lst (ys ++ [.ref n])) = Gb at Tb hbb kb hlb
      obtain ⟨e, zs, hy0, f2, f3, f4⟩ : ∃ (e : Addr) (zs : List V), (ys ++ [V.ref n])[0]? = some (.ref e) ∧ e ≠ D ∧ e ≠ l ∧ Gb e = some (.lst zs) := by
        obtain ⟨b', ys', g1, g2, g3, g4, g5, g6⟩ := Tb.el _ hxm
        cases g1
        rw [hbb] at g4
        injection g4 with g4
        injection g4 with g4
        subst g4
        cases ys with
        | nil =>
          obtain ⟨e, zs, f1, f2, f3, f4⟩ := g6 (.ref n) (by simp)
          cases f1
          exact ⟨n, zs, rfl, f2, f3, f4⟩
        | cons y0 yr =>
          obtain ⟨e, zs, f1, f2, f3, f4⟩ := g6 y0 (by simp)
          exact ⟨e, zs, by rw [← f1]; rfl, f2, f3, f4⟩
      refine ⟨V.ref b, rfl, .inl ⟨b, _, ((0 : Nat) : Int), .ref e, rfl, rfl, .inl (.inl hbb), atI_nat hy0, .inl ⟨rfl, _, .inl (.inl f4)⟩, e, zs, rfl, rfl, f4, ?_⟩⟩
      refine ⟨_, rfl, kb.trans (keepN_app f4), by rw [upd_ne (Ne.symm f3)]; exact hlb, Tb.put f4 f2 (Nat.le_refl _) (Nat.zero_le _) fun y hy => by cases hy⟩
    rintro σ G4 ⟨x4', rfl, kp, hl4, T4⟩
    have P4 : PenAt G4 p l ns k1 lf1 := ⟨kp _ _ (fun _ z => by unfold pen at z; cases z) (s13 _ _ P1.dc), hl4⟩
    have hq4 := kp q (.tup us) (fun _ z => nomatch z) (s13 _ _ hq1)
    have hus4 := deAll_keep (fun e he => (fxs e he).1) kp (de_monoAll s13 _ _ hus1)
    have hR4 := hR3.keep kp
    clear T4 kp hl4 hR3 hR T3 T2 ixD old z1 z2 z3 hacc hD s13 s3 s2 hus1 hq1 hv hl1
    have fx2 : ∀ {e : PyData}, e ∈ [b1, b2, b3] → fz e = e := fun {e} he => (fxs e he).1
    obtain ⟨u1, u2, u3, rfl, d1, d2, d3⟩ : ∃ u1 u2 u3, us = [u1, u2, u3] ∧ De K G4 u1 b1 ∧ De K G4 u2 b2 ∧ De K G4 u3 b3 := by
      have hus4 := hus4
      cases hus4 with
      | cons z1 h =>
      cases h with
      | cons z2 h =>
      cases h with
      | cons z3 h =>
      cases h
      exact ⟨_, _, _, rfl, z1, z2, z3⟩
    have ixq : ∀ {G : Hp} (j : Nat) (v' : V) (R : VK), Same G4 G → [u1, u2, u3][j]? = some v' → R v' G → rIx K (.ref q) (.int (j : Nat)) G R := fun {G} j v' R s hj hR => .inr (.inl ⟨q, _, (j : Int), v', rfl, rfl, .inl (.inl (s _ _ hq4)), atI_nat hj, hR⟩)
    have n1 := B1.st.nl
    have n2 := B2.st.nl
    have n3 := B3.st.nl
    have s0' := Same.refl G4
    refine ⟨V.ref q, rfl, ixq 0 u1 _ s0' rfl ⟨u1, b1, 12, l1, rfl, d1, B1.nam, by decide, by omega, fun G5 r1 s5 hr1 => ?_⟩⟩
    refine ⟨V.ref q, rfl, ixq 1 u2 _ s5 rfl ⟨u2, b2, 12, l2, rfl, de_mono s5 _ _ d2, B2.nam, by decide, by omega, fun G6 r2 s6 hr2 => ?_⟩⟩
    refine ⟨r1, r2, _, _, rfl, rfl, s6 _ _ hr1, hr2, (by rw [List.length_map, List.length_map]; omega), fun r3 nr3 => ?_⟩
    have s7 := upd_new (o := .lst (l1.map V.str ++ l2.map V.str)) nr3
    have hr3 : upd G6 r3 (.lst (l1.map V.str ++ l2.map V.str)) r3 = some (.lst (l1.map V.str ++ l2.map V.str)) := upd_same
    generalize upd G6 r3 (.lst (l1.map V.str ++ l2.map V.str)) = G7 at s7 hr3
    have s47 := (s5.trans s6).trans s7
    refine ⟨V.ref q, rfl, ixq 2 u3 _ s47 rfl ⟨u3, b3, 12, l3, rfl, de_mono s47 _ _ d3, B3.nam, by decide, by omega, fun G8 r4 s8 hr4 => ?_⟩⟩
    refine ⟨r3, r4, _, _, rfl, rfl, s8 _ _ hr3, hr4, (by rw [List.length_append, List.length_map, List.length_map, List.length_map]; omega), fun r5 nr5 => ?_⟩
    have s9 := upd_new (o := .lst (l1.map V.str ++ l2.map V.str ++ l3.map V.str)) nr5
    have hr5 : upd G8 r5 (.lst (l1.map V.str ++ l2.map V.str ++ l3.map V.str)) r5 = some (.lst ((l1 ++ l2 ++ l3).map V.str)) := by
      rw [List.map_append, List.map_append]
      exact upd_same
    generalize upd G8 r5 (.lst (l1.map V.str ++ l2.map V.str ++ l3.map V.str)) = G9 at s9 hr5
    refine ⟨r5, l1 ++ l2 ++ l3, rfl, .inl (.inl hr5), (by rw [List.length_append, List.length_append]; omega), fun wl nwl => ?_⟩
    have s10 := upd_new (o := .lst ((srtU (l1 ++ l2 ++ l3)).map V.str)) nwl
    have hw10 : upd G9 wl (.lst ((srtU (l1 ++ l2 ++ l3)).map V.str)) wl = some (.lst ((srtU (l1 ++ l2 ++ l3)).map V.str)) := upd_same
    have s410 := (s47.trans s8).trans (s9.trans s10)
    generalize upd G9 wl (.lst ((srtU (l1 ++ l2 ++ l3)).map V.str)) = GA at s10 hw10 s410
    have PA1 : PenAt GA p l ns k1 lf1 := ⟨s410 _ _ P4.dc, s410 _ _ P4.ls⟩
    have hqA := s410 _ _ hq4
    have husA := de_monoAll s410 _ _ hus4
    have hRA := hR4.keep (KeepN.of s410)
    have d1 := de_mono s410 _ _ d1
    have d2 := de_mono s410 _ _ d2
    have d3 := de_mono s410 _ _ d3
    clear s410 s10 s9 s8 s47 s7 s6 s5 hr1 hr2 hr3 hr4 hr5 ixq hq4 hus4 hR4 P4 n1 n2 n3 s0'
    have ixq : ∀ {G : Hp} (j : Nat) (v' : V) (R : VK), Same GA G → [u1, u2, u3][j]? = some v' → R v' G → rIx K (.ref q) (.int (j : Nat)) G R := fun {G} j v' R s hj hR => .inr (.inl ⟨q, _, (j : Int), v', rfl, rfl, .inl (.inl (s _ _ hqA)), atI_nat hj, hR⟩)
    have px : pxy (srtU (l1 ++ l2 ++ l3)) := pxy_srtU (pxy_app (pxy_app (stL_pxy B1.st) (stL_pxy B2.st)) (stL_pxy B3.st))
    have lays : Lay 12 (.tuple [b1, b2, b3]) → True := fun _ => trivial
    have lay3 : Lay 13 (.tuple [b1, b2, b3]) := lay_tup fun e he => by
      simp only [List.mem_cons, List.mem_nil_iff, or_false] at he
      rcases he with rfl | rfl | rfl
      · exact B1.lay
      · exact B2.lay
      · exact B3.lay
    have sh3 := (lay3.eqb (by decide)).1
    have q1 : Eqb (fz b1) := by rw [B1.fx]; exact B1.eqb
    have q2 : Eqb (fz b2) := by rw [B2.fx]; exact B2.eqb
    have q3 : Eqb (fz b3) := by rw [B3.fx]; exact B3.eqb
    have ee1 : PyData.eqv (fz b1) (fz b1) = true := eqv_self q1.1
    have ee2 : PyData.eqv (fz b2) (fz b2) = true := eqv_self q2.1
    have ee3 : PyData.eqv (fz b3) (fz b3) = true := eqv_self q3.1
    refine ⟨2, rfl, by decide, by decide, for_it walk_range (fun j σ G => ∃ x4 x8, σ = [some (.ref a), some (.ref p), some (.int (0 + (i : Int))), some (.ref q), x4, some (.ref D), some (.ref x6'), some (.ref wl), x8, x9, x10] ∧ Same GA G) ⟨x4', x8, rfl, Same.refl _⟩ (fun _ _ _ _ _ => trivial) ?_ ?_⟩
    · rintro j x σ G G' hj ⟨x4'', x8', rfl, sG⟩ ⟨rfl, rfl⟩
      obtain ⟨aR, dx, fs, w1, w2, w3, eR, ha, TR⟩ := hRA.keep (KeepN.of sG)
      cases eR
      refine ⟨V.ref x6', rfl, x6', CR, dx, _, _, rfl, ha, RK.cl, RK.n1, TR.f1, V.ref x6', rfl, x6', CR, dx, _, _, rfl, ha, RK.cl, RK.n2, TR.f2, V.ref x6', rfl, x6', CR, dx, _, _, rfl, ha, RK.cl, RK.n3, TR.f3, (by show 3 ≤ sizeLine; decide), fun t nt => ?_⟩
      have t1 := upd_new (o := .tup [w1, w2, w3]) nt
      have ht1 : upd G' t (.tup [w1, w2, w3]) t = some (.tup [w1, w2, w3]) := upd_same
      have st1 := sG.trans t1
      have f1 := de_mono t1 _ _ TR.e1
      have f2 := de_mono t1 _ _ TR.e2
      have f3 := de_mono t1 _ _ TR.e3
      have hRt := (hRA.keep (KeepN.of st1))
      generalize upd G' t (.tup [w1, w2, w3]) = Gt at t1 ht1 st1 f1 f2 f3 hRt
      rw [B1.fx] at f1
      rw [B2.fx] at f2
      rw [B3.fx] at f3
      refine ⟨V.ref q, rfl, .tuple [b1, b2, b3], .tuple [b1, b2, b3], lay3.2.2 _ _ _ (.tup ht1 (.cons f1 (.cons f2 (.cons f3 .nil)))), lay3.2.2 _ _ _ (.tup (st1 _ _ hqA) (de_monoAll st1 _ _ husA)), sh3, sh3, _, rfl, ?_⟩
      rw [eqv_self sh3]
      refine iteF ?_
      refine ⟨V.ref x6', rfl, x6', dx, fs, rfl, t1 _ _ ha, TR.no _ (by decide) (by decide) (by decide), ?_⟩
      refine ⟨.ref x6', b1, b2, b3, _, _, _, m1, m2, m3, l1, l2, l3, rfl, hRt, (by rw [B1.fx]; exact B1), (by rw [B2.fx]; exact B2), (by rw [B3.fx]; exact B3), by omega, fun Gu r su hr => ?_⟩
      refine ⟨V.ref wl, rfl, wl, _, rfl, .inl ⟨.inl (.inl (su _ _ (st1 _ _ hw10))), fun r2 nr2 => ?_⟩⟩
      have t2 := upd_new (o := .tup ((srtU (l1 ++ l2 ++ l3)).map V.str)) nr2
      have hr2 : upd Gu r2 (.tup ((srtU (l1 ++ l2 ++ l3)).map V.str)) r2 = some (.tup ((srtU (l1 ++ l2 ++ l3)).map V.str)) := upd_same
      have st2 := (st1.trans su).trans t2
      generalize upd Gu r2 (.tup ((srtU (l1 ++ l2 ++ l3)).map V.str)) = Gv at t2 hr2 st2
      refine ⟨.tuple ((srtU (l1 ++ l2 ++ l3)).map PyData.str), .tuple ((srtU (l1 ++ l2 ++ l3)).map PyData.str), .tup (.inl (.inl (t2 _ _ hr))) (dp_strs _), .tup (.inl (.inl hr2)) (dp_strs _), pxy_shaped px, pxy_shaped px, _, rfl, ?_⟩
      rw [eqv_self (pxy_shaped px)]
      refine iteF ?_
      have hRv := hRA.keep (KeepN.of st2)
      refine ⟨V.ref x6', rfl, V.ref q, rfl, ixq 0 u1 _ st2 rfl ⟨V.ref q, rfl, ixq 1 u2 _ st2 rfl ⟨V.ref q, rfl, ixq 2 u3 _ st2 rfl ?_⟩⟩⟩
      refine mk_ro (B1.q (de_mono st2 _ _ d1) (by omega)) (B2.q (de_mono st2 _ _ d2) (by omega)) (B3.q (de_mono st2 _ _ d3) (by omega)) (by omega) fun Gx y sy hRy => ?_
      have st3 := st2.trans sy
      have hRx := hRA.keep (KeepN.of st3)
      refine ⟨hRx.ins, .inl hRy.ins, .ref x6', .ref y, b1, b2, b3, rfl, hRx, q1, q2, q3, .inl ⟨b1, b2, b3, hRy, q1, q2, q3, ?_⟩⟩
      rw [ee1, ee2, ee3]
      refine ⟨_, rfl, iteF ?_⟩
      refine ⟨V.ref x6', rfl, V.ref q, rfl, hRx.ins, .inr (.inr ⟨q, _, rfl, .inl (.inl (st3 _ _ hqA))⟩), .ref x6', .ref q, b1, b2, b3, rfl, hRx, q1, q2, q3, .inr ⟨q, _, rfl, st3 _ _ hqA, _, rfl, iteF ?_⟩⟩
      exact ⟨_, _, rfl, st3⟩
    · rintro σ GB ⟨x4'', x8', rfl, sB⟩
      have PB : PenAt GB p l ns k1 lf1 := ⟨sB _ _ PA1.dc, sB _ _ PA1.ls⟩
      have hqB := sB _ _ hqA
      have husB := de_monoAll sB _ _ husA
      have hRB := hRA.keep (KeepN.of sB)
      refine ⟨V.ref p, rfl, p, l, ns, k1, lf1, 3, rfl, PB, hn, e2, by omega, e3, by decide, by decide, fun GC kC lfC dC g1 g2 g3 g4 g5 sC PC => ?_⟩
      obtain ⟨j, hj⟩ : ∃ j : Nat, dC = (j : Int) := ⟨dC.toNat, (Int.toNat_of_nonneg g4).symm⟩
      subst hj
      obtain ⟨b, c1', c2', c3', hb, htb, hfb, hlb, hce, hk32, hne⟩ := kn_other hK j (by omega)
      have hqC := sC _ _ (ne_of hqB PB.dc (by intro z; cases z)) hqB
      have husC := de_butAll PB.dc sC husB
      have hRC := hRB.but PB.dc sC
      obtain ⟨u, huj, hde⟩ := deAll_ix husC hb
      obtain ⟨ab, ws, rfl, hab, hws⟩ := fz_tup hde hfb htb
      have hwl := deAll_len hws
      refine ⟨V.ref q, rfl, V.int (j : Nat), rfl, (j : Int), rfl, sl_any hqC fun Ga ra sa hra => ?_⟩
      rw [cut_to _ (by show j ≤ 3; omega)] at hra
      refine ⟨V.ref q, rfl, V.int (j : Nat), rfl, .inr (.inl ⟨q, _, (j : Int), .ref ab, rfl, rfl, .inl (.inl (sa _ _ hqC)), atI_nat huj, ?_⟩)⟩
      refine ⟨(by show 1 ≤ sizeLine; decide), fun t nt => ⟨(by show 1 ≤ sizeLine; decide), fun t2 nt2 => ?_⟩⟩
      have sb := upd_new (o := .tup [.str "mark"]) nt
      have htb1 : upd Ga t (.tup [.str "mark"]) t = some (.tup [.str "mark"]) := upd_same
      generalize upd Ga t (.tup [.str "mark"]) = Gb at nt2 sb htb1
      have sc := upd_new (o := .tup [.ref t]) nt2
      have htc : upd Gb t2 (.tup [.ref t]) t2 = some (.tup [.ref t]) := upd_same
      have htc1 := sc _ _ htb1
      generalize upd Gb t2 (.tup [.ref t]) = Gc at sc htc htc1
      have sac := (sa.trans sb).trans sc
      refine cat_any (sac _ _ hab) htc (by rw [List.length_singleton]; omega) fun Gd rd sd hrd => ⟨(by show 1 ≤ sizeLine; decide), fun t3 nt3 => ?_⟩
      have se := upd_new (o := .tup [.ref rd]) nt3
      have hte : upd Gd t3 (.tup [.ref rd]) t3 = some (.tup [.ref rd]) := upd_same
      have hrde := se _ _ hrd
      generalize upd Gd t3 (.tup [.ref rd]) = Ge at se hte hrde
      have sae := sac.trans (sd.trans se)
      have hrae := (((sb.trans sc).trans sd).trans se) _ _ hra
      refine cat_any hrae hte (by rw [List.length_take, List.length_singleton]; show min j 3 + 1 ≤ sizeLine; omega) fun Gf rf sf hrf => ?_
      have saf := sae.trans sf
      refine ⟨V.ref q, rfl, V.int (j : Nat), rfl, (j : Int), 1, rfl, rfl, ((j + 1 : Nat) : Int), rfl, ?_⟩
      refine noPart_go (sl_any (saf _ _ hqC) fun Gg rg sg hrg => ?_)
      rw [cut_from _ (by show j + 1 ≤ 3; omega)] at hrg
      refine cat_any (sg _ _ hrf) hrg (by rw [List.length_append, List.length_take, List.length_singleton, List.length_drop]; show min j 3 + 1 + (3 - (j + 1)) ≤ sizeLine; omega) fun Gh rh sh hrh => ?_
      have sah := saf.trans (sg.trans sh)
      have hnew : De K Gh (.ref rd) (.tuple (elems b ++ [.tuple [.str "mark"]])) := by
        have sde := (sf.trans sg).trans sh
        exact .tup (sde _ _ hrde) (de_monoAll sah _ _ (deAll_app hws .nil) |> fun z => by
          rw [List.append_nil, List.append_nil] at z
          exact deAll_app z (.cons (.tup (((sd.trans se).trans sde) _ _ htc1) (.cons (.str _) .nil)) .nil))
      have husH := de_monoAll sah _ _ husC
      have hall := deAll_app (deAll_app (deAll_take j husH) (.cons hnew .nil)) (deAll_drop (j + 1) husH)
      rw [hce] at hall
      have hRH := hRC.keep (KeepN.of sah)
      have PH : PenAt Gh p l ns kC lfC := ⟨sah _ _ PC.dc, sah _ _ PC.ls⟩
      generalize [u1, u2, u3].take j ++ [V.ref rd] ++ [u1, u2, u3].drop (j + 1) = vs at hrh hall
      clear sah sg sh saf sf hrg hrf hrae sae se sd sac sc sb sa hnew husH hrde hrd htc htc1 htb1 hra
      obtain ⟨v1, v2, v3, rfl, y1, y2, y3⟩ : ∃ v1 v2 v3, vs = [v1, v2, v3] ∧ De K Gh v1 c1' ∧ De K Gh v2 c2' ∧ De K Gh v3 c3' := by
        cases hall with
        | cons z1 h =>
        cases h with
        | cons z2 h =>
        cases h with
        | cons z3 h =>
        cases h
        exact ⟨_, _, _, rfl, z1, z2, z3⟩
      have ixr : ∀ {G : Hp} (j : Nat) (v' : V) (R : VK), Same Gh G → [v1, v2, v3][j]? = some v' → R v' G → rIx K (.ref rh) (.int (j : Nat)) G R := fun {G} j v' R s hj hR => .inr (.inl ⟨rh, _, (j : Int), v', rfl, rfl, .inl (.inl (s _ _ hrh)), atI_nat hj, hR⟩)
      obtain ⟨o1, p1, o2, p2, o3, p3, C1, C2, C3, hm32⟩ := hk32
      have t1 : Eqb (fz c1') := by rw [C1.fx]; exact C1.eqb
      have t2' : Eqb (fz c2') := by rw [C2.fx]; exact C2.eqb
      have t3' : Eqb (fz c3') := by rw [C3.fx]; exact C3.eqb
      have hne2 : (PyData.eqv (fz b1) (fz c1') && (PyData.eqv (fz b2) (fz c2') && PyData.eqv (fz b3) (fz c3'))) = false := by
        rw [B1.fx, B2.fx, B3.fx, C1.fx, C2.fx, C3.fx]
        exact hne
      have s0h := Same.refl Gh
      refine ⟨V.ref x6', rfl, V.ref rh, rfl, ixr 0 v1 _ s0h rfl ⟨V.ref rh, rfl, ixr 1 v2 _ s0h rfl ⟨V.ref rh, rfl, ixr 2 v3 _ s0h rfl ?_⟩⟩⟩
      refine mk_ro (C1.q y1 (by omega)) (C2.q y2 (by omega)) (C3.q y3 (by omega)) (by omega) fun Gi y si hRy => ?_
      have hRi := hRH.keep (KeepN.of si)
      refine ⟨hRi.ins, .inl hRy.ins, .ref x6', .ref y, b1, b2, b3, rfl, hRi, q1, q2, q3, .inl ⟨c1', c2', c3', hRy, t1, t2', t3', ?_⟩⟩
      rw [hne2]
      refine ⟨_, rfl, iteF ?_⟩
      refine ⟨V.ref x6', rfl, V.ref rh, rfl, ixr 0 v1 _ si rfl ⟨V.ref rh, rfl, ixr 1 v2 _ si rfl ⟨V.ref rh, rfl, ixr 2 v3 _ si rfl ?_⟩⟩⟩
      refine mk_ro (C1.q (de_mono si _ _ y1) (by omega)) (C2.q (de_mono si _ _ y2) (by omega)) (C3.q (de_mono si _ _ y3) (by omega)) (by omega) fun Gj y' sj hRy' => ?_
      have sij := si.trans sj
      have hRj := hRH.keep (KeepN.of sij)
      refine ⟨hRj.ins, hRy'.ins, .ref x6', .ref y', b1, b2, b3, rfl, hRj, q1, q2, q3, .inl ⟨c1', c2', c3', hRy', t1, t2', t3', _, rfl, ?_⟩⟩
      rw [hne2]
      refine ⟨_, rfl, iteF ?_⟩
      exact ⟨_, _, _, _, _, _, _, _, _, kC, lfC, rfl, ⟨sij _ _ PH.dc, sij _ _ PH.ls⟩, g2, (by omega), g3⟩
end
end SK
namespace SK
open PySem PySem.Spec PyProof.Rows L2 LamX NdefX
/-! ### the law's call, some tables of code objects beside the script -/
abbrev EndOk (h : Heap) (os : OsState) (r : Result) (s' : Shared) : Prop := r = .ok (.ret (.bool true)) ∧ PySem.OldK h s'.heap ∧ s'.os = os ∧ AllBare s'.gens
def tabObj : Obj := { cls := .none, data := .fields #[] }
section
variable {P : Program} {w : World} {K : PySem.W.Frag} {mg mb : Str → Option Value} {fa a : Addr} {s : Shared} {H : Hp} {vs : List Value} {ns : List Int} {lv : Nat} {sp : Sp} {ps : List (Addr × Addr)} {T : List (Addr × Str)}
theorem run_lawA (D : ∀ base : Heap, K.In base → base.Ns mainGlobals mg → (∀ p ∈ ps, TabB base mg p.1 p.2) → ∃ fd, Binds K fd ["script"] [] ∧ FnG P w K mg base CX0 lv fa fd ["script"] sp) (room : Room lv PySem.callerA)
    (hsp : ∀ (H : Hp) (a : Addr) (ns : List Int), SqL K H a (ns.map V.int) → ns.length ≤ 63 → Tabs T H → sp [.ref a] H (fun v _ => v = .bl true) E0)
    (hT : ∀ p ∈ T, p.1 ∈ ps.map (·.2)) (KX : K.In s.heap) (hm : s.heap.Ns mainGlobals mg) (hb : s.heap.Ns builtinsNs mb) (hbb : ∀ x : Str, x ≠ "__name__" → mb x = bootBuiltins x)
    (hlim : s.heap.NoLimit) (hgens : s.gens = #[]) (hPt : ∀ P ∈ ps.map (·.2), s.heap.get? P = some tabObj) (nPt : ∀ P ∈ ps.map (·.2), K.lookup P = none) (hC : ∀ p ∈ ps, PySem.W.CodeHd s.heap p.1 p.2)
    (hbm : ∃ (bm : Addr) (ob : Obj), mg "__builtins__" = some (.ref bm) ∧ bm ≠ builtinsNs ∧ s.heap.get? bm = some ob ∧ ob.cls = .type "module" ∧ ob.dict = some builtinsNs ∧ ob.data = .plain)
    (ha : s.heap.get? a = some { cls := .type "list", data := .seq vs.toArray }) (hn : ns.length ≤ 63) (hS : SqL K H a (ns.map V.int)) (ok : HOk P w H s.heap) (hHP : ∀ P ∈ ps.map (·.2), H P = some (.tbl #[]))
    (hO : ∀ b, H b = none ∨ b ∈ ps.map (·.2) ∨ (b = a ∧ ∃ o xs, H b = some (.frz o (.lst xs)))) (hK : H a ≠ none → K.lookup a = none) :
    codeAny (model P w) PySem.callerA (.call (.ref fa) ⟨[.ref a], []⟩) (EndOk s.heap s.os) s := by
  have free : ∀ {b : Addr} {o : Obj}, s.heap.get? b = some o → (∀ vs n, o.data ≠ .seq vs n) → o.data ≠ .fields #[] → H b = none := fun {b o} e h1 h2 => by
    rcases hO b with z | z | ⟨rfl, _⟩
    · exact z
    · rw [hPt b z] at e
      have e' := Option.some.inj e
      subst e'
      exact absurd rfl h2
    · rw [ha] at e
      have e' := Option.some.inj e
      subst e'
      exact absurd rfl (h1 _ _)
  have dicts : ∀ {b : Addr} {m : Str → Option Value}, s.heap.Ns b m → (hidT s.heap H).Ns b m := fun {b m} ⟨o, es, ep, e, d, r⟩ =>
    ⟨o, es, ep, hidT_get e (free e (fun vs n z => by rw [d] at z; cases z) fun z => by rw [d] at z; cases z), d, r⟩
  have Kb : K.In (hidT s.heap H) := fun b o e => by
    refine hidT_get (KX b o e) ?_
    rcases hO b with z | z | ⟨rfl, o', xs, z⟩
    · exact z
    · rw [nPt b z] at e
      cases e
    · rw [hK (by rw [z]; exact fun z => nomatch z)] at e
      cases e
  have M : Mod K mg (hidT s.heap H) := ⟨Kb, dicts hm, ⟨mb, dicts hb, hbb⟩, by
    obtain ⟨mc, h1, h2⟩ := hlim
    exact ⟨mc, dicts h1, h2⟩⟩
  have noG : ∀ P ∈ ps.map (·.2), mainGlobals ≠ P := fun P hP z => by
    obtain ⟨o, es, ep, e, d, _⟩ := hm
    rw [z, hPt P hP] at e
    have e' := Option.some.inj e
    subst e'
    cases d
  have TB : ∀ p ∈ ps, TabB (hidT s.heap H) mg p.1 p.2 := fun p hp => by
    have hp2 : p.2 ∈ ps.map (·.2) := List.mem_map.mpr ⟨p, hp, rfl⟩
    refine ⟨?_, ?_, noG _ hp2⟩
    · obtain ⟨o, us, file, tf, flags, tg, inF, text, tt, e1, r1, r2, r3, rest⟩ := hC p hp
      refine ⟨o, us, file, tf, flags, tg, inF, text, tt, hidT_get e1 (free e1 (fun vs n z => ?_) fun z => ?_), r1, r2, r3, rest⟩
      · rw [r2] at z
        cases z
      · rw [r2] at z
        injection z with z
        subst z
        simp at r3
    · obtain ⟨bm, ob, b1, b2, b3, b4, b5, b6⟩ := hbm
      refine ⟨bm, ob, b1, b2, fun z => ?_, fun z => ?_, hidT_get b3 (free b3 (fun vs n z => by rw [b6] at z; cases z) fun z => by rw [b6] at z; cases z), b4, b5, b6⟩
      · obtain ⟨o, es, ep, e, d, _⟩ := hm
        rw [z, e] at b3
        have e' := Option.some.inj b3
        subst e'
        rw [d] at b6
        cases b6
      · rw [z, hPt _ hp2] at b3
        have e' := Option.some.inj b3
        subst e'
        cases b6
  have e0 : Env0 P w K mg (hidT s.heap H) PySem.callerA [] s H := ⟨rfl, M, fun b o e => of_hidT e, Nat.le_of_eq (hidT_size _ _), trivial, fun b z => (by cases z), ok, AllBare.of_eq hgens⟩
  have tabs : Tabs T H := fun p hp => TabS.nil (hHP _ (hT p hp))
  obtain ⟨fd, b, G⟩ := D _ Kb (dicts hm) TB
  have back : ∀ b o, (hidT s.heap H).get? b = some o → s.heap.get? b = some o := fun b o e => (e0.bs b o e).1
  have bb := b s [Value.ref a] (e0.mod.kin.keeps back) (by rfl)
  refine codeAny_mono (G.run PySem.callerA [] s H ⟨[.ref a], []⟩ [.ref a] [V.ref a] _ E0 rfl room e0 bb (.cons rfl .nil) (hsp H a ns hS hn tabs)) fun r s' h => ?_
  cases r with
  | error e => exact h.elim
  | ok fl =>
    cases fl with
    | next => exact False.elim h
    | brk => exact False.elim h
    | cont => exact False.elim h
    | ret u =>
      obtain ⟨v, H', os, bare, un, ok', rv, qv⟩ := h
      have qv : v = .bl true := qv
      subst qv
      obtain rfl : u = Value.bool true := rv
      have grown : ∀ P ∈ ps.map (·.2), ∃ more : Array Value, s'.heap.get? P = some { cls := .none, data := .fields more } := fun P hP => by
        obtain ⟨more, z⟩ := un.tbls P #[] (hHP P hP)
        exact ⟨_, ok' P _ z⟩
      have same : ∀ b o, b ∉ ps.map (·.2) → s.heap.get? b = some o → s'.heap.get? b = some o := fun b o nb e => by
        rcases hO b with z | z | ⟨_, ob, xs, z⟩
        · exact un.keep b o e z (fun z => (by cases z)) (fun z => (by cases z))
        · exact absurd z nb
        · obtain ⟨f1, _⟩ := ok b _ z
          obtain ⟨f2, _⟩ := ok' b _ (un.frzs b ob _ z)
          rw [e] at f1
          cases f1
          exact f2
      refine ⟨rfl, ⟨fun b o e => ?_, fun b o e => ?_⟩, os, bare⟩
      · by_cases hbP : b ∈ ps.map (·.2)
        · obtain ⟨p, hp, rfl⟩ := List.mem_map.mp hbP
          rw [hPt _ hbP] at e
          have e' := Option.some.inj e
          subst e'
          obtain ⟨more, hmore⟩ := grown _ hbP
          exact .inr (.inl ⟨((hC p hp).tab (hPt _ hbP)).isCodeTable, rfl, #[], more, rfl, by rw [Array.empty_append]; exact hmore⟩)
        · exact .inl (same b o hbP e)
      · by_cases hbP : b ∈ ps.map (·.2)
        · obtain ⟨more, hmore⟩ := grown _ hbP
          exact ⟨_, hmore⟩
        · exact ⟨o, same b o hbP e⟩
theorem run_lawG (D : ∀ base : Heap, K.In base → base.Ns mainGlobals mg → (∀ p ∈ ps, TabB base mg p.1 p.2) → ∃ fd, Binds K fd ["script"] [] ∧ FnG P w K mg base CX0 lv fa fd ["script"] sp) (room : Room lv PySem.callerA)
    (hsp : ∀ (H : Hp) (a : Addr) (ns : List Int), SqL K H a (ns.map V.int) → ns.length ≤ 63 → Tabs T H → sp [.ref a] H (fun v _ => v = .bl true) E0)
    (hT : ∀ p ∈ T, p.1 ∈ ps.map (·.2)) (KX : K.In s.heap) (hm : s.heap.Ns mainGlobals mg) (hb : s.heap.Ns builtinsNs mb) (hbb : ∀ x : Str, x ≠ "__name__" → mb x = bootBuiltins x)
    (hlim : s.heap.NoLimit) (hgens : s.gens = #[]) (hPt : ∀ P ∈ ps.map (·.2), s.heap.get? P = some tabObj) (nPt : ∀ P ∈ ps.map (·.2), K.lookup P = none) (hC : ∀ p ∈ ps, PySem.W.CodeHd s.heap p.1 p.2)
    (hbm : ∃ (bm : Addr) (ob : Obj), mg "__builtins__" = some (.ref bm) ∧ bm ≠ builtinsNs ∧ s.heap.get? bm = some ob ∧ ob.cls = .type "module" ∧ ob.dict = some builtinsNs ∧ ob.data = .plain)
    (ha : s.heap.get? a = some { cls := .type "list", data := .seq vs.toArray }) (hi : IntsAre vs ns) (hn : ns.length ≤ 63) :
    codeAny (model P w) PySem.callerA (.call (.ref fa) ⟨[.ref a], []⟩) (EndOk s.heap s.os) s := by
  have rv := vals_ints hi
  have lv := hi.length
  have z63 : (63 : Nat) ≤ sizeLine := by decide
  have hz : ns.length ≤ sizeLine := Nat.le_trans hn z63
  have nap : a ∉ ps.map (·.2) := fun z => by
    have e := hPt a z
    rw [ha] at e
    have e := congrArg Obj.data (Option.some.inj e)
    cases e
  let lo : HO := .frz { cls := .type "list", data := .seq vs.toArray } (.lst (ns.map V.int))
  by_cases hk : K.lookup a = none
  · let H0 : Hp := fun b => if b = a then some lo else if b ∈ ps.map (·.2) then some (.tbl #[]) else none
    have ea : H0 a = some lo := if_pos rfl
    have eP : ∀ P ∈ ps.map (·.2), H0 P = some (.tbl #[]) := fun P hP => (if_neg (show ¬ P = a from fun z => nap (by rw [← z]; exact hP))).trans (if_pos hP)
    have en : ∀ b, b ≠ a → b ∉ ps.map (·.2) → H0 b = none := fun b n m => (if_neg n).trans (if_neg m)
    refine run_lawA (H := H0) D room hsp hT KX hm hb hbb hlim hgens hPt nPt hC hbm ha hn (.inl (.inr ⟨_, ea⟩)) (fun b u z => ?_) eP (fun b => ?_) fun _ => hk
    · by_cases h : b = a
      · subst h
        rw [ea] at z
        cases z
        exact ⟨ha, by rw [List.length_map]; exact hz, vs, _, rv, ha⟩
      · by_cases m : b ∈ ps.map (·.2)
        · rw [eP b m] at z
          cases z
          exact hPt b m
        · rw [en b h m] at z
          cases z
    · by_cases h : b = a
      · subst h
        exact .inr (.inr ⟨rfl, _, _, ea⟩)
      · by_cases m : b ∈ ps.map (·.2)
        · exact .inr (.inl m)
        · exact .inl (en b h m)
  · obtain ⟨o, ho⟩ := Option.ne_none_iff_exists'.mp hk
    have e := KX a o ho
    rw [ha] at e
    cases e
    let H1 : Hp := fun b => if b ∈ ps.map (·.2) then some (.tbl #[]) else none
    have eP : ∀ P ∈ ps.map (·.2), H1 P = some (.tbl #[]) := fun P hP => if_pos hP
    have en : ∀ b, b ∉ ps.map (·.2) → H1 b = none := fun b m => if_neg m
    refine run_lawA (H := H1) D room hsp hT KX hm hb hbb hlim hgens hPt nPt hC hbm ha hn (.inr ⟨_, vs.toArray, _, ho, rfl, rfl, rfl, by rw [List.size_toArray, lv]; exact hz, by simpa using rv⟩) (fun b u z => ?_) eP (fun b => ?_) fun z => absurd (en a nap) z
    · by_cases m : b ∈ ps.map (·.2)
      · rw [eP b m] at z
        cases z
        exact hPt b m
      · rw [en b m] at z
        cases z
    · by_cases m : b ∈ ps.map (·.2)
      · exact .inr (.inl m)
      · exact .inl (en b m)
end
end SK
namespace SK
open PySem PySem.Spec PyProof.Rows L2 LamX NdefX
open K0 (De DeAll XCl spX withX)
/-! ### what the top leaves, as one test -/
def clsB (K : PySem.W.Frag) (C : Addr) : Bool := match K.lookup C with
  | some ⟨.type "type", _, .cls cd, sl⟩ => (match cd.mro, sl.toList with
    | .ref D :: bm, [_, _, _, _, some (.builtin n), _] => decide (D = C) && (decide (n = "ValueError.__new__") && (!cd.hasDel && (cd.hasDict && PySem.HandSPX.refsVE bm)))
    | _, _ => false)
  | _ => false
theorem clsB_ok {K : PySem.W.Frag} {C : Addr} (h : clsB K C = true) : ∃ nm q N bs bm sn sub ab col dd k0 k1 k2 k3 k5, K.lookup C = some (excClassObj nm q C N bs bm true sn sub ab col dd k0 k1 k2 k3 k5 "ValueError.__new__") ∧ PySem.HandSPX.refsVE bm = true := by
  unfold clsB at h
  split at h
  · rename_i dd cd sl ho
    split at h
    · rename_i D bm k0 k1 k2 k3 n k5 hm hs
      simp only [Bool.and_eq_true, decide_eq_true_eq, Bool.not_eq_true'] at h
      obtain ⟨rfl, rfl, hdel, hd, hv⟩ := h
      obtain ⟨nm, bs, mro, ns, qn, hdc, sn, sub, ab, col, del⟩ := cd
      dsimp only at hm hdel hd
      subst hm hdel hd
      have e : sl = #[k0, k1, k2, k3, some (.builtin "ValueError.__new__"), k5] := by
        obtain ⟨l⟩ := sl
        simp only at hs
        rw [hs]
      subst e
      exact ⟨nm, qn, ns, bs, bm, sn, sub, ab, col, dd, k0, k1, k2, k3, k5, ho, hv⟩
    · cases h
  · cases h
def xB (K : PySem.W.Frag) (C : Addr) : Bool :=
  clsB K C && (decide (PySem.W.findIn K (.ref C) "__setattr__" = some (some (.builtin "object.__setattr__"))) && (decide (PySem.W.subIn K (.ref C) (.type "BaseException") = some true) && (decide (PySem.W.typeIn K (.ref C) = some (.type "type")) && (PySem.W.keepIn K (.ref C) &&
    (decide (PySem.W.findIn K (.ref C) "__getattribute__" = some (some (.builtin "BaseException.__getattribute__"))) && (decide (PySem.W.findIn K (.ref C) "__getattr__" = some none) && (PySem.W.hasDictIn K C && (decide (PySem.W.findIn K (.ref C) "__class__" = some (some (.builtin "object.__class__"))) &&
      (decide (PySem.W.specialIn K (.builtin "object.__class__") "__get__" = some (some (.builtin "getset_descriptor.__get__"))) && (decide (PySem.W.takesIn K (.builtin "object.__class__") = some true) && decide (PySem.W.mroIn K C (.type "object") = some true)))))))))))
theorem xB_ok {K : PySem.W.Frag} {C : Addr} (h : xB K C = true) : XCl K C := by
  simp only [xB, Bool.and_eq_true, decide_eq_true_eq] at h
  obtain ⟨h1, h2, h3, h4, h5, h6, h7, h8, h9, h10, h11, h12⟩ := h
  exact ⟨⟨clsB_ok h1, h2, h3, h4, h5⟩, h6, h7, h8, h9, h10, h11, h12⟩
def iniB (K : PySem.W.Frag) (x : Str) (fs : List Str) : Bool :=
  decide (PySem.W.findIn K (.ref (He.ga K x)) "__init__" = some (some (.ref (He.ma K (He.ga K x) "__init__")))) && (decide (PySem.W.typeIn K (.ref (He.ma K (He.ga K x) "__init__")) = some (.type "function")) && fs.all fun n => decide (PySem.W.findIn K (.ref (He.ga K x)) n = some none))
theorem put_old {H : Hp} {C a dx : Addr} {fs gs : List (Str × V)} (ne : dx ≠ a) : upd (withX H C a dx fs) dx (exd dx gs) = withX H C a dx gs := by
  funext b
  show upd (upd (upd H dx _) a _) dx _ b = upd (upd H dx _) a _ b
  by_cases hd : b = dx
  · rw [hd, upd_same, upd_ne ne, upd_same]
  · rw [upd_ne hd]
    by_cases ha : b = a
    · rw [ha, upd_same, upd_same]
    · rw [upd_ne ha, upd_ne ha, upd_ne hd, upd_ne hd]
section
variable {P : Program} {w : World} {K : PySem.W.Frag} {mg : Str → Option Value} {base : Heap} {f C : Addr} {fd : FuncData}
theorem sc_TooMany : FnScope ["self", "what", "many", "most"] ["self", "what", "many", "most"] (defScope (inClass (top 2) 0)) := ⟨rfl, rfl, rfl, by decide +kernel, rfl, by decide +kernel, by decide +kernel⟩
theorem ok_TooMany (F : Fun K "__init__" "TooMany.__init__" (inClass (top 2) 0) f fd) (T : OexC K C) (no : ∀ n ∈ (["what", "many", "most"] : List Str), PySem.W.findIn K (.ref C) n = some none) : FnOk P w K mg base CX0 1 f fd ["self", "what", "many", "most"] (spX C ["what", "many", "most"]) := by
  refine F.ok sc_TooMany (fun vs H Q E h => ?_) (fun cdv A outer s H vs Q E hr h => ?_)
  · obtain ⟨a, ys, rfl, hl, _⟩ := h
    exact congrArg Nat.succ hl
  · obtain ⟨a, ys, rfl, hl, ha, k⟩ := h
    match ys, hl with
    | [y0, y1, y2], _ =>
      refine ⟨_, pss_cons (ps_ost (pv 0) (pv 1)) (pss_cons (ps_ost (pv 0) (pv 2)) (pss_one (ps_ost (pv 0) (pv 3)))), ?_⟩
      refine ⟨y0, rfl, .ref a, rfl, a, C, rfl, T, (no _ (by simp)), .inl ⟨ha, fun dx nd ne => ?_⟩⟩
      refine ⟨y1, rfl, .ref a, rfl, a, C, rfl, T, (no _ (by simp)), .inr ⟨dx, _, upd_same, (upd_ne ne).trans upd_same, by simp, ?_⟩⟩
      rw [put_old ne]
      refine ⟨y2, rfl, .ref a, rfl, a, C, rfl, T, (no _ (by simp)), .inr ⟨dx, _, upd_same, (upd_ne ne).trans upd_same, by simp, ?_⟩⟩
      rw [put_old ne]
      exact k dx nd ne
theorem xr_TooMany (F : Fun K "__init__" "TooMany.__init__" (inClass (top 2) 0) f fd) (cl : XCl K C) (gC : mg "TooMany" = some (.ref C)) (iC : PySem.W.findIn K (.ref C) "__init__" = some (some (.ref f)))
    (tI : PySem.W.typeIn K (.ref f) = some (.type "function")) (no : ∀ n ∈ (["what", "many", "most"] : List Str), PySem.W.findIn K (.ref C) n = some none) : XR P w K mg base "TooMany" C ["what", "many", "most"] :=
  ⟨cl, gC, no, f, fd, iC, tI, ok_TooMany F cl.T no, Fun.binds F fun _ _ _ _ _ _ us hl => match us, hl with | [_, _, _, _], _ => rfl⟩
theorem sc_BadStatement : FnScope ["self", "block", "number"] ["self", "block", "number"] (defScope (inClass (top 3) 0)) := ⟨rfl, rfl, rfl, by decide +kernel, rfl, by decide +kernel, by decide +kernel⟩
theorem ok_BadStatement (F : Fun K "__init__" "BadStatement.__init__" (inClass (top 3) 0) f fd) (T : OexC K C) (no : ∀ n ∈ (["block", "number"] : List Str), PySem.W.findIn K (.ref C) n = some none) : FnOk P w K mg base CX0 1 f fd ["self", "block", "number"] (spX C ["block", "number"]) := by
  refine F.ok sc_BadStatement (fun vs H Q E h => ?_) (fun cdv A outer s H vs Q E hr h => ?_)
  · obtain ⟨a, ys, rfl, hl, _⟩ := h
    exact congrArg Nat.succ hl
  · obtain ⟨a, ys, rfl, hl, ha, k⟩ := h
    match ys, hl with
    | [y0, y1], _ =>
      refine ⟨_, pss_cons (ps_ost (pv 0) (pv 1)) (pss_one (ps_ost (pv 0) (pv 2))), ?_⟩
      refine ⟨y0, rfl, .ref a, rfl, a, C, rfl, T, (no _ (by simp)), .inl ⟨ha, fun dx nd ne => ?_⟩⟩
      refine ⟨y1, rfl, .ref a, rfl, a, C, rfl, T, (no _ (by simp)), .inr ⟨dx, _, upd_same, (upd_ne ne).trans upd_same, by simp, ?_⟩⟩
      rw [put_old ne]
      exact k dx nd ne
theorem xr_BadStatement (F : Fun K "__init__" "BadStatement.__init__" (inClass (top 3) 0) f fd) (cl : XCl K C) (gC : mg "BadStatement" = some (.ref C)) (iC : PySem.W.findIn K (.ref C) "__init__" = some (some (.ref f)))
    (tI : PySem.W.typeIn K (.ref f) = some (.type "function")) (no : ∀ n ∈ (["block", "number"] : List Str), PySem.W.findIn K (.ref C) n = some none) : XR P w K mg base "BadStatement" C ["block", "number"] :=
  ⟨cl, gC, no, f, fd, iC, tI, ok_BadStatement F cl.T no, Fun.binds F fun _ _ _ _ _ _ us hl => match us, hl with | [_, _, _], _ => rfl⟩
end
theorem FnG.of {P : Program} {w : World} {K : PySem.W.Frag} {mg : Str → Option Value} {base : Heap} {CX : CXT} {k : Nat} {f : Addr} {fd : FuncData} {ps : List Str} {sp : Sp} (G : FnOk P w K mg base CX k f fd ps sp) : FnG P w K mg base CX k f fd ps sp := ⟨G.len, fun A outer s H args us vs Q E _ hr e0 b r h => G.run A outer s H args us vs Q E hr e0 b r h⟩
theorem ok_ns0 {P : Program} {w : World} {K : PySem.W.Frag} {mg : Str → Option Value} {base : Heap} {f : Addr} {fd : FuncData} (F : Fun K "names_in_statement" "names_in_statement" (top 23) f fd) : FnOk P w K mg base CX0 (2 * 0 + 9) f fd ["statement"] (spNs K 0) := by
  have S0 : FnScope NNs ["statement"] (defScope (top 23)) := ⟨rfl, rfl, rfl, by decide +kernel, rfl, by decide +kernel, by decide +kernel⟩
  refine F.ok S0 (fun vs H Q E h => ?_) (fun cdv A outer s H vs Q E hr h => ?_)
  · obtain ⟨v, d, blk, m, k, l, rfl, _⟩ := h
    rfl
  · obtain ⟨v, d, blk, m, k, l, rfl, _, _, _, hm, _⟩ := h
    omega
/-! ### what is told of Routine, of LET_IN -/
def mroB (K : PySem.W.Frag) (C : Addr) : Bool := match PySem.W.clsIn K C with
  | some cd => (match cd.mro with
    | .ref D :: _ => decide (D = C)
    | _ => false)
  | none => false
theorem mroB_ok {K : PySem.W.Frag} {C : Addr} (h : mroB K C = true) : ∃ cd rest, PySem.W.clsIn K C = some cd ∧ cd.mro = .ref C :: rest := by
  unfold mroB at h
  cases e : PySem.W.clsIn K C with
  | none =>
    rw [e] at h
    cases h
  | some cd =>
    rw [e] at h
    cases e2 : cd.mro with
    | nil =>
      simp only [e2] at h
      cases h
    | cons v rest =>
      simp only [e2] at h
      cases v with
      | ref D =>
        have q : D = C := of_decide_eq_true h
        subst q
        exact ⟨cd, rest, rfl, e2⟩
      | _ => cases h
def rokB (K : PySem.W.Frag) (C : Addr) : Bool :=
  mroB K C && (decide (PySem.W.subIn K (.type "int") (.ref C) = some false) && (decide (PySem.W.subIn K (.ref C) (.type "int") = some false) && (decide (PySem.W.subIn K (.type "tuple") (.ref C) = some false) && (PySem.W.selfFirst K C &&
    (decide (PySem.W.findIn K (.ref C) "__class__" = some (some (.builtin "object.__class__"))) && (decide (PySem.W.specialIn K (.builtin "object.__class__") "__get__" = some (some (.builtin "getset_descriptor.__get__"))) && (decide (PySem.W.takesIn K (.builtin "object.__class__") = some true) && (decide (PySem.W.mroIn K C (.type "object") = some true) &&
    (decide (PySem.W.kitOne K (.ref C) (.ref C) = some true) && (decide (PySem.W.kitOne K (.type "tuple") (.ref C) = some false) &&
    (decide (PySem.W.findIn K (.ref C) "__ne__" = some (some (.builtin "object.__ne__"))) && decide (PySem.W.subIn K (.ref C) (.type "object") = some true))))))))))))
theorem rokB_ok {K : PySem.W.Frag} {C : Addr} (h : rokB K C = true) (cl : Cls K C) (n1 : NoAttr K C "down") (n2 : NoAttr K C "turn") (n3 : NoAttr K C "up") : RoK K C := by
  unfold rokB at h
  obtain ⟨h0, h⟩ := He.ba h
  simp only [Bool.and_eq_true, decide_eq_true_eq] at h
  obtain ⟨h1, h2, h3, h4, h5, h6, h7, h8, h9, h10, h11, h12⟩ := h
  exact ⟨⟨mroB_ok h0, h1, h2, h3, h4⟩, cl, n1, n2, n3, h5, h6, h7, h8, h9, h10, h11, h12⟩
def hasB (K : PySem.W.Frag) (C : Addr) (m : Str) : Bool := He.eqO (PySem.W.findIn K (.ref C) m) (some (some (.ref (He.ma K C m)))) && PySem.W.isFn K (.ref (He.ma K C m))
theorem hasB_ok {K : PySem.W.Frag} {C : Addr} {m : Str} (h : hasB K C m = true) : Has K C m (He.ma K C m) := by
  obtain ⟨h1, h2⟩ := He.ba h
  exact ⟨He.eqO_ok h1, h2⟩
def tupA (K : PySem.W.Frag) (a : Addr) (vs : List He.Dv) : Bool := match K.lookup a with
  | some ⟨.type c, _, .seq its _, _⟩ => decide (c = "tuple") && (decide (its.size ≤ sizeLine) && He.relAll (vs.map (He.Dv.v K)) its.toList)
  | _ => false
theorem tupA_ok {K : PySem.W.Frag} {a : Addr} {vs : List He.Dv} (h : tupA K a vs = true) (H : Hp) : SqT K H a (vs.map (He.Dv.v K)) := by
  unfold tupA at h
  cases q : K.lookup a with
  | none =>
    rw [q] at h
    cases h
  | some o =>
    obtain ⟨oc, od, dt, osl⟩ := o
    rw [q] at h
    cases oc with
    | type c =>
      cases dt with
      | seq its n =>
        obtain ⟨h1, h2⟩ := He.ba (show (decide (c = "tuple") && (decide (its.size ≤ sizeLine) && He.relAll (vs.map (He.Dv.v K)) its.toList)) = true from h)
        obtain ⟨h3, h4⟩ := He.ba h2
        exact .inr ⟨_, its, n, q, congrArg Value.type (of_decide_eq_true h1), rfl, of_decide_eq_true h3, He.relAll_ok h4⟩
      | _ => cases h
    | _ => cases dt <;> cases h
def letB (K : PySem.W.Frag) (d : Addr) : Bool := letK.all fun z => match PySem.W.nsIn K d z with
  | some (some (.ref a)) => tupA K a ((letD z).map He.Dv.str)
  | _ => false
theorem keyOf_in {P : Params} {l : List DictEntry} {ks : List Str} (h : l.map He.keyOf = He.keysIn P ks) {e : DictEntry} (he : e ∈ l) : ∃ x t, e.key = .str x t ∧ x ∈ ks := by
  have m : He.keyOf e ∈ l.map He.keyOf := List.mem_map.mpr ⟨e, he, rfl⟩
  rw [h] at m
  obtain ⟨k, hk, q⟩ := List.mem_map.mp m
  unfold He.keyOf at q
  split at q
  · rename_i x t z
    have q := Option.some.inj q
    exact ⟨x, t, z, by rw [← (Prod.mk.inj q).1]; exact hk⟩
  · cases q
theorem let_no {K : PySem.W.Frag} {w : World} {d : Addr} (h : He.dicW K d = some (He.keysIn w.params letK)) {z : Str} (hz : z ∉ letK) : PySem.W.nsIn K d z = some none := by
  obtain ⟨es, n, D⟩ := He.dicW_ok h
  have e : es.toList.map He.keyOf = He.keysIn w.params letK := by
    unfold He.dicW at h
    rw [D.at_] at h
    simp only [D.low] at h
    exact Option.some.inj h
  unfold PySem.W.nsIn
  rw [D.at_]
  have f : es.toList.find? (fun e => e.key.isStr z) = none := List.find?_eq_none.mpr fun x hx => by
    obtain ⟨y, t, k1, k2⟩ := keyOf_in e hx
    rw [k1]
    intro q
    have q : (y == z) = true := q
    exact hz ((beq_iff_eq.mp q) ▸ k2)
  have g : es.toList.any (fun e => e.refKey) = false := List.any_eq_false.mpr fun x hx => by
    obtain ⟨y, t, k1, _⟩ := keyOf_in e hx
    unfold DictEntry.refKey
    rw [k1]
    simp
  simp only [f, g]
  rfl
theorem letIn_ok {K : PySem.W.Frag} {w : World} {d : Addr} (h : letB K d = true) (k : He.dicW K d = some (He.keysIn w.params letK)) : LetIn K w d := by
  refine ⟨He.dicW_ok k, fun z hz => let_no k hz, fun z hz => ?_⟩
  have q := List.all_eq_true.mp h z hz
  cases e : PySem.W.nsIn K d z with
  | none =>
    rw [e] at q
    cases q
  | some r =>
    rw [e] at q
    cases r with
    | none => cases q
    | some u =>
      cases u with
      | ref a =>
        refine ⟨a, rfl, fun H => ?_⟩
        have y := tupA_ok (K := K) (a := a) (vs := (letD z).map He.Dv.str) q H
        rw [List.map_map] at y
        exact y
      | _ => cases q
def exs02 (K : PySem.W.Frag) : List Bool := [(K.lookup sysModules).isSome,
  He.tupB K "PLAIN_TESTS_statements" [.str "mark", .str "f", .str "x", .str "y", .str "root", .str "ends", .str "next", .str "p", .str "here", .str "true"],
  He.tupB K "ANSWERS" [.str "yes", .str "no", .str "node", .str "p"],
  letB K (He.ga K "LET_IN"),
  rokB K (He.ga K "Routine"),
  hasB K (He.ga K "Routine") "__eq__",
  (xB K (He.ga K "TooMany") && iniB K "TooMany" [("what" : Str), ("many" : Str), ("most" : Str)]),
  (xB K (He.ga K "BadStatement") && iniB K "BadStatement" [("block" : Str), ("number" : Str)])]
def ex02 (K : PySem.W.Frag) : Bool := (exs02 K).all id
def fa02 : List He.Fa := [.glo "is_list", .glo "is_count", .glo "is_test", .glo "is_word_let", .glo "is_set", .glo "is_return", .glo "is_if", .glo "is_statement", .glo "number_of_statements", .glo "check_blocks", .glo "frozen", .glo "names_in_test", .glo "names_in_statement", .glo "names_in_block", .glo "_law_pen", .glo "_law_draw", .glo "_law_pick", .glo "_law_test", .glo "_law_simple", .glo "_law_block", .glo "_law_known", .glo "_law_routine", .glo "_law_size", .glo "_law_as_lists", .glo "_law_named", .glo "law", .glo "Routine", .glo "PLAIN_TESTS_statements", .glo "ANSWERS", .glo "LET_IN", .glo "TooMany", .glo "BadStatement", .free "isinstance", .free "len", .free "tuple", .free "list", .free "bool", .free "str", .free "sorted", .free "set", .free "sum", .free "int", .free "abs", .free "range", .free "min", .int "MOST_STATEMENTS" 40, .int "MOST_TESTS" 6, .cls "Routine", .noat "Routine" "down", .noat "Routine" "turn", .noat "Routine" "up", .meth "Routine" "names", .mkr "Routine"]
def dDef (x : Str) (st : Stmt) : He.DefD := ⟨(x, none), x, x, defArgs st, defBody st, defScope st, [], []⟩
def dMet (x m q : Str) (st : Stmt) : He.DefD := ⟨(x, some m), m, q, defArgs st, defBody st, defScope st, [], []⟩
def fn02 : List He.DefD := [dDef "is_list" (top 11), dDef "is_count" (top 12), dDef "is_test" (top 13), dDef "is_word_let" (top 14), dDef "is_set" (top 15), dDef "is_return" (top 16), dDef "is_if" (top 17), dDef "is_statement" (top 18), dDef "number_of_statements" (top 19), dDef "check_blocks" (top 20), dDef "frozen" (top 21), dDef "names_in_test" (top 22), dDef "names_in_statement" (top 23), dDef "names_in_block" (top 24), dDef "_law_pen" (top 51), dDef "_law_draw" (top 52), dDef "_law_pick" (top 53), dDef "_law_test" (top 54), dDef "_law_simple" (top 55), dDef "_law_block" (top 56), dDef "_law_known" (top 57), dDef "_law_routine" (top 58), dDef "_law_size" (top 59), dDef "_law_as_lists" (top 60), dDef "_law_named" (top 61), dDef "law" (top 62), dMet "TooMany" "__init__" "TooMany.__init__" (inClass (top 2) 0), dMet "BadStatement" "__init__" "BadStatement.__init__" (inClass (top 3) 0), dMet "Routine" "__init__" "Routine.__init__" (inClass (top 49) 0), dMet "Routine" "__eq__" "Routine.__eq__" (inClass (top 49) 2), dMet "Routine" "names" "Routine.names" (inClass (top 49) 3)]
def tf02 : List He.Defn := []
def ts02 : List He.Tab := [(fun K => He.ga K "LET_IN", letK)]
/-! ### the Hook -/
def KF (g : Addr → Option Obj) : PySem.W.Frag := He.frT g (sysModules :: He.asD g 5)
def obsK (g : Addr → Option Obj) : He.AlX := (He.obsT fa02 fn02 ts02 (KF g), ex02 (KF g) && He.tabsB g tf02 (KF g))
abbrev SaysK (w : World) (h : Heap) (K : PySem.W.Frag) : Prop := He.SaysX fa02 fn02 ts02 tf02 ex02 w h K
theorem saysK {w : World} {h : Heap} (e : obsK h.get? = He.valX fn02 ts02 w) : SaysK w h (KF h.get?) := by
  obtain ⟨m1, m2⟩ := He.ba (show (ex02 (KF h.get?) && He.tabsB h.get? tf02 (KF h.get?)) = true from congrArg Prod.snd e)
  have at_ : ∀ p ∈ tf02, PySem.W.codeHdIn (KF h.get?) (He.cT (KF h.get?) p).1 (He.cT (KF h.get?) p).2 = true ∧ ∃ o, h.get? (He.cT (KF h.get?) p).2 = some o ∧ He.emptyTab o = true := fun p hp => by
    obtain ⟨a1, a2⟩ := He.ba (List.all_eq_true.mp m2 p hp)
    refine ⟨a1, ?_⟩
    cases z : h.get? (He.cT (KF h.get?) p).2 with
    | none => rw [z] at a2; cases a2
    | some o => rw [z] at a2; exact ⟨o, rfl, a2⟩
  refine ⟨congrArg Prod.fst e, m1, fun p hp => (at_ p hp).1, fun p hp => ?_, fun p hp => ?_⟩
  · obtain ⟨_, o, z, y⟩ := at_ p hp
    exact He.frT_none z y
  · obtain ⟨_, o, z, y⟩ := at_ p hp
    rw [z, He.emptyTab_eq y]
def hkK : PySem.W.Hook where
  α := He.AlX
  obs := fun s => obsK s.heap.get?
  val := fun w => He.valX fn02 ts02 w
  says := fun w h => ∃ K : PySem.W.Frag, K.In h ∧ SaysK w h K
  of := fun _ _ e => ⟨_, He.frT_in, saysK e⟩
  keeps := fun _ _ _ ⟨K, hK, c⟩ k => ⟨K, PySem.W.Frag.In.keeps hK k, ⟨c.t, c.more, c.hd, c.out, fun p hp => k _ _ (c.empty p hp)⟩⟩
def obK (s : PySem.W.SharedT) : He.AlX := obsK (HandSHeadRun.getT s)
theorem obK_eq (s : PySem.W.SharedT) : obK s = hkK.obs s.abs := by
  have e : HandSHeadRun.getT s = s.abs.heap.get? := funext (HandSHeadRun.getT_eq s)
  show obsK _ = obsK _
  rw [e]
section
variable {P : Program} {w : World} {K : PySem.W.Frag} {mg : Str → Option Value} {base h : Heap}
theorem SaysK.fun_ (c : SaysK w h K) {d : He.DefD} {st : Stmt} (hm : d ∈ fn02) (hp : d.params = defArgs st) (hb : d.body = defBody st) (hs : d.scope = defScope st) (hd : d.dfl = []) : ∃ fd, Fun K d.name d.qual st (He.fAd K d.at_) fd := by
  obtain ⟨fd, F⟩ := c.t.d.defs hm
  obtain ⟨oc, od, dV, kV, doc, pm, an, cdv, ct, osl, e, lk, hcd, hD, _⟩ := F.ex
  have hdv : d.dvs K = [] := by
    unfold He.DefD.dvs
    rw [hd]
    rfl
  have e3 : dV = .none := by
    rcases hD with ⟨_, z⟩ | ⟨z, _⟩
    · exact z
    · exact absurd hdv z
  subst e3
  refine ⟨fd, ⟨oc, od, kV, doc, pm, an, cdv, ct, osl, ?_, lk, hcd⟩, F.kp⟩
  rw [e, hp, hb, hs]
theorem SaysK.is (c : SaysK w h K) {b : Bool} (i : Nat) (e : (exs02 K)[i]? = some b) : b = true := by
  have m : (exs02 K).all id = true := c.more
  exact List.all_eq_true.mp m b (List.mem_of_getElem? e)
theorem SaysK.fact (c : SaysK w h K) (i : Nat) {f : He.Fa} (e : fa02[i]? = some f) : f.ok K = true := c.t.d.facts (List.mem_of_getElem? e)
theorem SaysK.glo (c : SaysK w h K) (Kb : K.In base) (hm : base.Ns mainGlobals mg) (i : Nat) {x : Str} (e : fa02[i]? = some (.glo x)) : mg x = some (.ref (He.ga K x)) := He.glo_ok Kb hm (c.fact i e)
theorem SaysK.free (c : SaysK w h K) (Kb : K.In base) (hm : base.Ns mainGlobals mg) (i : Nat) {x : Str} (e : fa02[i]? = some (.free x)) : mg x = none := He.free_ok Kb hm (c.fact i e)
def tabsK (K : PySem.W.Frag) : List (Addr × Addr) := tf02.map fun p => He.cT K p
def TK (K : PySem.W.Frag) : List (Addr × Str) := []
theorem law_all (c : SaysK w h K) (Kb : K.In base) (hm : base.Ns mainGlobals mg) (TB : ∀ p ∈ tabsK K, TabB base mg p.1 p.2) : ∃ fd, Binds K fd ["script"] [] ∧ FnG P w K mg base CX0 25 (He.ga K "law") fd ["script"] (spLaw K) := by
  obtain ⟨v_is_list_d, v_is_list_F⟩ := c.fun_ (d := dDef "is_list" (top 11)) (st := top 11) (List.mem_of_getElem? (i := 0) rfl) rfl rfl rfl rfl
  have v_is_list_b : Binds K v_is_list_d ["value"] [] := Fun.binds v_is_list_F fun _ _ _ _ _ _ us hl => match us, hl with | [_], _ => rfl
  have v_is_list_g := c.glo Kb hm 0 (x := "is_list") rfl
  obtain ⟨v_is_count_d, v_is_count_F⟩ := c.fun_ (d := dDef "is_count" (top 12)) (st := top 12) (List.mem_of_getElem? (i := 1) rfl) rfl rfl rfl rfl
  have v_is_count_b : Binds K v_is_count_d ["value"] [] := Fun.binds v_is_count_F fun _ _ _ _ _ _ us hl => match us, hl with | [_], _ => rfl
  have v_is_count_g := c.glo Kb hm 1 (x := "is_count") rfl
  obtain ⟨v_is_test_d, v_is_test_F⟩ := c.fun_ (d := dDef "is_test" (top 13)) (st := top 13) (List.mem_of_getElem? (i := 2) rfl) rfl rfl rfl rfl
  have v_is_test_b : Binds K v_is_test_d ["test", "most"] [] := Fun.binds v_is_test_F fun _ _ _ _ _ _ us hl => match us, hl with | [_, _], _ => rfl
  have v_is_test_g := c.glo Kb hm 2 (x := "is_test") rfl
  obtain ⟨v_is_word_let_d, v_is_word_let_F⟩ := c.fun_ (d := dDef "is_word_let" (top 14)) (st := top 14) (List.mem_of_getElem? (i := 3) rfl) rfl rfl rfl rfl
  have v_is_word_let_b : Binds K v_is_word_let_d ["name", "block"] [] := Fun.binds v_is_word_let_F fun _ _ _ _ _ _ us hl => match us, hl with | [_, _], _ => rfl
  have v_is_word_let_g := c.glo Kb hm 3 (x := "is_word_let") rfl
  obtain ⟨v_is_set_d, v_is_set_F⟩ := c.fun_ (d := dDef "is_set" (top 15)) (st := top 15) (List.mem_of_getElem? (i := 4) rfl) rfl rfl rfl rfl
  have v_is_set_b : Binds K v_is_set_d ["statement"] [] := Fun.binds v_is_set_F fun _ _ _ _ _ _ us hl => match us, hl with | [_], _ => rfl
  have v_is_set_g := c.glo Kb hm 4 (x := "is_set") rfl
  obtain ⟨v_is_return_d, v_is_return_F⟩ := c.fun_ (d := dDef "is_return" (top 16)) (st := top 16) (List.mem_of_getElem? (i := 5) rfl) rfl rfl rfl rfl
  have v_is_return_b : Binds K v_is_return_d ["statement", "block"] [] := Fun.binds v_is_return_F fun _ _ _ _ _ _ us hl => match us, hl with | [_, _], _ => rfl
  have v_is_return_g := c.glo Kb hm 5 (x := "is_return") rfl
  obtain ⟨v_is_if_d, v_is_if_F⟩ := c.fun_ (d := dDef "is_if" (top 17)) (st := top 17) (List.mem_of_getElem? (i := 6) rfl) rfl rfl rfl rfl
  have v_is_if_b : Binds K v_is_if_d ["statement"] [] := Fun.binds v_is_if_F fun _ _ _ _ _ _ us hl => match us, hl with | [_], _ => rfl
  have v_is_if_g := c.glo Kb hm 6 (x := "is_if") rfl
  obtain ⟨v_is_statement_d, v_is_statement_F⟩ := c.fun_ (d := dDef "is_statement" (top 18)) (st := top 18) (List.mem_of_getElem? (i := 7) rfl) rfl rfl rfl rfl
  have v_is_statement_b : Binds K v_is_statement_d ["statement", "block"] [] := Fun.binds v_is_statement_F fun _ _ _ _ _ _ us hl => match us, hl with | [_, _], _ => rfl
  have v_is_statement_g := c.glo Kb hm 7 (x := "is_statement") rfl
  obtain ⟨v_number_of_statements_d, v_number_of_statements_F⟩ := c.fun_ (d := dDef "number_of_statements" (top 19)) (st := top 19) (List.mem_of_getElem? (i := 8) rfl) rfl rfl rfl rfl
  have v_number_of_statements_b : Binds K v_number_of_statements_d ["name", "block"] [] := Fun.binds v_number_of_statements_F fun _ _ _ _ _ _ us hl => match us, hl with | [_, _], _ => rfl
  have v_number_of_statements_g := c.glo Kb hm 8 (x := "number_of_statements") rfl
  obtain ⟨v_check_blocks_d, v_check_blocks_F⟩ := c.fun_ (d := dDef "check_blocks" (top 20)) (st := top 20) (List.mem_of_getElem? (i := 9) rfl) rfl rfl rfl rfl
  have v_check_blocks_b : Binds K v_check_blocks_d ["down", "turn", "up"] [] := Fun.binds v_check_blocks_F fun _ _ _ _ _ _ us hl => match us, hl with | [_, _, _], _ => rfl
  have v_check_blocks_g := c.glo Kb hm 9 (x := "check_blocks") rfl
  obtain ⟨v_frozen_d, v_frozen_F⟩ := c.fun_ (d := dDef "frozen" (top 21)) (st := top 21) (List.mem_of_getElem? (i := 10) rfl) rfl rfl rfl rfl
  have v_frozen_b : Binds K v_frozen_d ["value"] [] := Fun.binds v_frozen_F fun _ _ _ _ _ _ us hl => match us, hl with | [_], _ => rfl
  have v_frozen_g := c.glo Kb hm 10 (x := "frozen") rfl
  obtain ⟨v_names_in_test_d, v_names_in_test_F⟩ := c.fun_ (d := dDef "names_in_test" (top 22)) (st := top 22) (List.mem_of_getElem? (i := 11) rfl) rfl rfl rfl rfl
  have v_names_in_test_b : Binds K v_names_in_test_d ["test"] [] := Fun.binds v_names_in_test_F fun _ _ _ _ _ _ us hl => match us, hl with | [_], _ => rfl
  have v_names_in_test_g := c.glo Kb hm 11 (x := "names_in_test") rfl
  obtain ⟨v_names_in_statement_d, v_names_in_statement_F⟩ := c.fun_ (d := dDef "names_in_statement" (top 23)) (st := top 23) (List.mem_of_getElem? (i := 12) rfl) rfl rfl rfl rfl
  have v_names_in_statement_b : Binds K v_names_in_statement_d ["statement"] [] := Fun.binds v_names_in_statement_F fun _ _ _ _ _ _ us hl => match us, hl with | [_], _ => rfl
  have v_names_in_statement_g := c.glo Kb hm 12 (x := "names_in_statement") rfl
  obtain ⟨v_names_in_block_d, v_names_in_block_F⟩ := c.fun_ (d := dDef "names_in_block" (top 24)) (st := top 24) (List.mem_of_getElem? (i := 13) rfl) rfl rfl rfl rfl
  have v_names_in_block_b : Binds K v_names_in_block_d ["block"] [] := Fun.binds v_names_in_block_F fun _ _ _ _ _ _ us hl => match us, hl with | [_], _ => rfl
  have v_names_in_block_g := c.glo Kb hm 13 (x := "names_in_block") rfl
  obtain ⟨v_law_pen_d, v_law_pen_F⟩ := c.fun_ (d := dDef "_law_pen" (top 51)) (st := top 51) (List.mem_of_getElem? (i := 14) rfl) rfl rfl rfl rfl
  have v_law_pen_b : Binds K v_law_pen_d ["script"] [] := Fun.binds v_law_pen_F fun _ _ _ _ _ _ us hl => match us, hl with | [_], _ => rfl
  have v_law_pen_g := c.glo Kb hm 14 (x := "_law_pen") rfl
  obtain ⟨v_law_draw_d, v_law_draw_F⟩ := c.fun_ (d := dDef "_law_draw" (top 52)) (st := top 52) (List.mem_of_getElem? (i := 15) rfl) rfl rfl rfl rfl
  have v_law_draw_b : Binds K v_law_draw_d ["pen", "many"] [] := Fun.binds v_law_draw_F fun _ _ _ _ _ _ us hl => match us, hl with | [_, _], _ => rfl
  have v_law_draw_g := c.glo Kb hm 15 (x := "_law_draw") rfl
  obtain ⟨v_law_pick_d, v_law_pick_F⟩ := c.fun_ (d := dDef "_law_pick" (top 53)) (st := top 53) (List.mem_of_getElem? (i := 16) rfl) rfl rfl rfl rfl
  have v_law_pick_b : Binds K v_law_pick_d ["pen", "some"] [] := Fun.binds v_law_pick_F fun _ _ _ _ _ _ us hl => match us, hl with | [_, _], _ => rfl
  have v_law_pick_g := c.glo Kb hm 16 (x := "_law_pick") rfl
  obtain ⟨v_law_test_d, v_law_test_F⟩ := c.fun_ (d := dDef "_law_test" (top 54)) (st := top 54) (List.mem_of_getElem? (i := 17) rfl) rfl rfl rfl rfl
  have v_law_test_b : Binds K v_law_test_d ["pen", "depth"] [] := Fun.binds v_law_test_F fun _ _ _ _ _ _ us hl => match us, hl with | [_, _], _ => rfl
  have v_law_test_g := c.glo Kb hm 17 (x := "_law_test") rfl
  obtain ⟨v_law_simple_d, v_law_simple_F⟩ := c.fun_ (d := dDef "_law_simple" (top 55)) (st := top 55) (List.mem_of_getElem? (i := 18) rfl) rfl rfl rfl rfl
  have v_law_simple_b : Binds K v_law_simple_d ["pen", "name"] [] := Fun.binds v_law_simple_F fun _ _ _ _ _ _ us hl => match us, hl with | [_, _], _ => rfl
  have v_law_simple_g := c.glo Kb hm 18 (x := "_law_simple") rfl
  obtain ⟨v_law_block_d, v_law_block_F⟩ := c.fun_ (d := dDef "_law_block" (top 56)) (st := top 56) (List.mem_of_getElem? (i := 19) rfl) rfl rfl rfl rfl
  have v_law_block_b : Binds K v_law_block_d ["pen", "name", "most", "depth"] [] := Fun.binds v_law_block_F fun _ _ _ _ _ _ us hl => match us, hl with | [_, _, _, _], _ => rfl
  have v_law_block_g := c.glo Kb hm 19 (x := "_law_block") rfl
  obtain ⟨v_law_known_d, v_law_known_F⟩ := c.fun_ (d := dDef "_law_known" (top 57)) (st := top 57) (List.mem_of_getElem? (i := 20) rfl) rfl rfl rfl rfl
  have v_law_known_b : Binds K v_law_known_d ["name"] [] := Fun.binds v_law_known_F fun _ _ _ _ _ _ us hl => match us, hl with | [_], _ => rfl
  have v_law_known_g := c.glo Kb hm 20 (x := "_law_known") rfl
  obtain ⟨v_law_routine_d, v_law_routine_F⟩ := c.fun_ (d := dDef "_law_routine" (top 58)) (st := top 58) (List.mem_of_getElem? (i := 21) rfl) rfl rfl rfl rfl
  have v_law_routine_b : Binds K v_law_routine_d ["pen"] [] := Fun.binds v_law_routine_F fun _ _ _ _ _ _ us hl => match us, hl with | [_], _ => rfl
  have v_law_routine_g := c.glo Kb hm 21 (x := "_law_routine") rfl
  obtain ⟨v_law_size_d, v_law_size_F⟩ := c.fun_ (d := dDef "_law_size" (top 59)) (st := top 59) (List.mem_of_getElem? (i := 22) rfl) rfl rfl rfl rfl
  have v_law_size_b : Binds K v_law_size_d ["block"] [] := Fun.binds v_law_size_F fun _ _ _ _ _ _ us hl => match us, hl with | [_], _ => rfl
  have v_law_size_g := c.glo Kb hm 22 (x := "_law_size") rfl
  obtain ⟨v_law_as_lists_d, v_law_as_lists_F⟩ := c.fun_ (d := dDef "_law_as_lists" (top 60)) (st := top 60) (List.mem_of_getElem? (i := 23) rfl) rfl rfl rfl rfl
  have v_law_as_lists_b : Binds K v_law_as_lists_d ["value"] [] := Fun.binds v_law_as_lists_F fun _ _ _ _ _ _ us hl => match us, hl with | [_], _ => rfl
  have v_law_as_lists_g := c.glo Kb hm 23 (x := "_law_as_lists") rfl
  obtain ⟨v_law_named_d, v_law_named_F⟩ := c.fun_ (d := dDef "_law_named" (top 61)) (st := top 61) (List.mem_of_getElem? (i := 24) rfl) rfl rfl rfl rfl
  have v_law_named_b : Binds K v_law_named_d ["value"] [] := Fun.binds v_law_named_F fun _ _ _ _ _ _ us hl => match us, hl with | [_], _ => rfl
  have v_law_named_g := c.glo Kb hm 24 (x := "_law_named") rfl
  obtain ⟨v_law_d, v_law_F⟩ := c.fun_ (d := dDef "law" (top 62)) (st := top 62) (List.mem_of_getElem? (i := 25) rfl) rfl rfl rfl rfl
  have v_law_b : Binds K v_law_d ["script"] [] := Fun.binds v_law_F fun _ _ _ _ _ _ us hl => match us, hl with | [_], _ => rfl
  have v_law_g := c.glo Kb hm 25 (x := "law") rfl
  obtain ⟨x_TooMany_d, x_TooMany_F⟩ := c.fun_ (d := dMet "TooMany" "__init__" "TooMany.__init__" (inClass (top 2) 0)) (st := inClass (top 2) 0) (List.mem_of_getElem? (i := 26) rfl) rfl rfl rfl rfl
  have x_TooMany_g := c.glo Kb hm 30 (x := "TooMany") rfl
  obtain ⟨x_TooMany_1, x_TooMany_2⟩ := He.ba (c.is 6 rfl)
  unfold iniB at x_TooMany_2
  obtain ⟨x_TooMany_3, x_TooMany_4⟩ := He.ba x_TooMany_2
  obtain ⟨x_TooMany_5, x_TooMany_6⟩ := He.ba x_TooMany_4
  have x_TooMany_X : XR P w K mg base "TooMany" (He.ga K "TooMany") ["what", "many", "most"] := xr_TooMany x_TooMany_F (xB_ok x_TooMany_1) x_TooMany_g (of_decide_eq_true x_TooMany_3) (of_decide_eq_true x_TooMany_5) fun n hn => of_decide_eq_true (List.all_eq_true.mp x_TooMany_6 n hn)
  obtain ⟨x_BadStatement_d, x_BadStatement_F⟩ := c.fun_ (d := dMet "BadStatement" "__init__" "BadStatement.__init__" (inClass (top 3) 0)) (st := inClass (top 3) 0) (List.mem_of_getElem? (i := 27) rfl) rfl rfl rfl rfl
  have x_BadStatement_g := c.glo Kb hm 31 (x := "BadStatement") rfl
  obtain ⟨x_BadStatement_1, x_BadStatement_2⟩ := He.ba (c.is 7 rfl)
  unfold iniB at x_BadStatement_2
  obtain ⟨x_BadStatement_3, x_BadStatement_4⟩ := He.ba x_BadStatement_2
  obtain ⟨x_BadStatement_5, x_BadStatement_6⟩ := He.ba x_BadStatement_4
  have x_BadStatement_X : XR P w K mg base "BadStatement" (He.ga K "BadStatement") ["block", "number"] := xr_BadStatement x_BadStatement_F (xB_ok x_BadStatement_1) x_BadStatement_g (of_decide_eq_true x_BadStatement_3) (of_decide_eq_true x_BadStatement_5) fun n hn => of_decide_eq_true (List.all_eq_true.mp x_BadStatement_6 n hn)
  obtain ⟨m_Routine_init_d, m_Routine_init_F⟩ := c.fun_ (d := dMet "Routine" "__init__" "Routine.__init__" (inClass (top 49) 0)) (st := inClass (top 49) 0) (List.mem_of_getElem? (i := 28) rfl) rfl rfl rfl rfl
  have m_Routine_init_b : Binds K m_Routine_init_d ["self", "down", "turn", "up"] [] := Fun.binds m_Routine_init_F fun _ _ _ _ _ _ us hl => match us, hl with | [_, _, _, _], _ => rfl
  obtain ⟨m_Routine_eq_d, m_Routine_eq_F⟩ := c.fun_ (d := dMet "Routine" "__eq__" "Routine.__eq__" (inClass (top 49) 2)) (st := inClass (top 49) 2) (List.mem_of_getElem? (i := 29) rfl) rfl rfl rfl rfl
  have m_Routine_eq_b : Binds K m_Routine_eq_d ["self", "other"] [] := Fun.binds m_Routine_eq_F fun _ _ _ _ _ _ us hl => match us, hl with | [_, _], _ => rfl
  obtain ⟨m_Routine_names_d, m_Routine_names_F⟩ := c.fun_ (d := dMet "Routine" "names" "Routine.names" (inClass (top 49) 3)) (st := inClass (top 49) 3) (List.mem_of_getElem? (i := 30) rfl) rfl rfl rfl rfl
  have m_Routine_names_b : Binds K m_Routine_names_d ["self"] [] := Fun.binds m_Routine_names_F fun _ _ _ _ _ _ us hl => match us, hl with | [_], _ => rfl
  have f_isinstance := c.free Kb hm 32 (x := "isinstance") rfl
  have f_len := c.free Kb hm 33 (x := "len") rfl
  have f_tuple := c.free Kb hm 34 (x := "tuple") rfl
  have f_list := c.free Kb hm 35 (x := "list") rfl
  have f_bool := c.free Kb hm 36 (x := "bool") rfl
  have f_str := c.free Kb hm 37 (x := "str") rfl
  have f_sorted := c.free Kb hm 38 (x := "sorted") rfl
  have f_set := c.free Kb hm 39 (x := "set") rfl
  have f_sum := c.free Kb hm 40 (x := "sum") rfl
  have f_int := c.free Kb hm 41 (x := "int") rfl
  have f_abs := c.free Kb hm 42 (x := "abs") rfl
  have f_range := c.free Kb hm 43 (x := "range") rfl
  have f_min := c.free Kb hm 44 (x := "min") rfl
  have g_Routine := c.glo Kb hm 26 (x := "Routine") rfl
  have g_PLAIN_TESTS_statements := c.glo Kb hm 27 (x := "PLAIN_TESTS_statements") rfl
  have g_ANSWERS := c.glo Kb hm 28 (x := "ANSWERS") rfl
  have g_LET_IN := c.glo Kb hm 29 (x := "LET_IN") rfl
  have g_TooMany := c.glo Kb hm 30 (x := "TooMany") rfl
  have g_BadStatement := c.glo Kb hm 31 (x := "BadStatement") rfl
  have i_MOST_STATEMENTS := He.int_ok Kb hm (c.fact 45 (f := .int "MOST_STATEMENTS" 40) rfl)
  have i_MOST_TESTS := He.int_ok Kb hm (c.fact 46 (f := .int "MOST_TESTS" 6) rfl)
  have c_Routine := He.cls_ok (c.fact 47 (f := .cls "Routine") rfl)
  have n_Routine_down := He.noat_ok (c.fact 48 (f := .noat "Routine" "down") rfl)
  have n_Routine_turn := He.noat_ok (c.fact 49 (f := .noat "Routine" "turn") rfl)
  have n_Routine_up := He.noat_ok (c.fact 50 (f := .noat "Routine" "up") rfl)
  have t_Routine_names := He.meth_ok (c.fact 51 (f := .meth "Routine" "names") rfl)
  have k_Routine := He.mkr_ok (c.fact 52 (f := .mkr "Routine") rfl)
  have ex_0 := c.is 1 (b := He.tupB K "PLAIN_TESTS_statements" [.str "mark", .str "f", .str "x", .str "y", .str "root", .str "ends", .str "next", .str "p", .str "here", .str "true"]) rfl
  have ex_1 := c.is 2 (b := He.tupB K "ANSWERS" [.str "yes", .str "no", .str "node", .str "p"]) rfl
  have ex_2 := c.is 3 (b := letB K (He.ga K "LET_IN")) rfl
  have ex_3 := c.is 4 (b := rokB K (He.ga K "Routine")) rfl
  have ex_4 := c.is 5 (b := hasB K (He.ga K "Routine") "__eq__") rfl
  have sys : ∃ o, K.lookup sysModules = some o := Option.isSome_iff_exists.mp (c.is 0 rfl)
  have hP : ∀ H, SqT K H (He.ga K "PLAIN_TESTS_statements") (plain10.map V.str) := fun H => He.tupB_ok ex_0 H
  have hA : ∀ H, SqT K H (He.ga K "ANSWERS") (ans4.map V.str) := fun H => He.tupB_ok ex_1 H
  have LI : LetIn K w (He.ga K "LET_IN") := letIn_ok ex_2 (by
    have e := congrArg Prod.snd c.t
    have e2 : [He.dicW K (He.ga K "LET_IN")] = [some (He.keysIn w.params letK)] := e
    injection e2)
  have RK : RoK K (He.ga K "Routine") := rokB_ok ex_3 c_Routine n_Routine_down n_Routine_turn n_Routine_up
  have ME : Has K (He.ga K "Routine") "__eq__" (He.ma K (He.ga K "Routine") "__eq__") := hasB_ok ex_4
  obtain ⟨tMS, gMS⟩ := i_MOST_STATEMENTS
  obtain ⟨tMT, gMT⟩ := i_MOST_TESTS
  have GL := ok_isL (P := P) (w := w) (base := base) v_is_list_F f_isinstance f_tuple f_list
  have GC := ok_isC (P := P) (w := w) (base := base) v_is_count_F f_isinstance f_bool f_int
  have GT := ok_tst v_is_test_F f_len g_PLAIN_TESTS_statements hP v_is_list_g v_is_list_F.kp GL v_is_list_b v_is_count_g v_is_count_F.kp GC v_is_count_b v_is_test_g v_is_test_b 7
  have GW := ok_wl (P := P) (base := base) v_is_word_let_F f_isinstance f_str g_LET_IN LI
  have GS := ok_set (P := P) (w := w) (base := base) v_is_set_F f_len f_isinstance f_bool
  have GR := ok_ret (P := P) (w := w) (base := base) v_is_return_F f_len g_ANSWERS hA
  have GIf := ok_if v_is_if_F f_len gMT v_is_list_g v_is_list_F.kp GL v_is_list_b v_is_test_g v_is_test_F.kp GT v_is_test_b
  have GSt := ok_st v_is_statement_F f_len v_is_list_g v_is_list_F.kp GL v_is_list_b v_is_word_let_g v_is_word_let_F.kp GW v_is_word_let_b v_is_set_g v_is_set_F.kp GS v_is_set_b v_is_return_g v_is_return_F.kp GR v_is_return_b v_is_if_g v_is_if_F.kp GIf v_is_if_b
  have GNu := ok_num v_number_of_statements_F x_BadStatement_X f_list v_is_list_g v_is_list_F.kp GL v_is_list_b v_is_statement_g v_is_statement_F.kp GSt v_is_statement_b
  have GCb := ok_cb v_check_blocks_F x_TooMany_X f_sum gMS v_number_of_statements_g v_number_of_statements_F.kp GNu v_number_of_statements_b
  have GFz := ok_fz v_frozen_F f_tuple v_is_list_g v_is_list_F.kp GL v_is_list_b v_frozen_g v_frozen_b 20
  have GIn := ok_initRo m_Routine_init_F c_Routine n_Routine_down n_Routine_turn n_Routine_up v_check_blocks_g v_check_blocks_F.kp GCb v_check_blocks_b v_frozen_g v_frozen_F.kp GFz v_frozen_b
  have GEq := ok_eqRo (P := P) (w := w) (base := base) m_Routine_eq_F RK f_isinstance g_Routine
  have GNt := ok_nt (P := P) (w := w) (base := base) v_names_in_test_F v_names_in_test_g v_names_in_test_b 7
  have GNsb : ∀ n : Nat, FnOk P w K mg base CX0 (2 * n + 9) (He.ga K "names_in_statement") v_names_in_statement_d ["statement"] (spNs K n) ∧ FnOk P w K mg base CX0 (2 * n + 10) (He.ga K "names_in_block") v_names_in_block_d ["block"] (spNb K n) := by
    intro n
    induction n with
    | zero =>
      have g0 : FnOk P w K mg base CX0 (2 * 0 + 9) (He.ga K "names_in_statement") v_names_in_statement_d ["statement"] (spNs K 0) := ok_ns0 v_names_in_statement_F
      exact ⟨g0, ok_nb v_names_in_block_F v_names_in_statement_g v_names_in_statement_F.kp 0 g0 v_names_in_statement_b⟩
    | succ n ih =>
      have g1 := ok_ns v_names_in_statement_F f_len v_names_in_test_g v_names_in_test_F.kp GNt v_names_in_test_b v_names_in_block_g v_names_in_block_F.kp n ih.2 v_names_in_block_b
      exact ⟨g1, ok_nb v_names_in_block_F v_names_in_statement_g v_names_in_statement_F.kp (n + 1) g1 v_names_in_statement_b⟩
  have GRn := ok_rn m_Routine_names_F RK f_tuple f_sorted f_set v_names_in_block_g v_names_in_block_F.kp (GNsb 3).2 v_names_in_block_b
  have GPen := ok_pen (P := P) (w := w) (base := base) v_law_pen_F f_list
  have GD := ok_draw (P := P) (w := w) (base := base) v_law_draw_F f_int f_len f_abs
  have GPk := ok_pick v_law_pick_F f_len v_law_draw_g v_law_draw_F.kp GD v_law_draw_b
  have GLt := ok_lt v_law_test_F v_law_draw_g v_law_draw_F.kp GD v_law_draw_b v_law_pick_g v_law_pick_F.kp GPk v_law_pick_b v_law_test_g v_law_test_b 4
  have GSi := ok_si v_law_simple_F v_law_draw_g v_law_draw_F.kp GD v_law_draw_b v_law_pick_g v_law_pick_F.kp GPk v_law_pick_b
  have GLb := ok_lb v_law_block_F f_range f_tuple v_law_draw_g v_law_draw_F.kp GD v_law_draw_b v_law_test_g v_law_test_F.kp GLt v_law_test_b v_law_simple_g v_law_simple_F.kp GSi v_law_simple_b v_law_block_g v_law_block_b 3
  have GKn := ok_kn (mg := mg) (P := P) (w := w) (base := base) v_law_known_F
  have GSz := ok_sz (P := P) (w := w) (base := base) v_law_size_F f_len f_sum v_law_size_g v_law_size_b 3
  have GAl := ok_al (P := P) (w := w) (base := base) v_law_as_lists_F f_isinstance f_tuple v_law_as_lists_g v_law_as_lists_b 13
  have GNa := ok_na (P := P) (w := w) (base := base) v_law_named_F f_isinstance f_tuple f_len v_law_named_g v_law_named_b 13
  have GRo := ok_ro v_law_routine_F f_tuple f_sum f_len v_law_draw_g v_law_draw_F.kp GD v_law_draw_b v_law_pick_g v_law_pick_F.kp GPk v_law_pick_b v_law_known_g v_law_known_F.kp GKn v_law_known_b v_law_block_g v_law_block_F.kp GLb v_law_block_b v_law_size_g v_law_size_F.kp GSz v_law_size_b v_law_simple_g v_law_simple_F.kp GSi v_law_simple_b
  exact ⟨v_law_d, v_law_b, FnG.of (ok_law v_law_F RK f_range f_min f_len f_sorted f_set f_tuple g_Routine k_Routine GIn m_Routine_init_b ME GEq m_Routine_eq_b t_Routine_names GRn m_Routine_names_b v_law_pen_g v_law_pen_F.kp GPen v_law_pen_b v_law_draw_g v_law_draw_F.kp GD v_law_draw_b v_law_routine_g v_law_routine_F.kp GRo v_law_routine_b v_law_as_lists_g v_law_as_lists_F.kp GAl v_law_as_lists_b v_law_named_g v_law_named_F.kp GNa v_law_named_b)⟩
end
end SK
namespace SK
open PySem PySem.Spec PyProof.Rows L2 LamX NdefX
abbrev RR : PySem.W.OpenRow := PySem.W.OpenLaw.row PySem.Challenge.rw_lettertrees_k02_routines_read
def namesK : List Str := [("TreesError" : Str), ("TooMany" : Str), ("BadStatement" : Str), ("BadText" : Str), ("MOST_STATEMENTS" : Str), ("MOST_TESTS" : Str), ("PLAIN_TESTS_statements" : Str), ("ANSWERS" : Str), ("LET_IN" : Str), ("is_list" : Str), ("is_count" : Str), ("is_test" : Str), ("is_word_let" : Str), ("is_set" : Str), ("is_return" : Str), ("is_if" : Str), ("is_statement" : Str), ("number_of_statements" : Str), ("check_blocks" : Str), ("frozen" : Str), ("names_in_test" : Str), ("names_in_statement" : Str), ("names_in_block" : Str), ("LINES" : Str), ("PLAIN_TESTS_writing" : Str), ("BLANKS" : Str), ("line_of" : Str), ("plain_text" : Str), ("test_text" : Str), ("inner_text" : Str), ("if_lines" : Str), ("block_lines" : Str), ("routine_lines" : Str), ("BLOCKS" : Str), ("HEADS" : Str), ("last_outside" : Str), ("is_in_brackets" : Str), ("rough_test" : Str), ("rough_inner" : Str), ("read_test" : Str), ("test_of_line" : Str), ("Reader" : Str), ("first_unlike" : Str), ("read_blocks" : Str), ("Routine" : Str), ("_law_pen" : Str), ("_law_draw" : Str), ("_law_pick" : Str), ("_law_test" : Str), ("_law_simple" : Str), ("_law_block" : Str), ("_law_known" : Str), ("_law_routine" : Str), ("_law_size" : Str), ("_law_as_lists" : Str), ("_law_named" : Str)]
theorem runF (w : World) : HandSHeadRun.RunEq RR (PySem.W.view RR.prog [62]) hkK obK 9000 namesK (w.withFollow "special-get-raises" false) := by
  intro os
  kernel_rfl
theorem runT (w : World) : HandSHeadRun.RunEq RR (PySem.W.view RR.prog [62]) hkK obK 9000 namesK (w.withFollow "special-get-raises" true) := by
  intro os
  kernel_rfl
theorem runK (w : World) : HandSHeadRun.RunEq RR (PySem.W.view RR.prog [62]) hkK obK 9000 namesK w := PySem.W.byRow2 "special-get-raises" (P := fun w => HandSHeadRun.RunEq RR (PySem.W.view RR.prog [62]) hkK obK 9000 namesK w) runF runT w
end SK
open PySem PySem.W PySem.Calls PyProof.Rows
theorem PySem.Challenge.cw_lettertrees_k02_routines_read_holds : PySem.Challenge.rw_lettertrees_k02_routines_read.Holds := by
  w_on; o_law
  refine HandSHeadRun.head_any (r := SK.RR) (q := view SK.RR.prog [62]) (H := SK.hkK) (ob := SK.obK) (M := 9000) (loose := SK.namesK) (d := HandSHeadRun.topDef SK.RR.prog 62) (kwd := []) SK.obK_eq
    (by kernel_rfl) (fun s => by kernel_rfl) SK.runK (by kernel_rfl) (by kernel_rfl) (by kernel_rfl) (by rfl) (by first | assumption | decide +kernel) (by decide +kernel) ⟨rfl, rfl, rfl, rfl, rfl, by decide +kernel⟩ ?hw ?hc
  case hw => w_witness2
  case hc =>
    refine Att.attach_call (l := PySem.Challenge.rw_lettertrees_k02_routines_read) (n := 63) rfl (by kernel_rfl) fun w s₀ s₁ mg mb fa o pm cd doc a vs ns G Y ho hd hcd hmg hobj hints hlen hg => ?_
    obtain ⟨K, KX, c⟩ := Y
    have hl : mg ("law" : PySem.Str) = some (.ref (He.ga K "law")) := SK.SaysK.glo c KX G.T.g 25 rfl
    have hmg' : mg ("law" : PySem.Str) = some (.ref fa) := by
      have e : (HandSHeadRun.topDef SK.RR.prog 62).name = ("law" : PySem.Str) := by kernel_rfl
      rw [← e]
      exact hmg
    rw [hmg'] at hl
    have ef : fa = He.ga K "law" := Value.ref.inj (Option.some.inj hl)
    rw [ef]
    have mem : ∀ P ∈ (SK.tabsK K).map (·.2), ∃ p ∈ SK.tf02, (He.cT K p).2 = P := fun P hP => by
      obtain ⟨q, hq, rfl⟩ := List.mem_map.mp hP
      obtain ⟨p, hp, rfl⟩ := List.mem_map.mp hq
      exact ⟨p, hp, rfl⟩
    refine SK.run_lawG (ps := SK.tabsK K) (T := SK.TK K) (K := K) (mg := mg) (mb := mb) (fun base Kb hm TB => SK.law_all c Kb hm TB) ⟨rfl, by decide, by decide⟩ (fun H a ns h1 h2 h3 => ⟨a, ns, rfl, h1, h2, fun _ => rfl⟩) ?_ KX G.T.g G.T.b G.T.builtins G.T.nolimit hg (fun P hP => ?_) (fun P hP => ?_) (fun p hp => ?_) G.T.bmain hobj hints hlen
    · intro p hp
      simp only [SK.TK, List.mem_cons, List.mem_nil_iff, or_false] at hp
      skip
    · obtain ⟨p, hp, rfl⟩ := mem P hP
      exact c.empty p hp
    · obtain ⟨p, hp, rfl⟩ := mem P hP
      exact c.out p hp
    · obtain ⟨q, hq, rfl⟩ := List.mem_map.mp hp
      exact codeHd_of_K KX (c.hd q hq)
