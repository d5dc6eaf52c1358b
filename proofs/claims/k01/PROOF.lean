import PyProof.Rows.All
import Wide.All
import OpenK.AllK
import Wide.FinOn
import HandS.ForSpec
import HandS.ExcInit
import KE.KExcIs
import HandS.IsInst
import HandS.ExcValue
import HandS.Dict
import HandS.SortKw
import KE.SortKeyHeap
import KE.SortCalls
import HandS.Comp
import HandS.Iter
import HandS.Nested
import HandS.Walk
import HandS.DictComp
import KE.GoesMore
import KE.GoesEnum
import HandS.Text
import HandS.Style
import HandS.WordsDict
import PyProof.StrLaws
import HandS.Strs
import HandS.SetTxt0
import HandS.Steps
import HandS.Conv
import HandS.TryMany
import HandS.ExcField
import HandS.ExcIs
import PyProof.Rows.RegReprOcc
import HandS.Replace
import HandS.Deep
import PyProof.Rows.StrMul
import PyProof.Rows.StrJoinRep
import HandS.OwnEq
import HandS.Gcd
import HandS.Wide
import HandS.WideMore
import HandS.FStr
import HandS.Defaults
import PyProof.EqKinds
import PyProof.TwoTypes
import KE.KCallOwn
import PyProof.InstEq
import HandS.TryOnly
import HandS.More
import PyProof.Rows.TupMore
import PyProof.SliceList
import HandS.TupAny
import PyProof.AutoSeq1
import HandS.Exc
import HandS.Codes
import KE.GoesRaise
import KE.KAsSuite
import HandS.MapJoin
import KE.GoesZip
import PyProof.NeKinds
import HandS.TupMul
import HandS.EndTab
import KE.KStateDown
import Lean
import HandS.Head0
import HandS.Head1
import HandS.Head2
import HandS.HeadEnd
import HandS.HeadHook4
import PySem.Challenge.RW_lettertrees_k01_routines_refused
set_option Elab.async false
set_option linter.all false
set_option maxRecDepth 100000
set_option maxHeartbeats 0
/-! ### calls of an own exception class with keywords: the boot's __new__ takes any, the own __init__ gets them -/
namespace K0
open PySem PySem.W PySem.Calls PySem.HandSPX
section
variable {M : Model} {A : Around} {E : Value → Shared → Prop} {h : Heap} {g : Array GenState} {d : Drawn} {t : Nat} {os : OsState}
variable {nm q : Str} {C N : Addr} {bs bm bmB : List Value} {hdct : Bool} {sn : List Str} {sub : List Value} {ab : Bool} {col : Option Bool} {dd : Option Addr}
variable {k0 k1 k2 k3 k5 : Option Value} {B newId initId : String}

theorem kw_check_new (F : ExcBaseFacts B newId initId bmB) (hT : ∀ X : String, bm.contains (.type X) = bmB.contains (.type X)) {rest : List Value} {kw : List (Str × Value)} {Q : Unit → Shared → Prop}
    (hC : h.get? C = some (excClassObj nm q C N bs bm hdct sn sub ab col dd k0 k1 k2 k3 k5 newId)) (hq : Q () ⟨h, g, d, t, os⟩) :
    wpAny M A (checkBuiltinCall newId ⟨.ref C :: rest, kw⟩) Q E ⟨h, g, d, t, os⟩ := by
  have hB : (Value.ref C :: bm).contains (.type B) = true := by
    rw [List.contains_cons, hT, F.hasB, Bool.or_true]
  have hs := F.noStar
  simp only [checkBuiltinCall, F.newKind, F.newSplit, F.newRow]
  repeat
    first
    | refine wpAny_loadPart_at hC ?_
    | (refine wpAny_isSubtype_exc hC ?_
       rw [hB])
    | refine wpAny_staticBase_exc hC ?_
    | refine wpAny_madeBy_exc hC ?_
    | simp only [bne_self_eq_false, Bool.false_eq_true, if_false]
    | wp_step
  exact hq
end
section
variable {prog : Program} {w : World} {A : Around} {E : Value → Shared → Prop} {R : Result → Shared → Prop} {h : Heap} {g : Array GenState} {d : Drawn} {t : Nat} {os : OsState}
variable {nm q : Str} {C N : Addr} {bs bm bmB : List Value} {hdct : Bool} {sn : List Str} {sub : List Value} {ab : Bool} {col : Option Bool} {dd : Option Addr}
variable {k0 k1 k2 k3 k5 : Option Value} {B newId initId : String}

/-- the heap with a new exception of the class at C, its args behind it -/
abbrev twoMore (h : Heap) (C : Addr) (rest : List Value) : Heap := (h.push (W.kdv_tup rest)).push (excO C h.objs.size)

theorem kw_new (F : ExcBaseFacts B newId initId bmB) (hT : ∀ X : String, bm.contains (.type X) = bmB.contains (.type X)) {rest : List Value} {kw : List (Str × Value)}
    (hC : h.get? C = some (excClassObj nm q C N bs bm hdct sn sub ab col dd k0 k1 k2 k3 k5 newId))
    (hq : R (.ok (.ret (.ref (h.objs.size + 1)))) ⟨twoMore h C rest, g, d, t, os⟩) (hz : rest.length ≤ sizeLine) :
    codeAny (model prog w) A (.builtin newId ⟨.ref C :: rest, kw⟩) R ⟨h, g, d, t, os⟩ := by
  have e0 := F.ends
  have cB : (Value.ref C :: bm).contains (.type B) = true := by
    rw [List.contains_cons, hT, F.hasB, Bool.or_true]
  have cA : (Value.ref C :: bm).contains (.type "AttributeError") = false := by
    rw [List.contains_cons, hT, F.noAttr] <;> rfl
  have cN : (Value.ref C :: bm).contains (.type "NameError") = false := by
    rw [List.contains_cons, hT, F.noName] <;> rfl
  refine codeAny_builtinAt F.entry ?_
  unfold Builtin.«BaseException.__new__»
  refine wpAt_bind ?_
  show wpAt _ _ _ (stack >>= _) _ _ _
  refine wpAt_bind (wpAt_stack fun p below => wpAt_of_wpAny ?_)
  wp_walk
  refine wpAt_of_wpAny ?_
  rw [F.owner]
  repeat
    first
    | with_reducible refine wpAny_madeHere_exc F.canon hC ?_
    | with_reducible refine wpAny_loadPart_at hC ?_
    | (with_reducible refine wpAny_isSubtype_exc hC ?_
       first | rw [cB] | rw [cA] | rw [cN])
    | wp_step
  show R _ _
  rw [Heap.size_push]
  exact hq

theorem kw_typeCall (F : ExcBaseFacts B newId initId bmB) (hT : ∀ X : String, bm.contains (.type X) = bmB.contains (.type X)) {rest : List Value} {kw : List (Str × Value)} {fI : Addr} {Q : Fin → Shared → Prop}
    (hC : h.get? C = some (excClassObj nm q C N bs bm hdct sn sub ab col dd k0 k1 k2 k3 k5 newId))
    (hi : W.Looks (model prog w) h (typeLookup (.ref C) "__init__") (some (.ref fI))) (hb : ∀ self, W.Looks (model prog w) h (bindSpecial (.ref fI) self) (.ref fI, [self])) (hz : rest.length ≤ sizeLine)
    (hq : codeAny (model prog w) A (.call (.ref fI) ⟨.ref (h.objs.size + 1) :: rest, kw⟩)
      (fun r s' => match r with | .ok (.ret v) => v = .none ∧ Q (.done (.ret (.ref (h.objs.size + 1)))) s' | .ok _ => False | .error e => E e s') ⟨twoMore h C rest, g, d, t, os⟩) :
    wpAny (model prog w) A (Builtin.«type.__call__» ⟨.ref C :: rest, kw⟩) Q E ⟨h, g, d, t, os⟩ := by
  repeat
    first
    | with_reducible refine wpAny_loadPart_at hC ?_
    | with_reducible refine wpAny_madeBy_exc hC ?_
    | wp_step
  refine codeAny_call_builtin_code (Code.quiet_builtin _ F.quiet) (kw_check_new F hT hC ?_)
  refine kw_new F hT hC ?_ hz
  show wpAny _ _ _ _ _ _
  have k : ∀ b o, h.get? b = some o → (twoMore h C rest).get? b = some o := fun b o e => Heap.get?_push_of_some _ (Heap.get?_push_of_some _ e)
  have hC1 := k _ _ hC
  have hx : (twoMore h C rest).get? (h.objs.size + 1) = some (excO C h.objs.size) := by heap_get
  have cC : (Value.ref C :: bm).contains (.ref C) = true := by simp
  have i1 := hi.keeps k
  have b1 := (hb (.ref (h.objs.size + 1))).keeps k
  unfold isInstance
  repeat
    first
    | with_reducible refine wpAny_loadPart_at hx ?_
    | (with_reducible refine wpAny_isSubtype_exc hC1 ?_
       rw [cC])
    | wp_step
  show wpAny _ _ (typeLookup (.ref C) _) _ _ _
  refine i1.at ?_
  refine wpAny_holding (wpAny_bind (b1.at ?_))
  refine wpAny_bind (wpAny_call (codeAny_mono hq fun r s' z => ?_))
  cases r with
  | error e => exact z
  | ok f =>
    cases f with
    | ret v =>
      obtain ⟨rfl, z⟩ := z
      first
      | exact wpAny_pure (wpAny_pure z)
      | (wp_walk
         exact z)
    | next => exact z.elim
    | brk => exact z.elim
    | cont => exact z.elim

theorem kw_checkCall {M : Model} {rest : List Value} {kw : List (Str × Value)} {Q : Unit → Shared → Prop} (hC : h.get? C = some (excClassObj nm q C N bs bm hdct sn sub ab col dd k0 k1 k2 k3 k5 newId))
    (hq : Q () ⟨h, g, d, t, os⟩) : wpAny M A (checkBuiltinCall "type.__call__" ⟨.ref C :: rest, kw⟩) Q E ⟨h, g, d, t, os⟩ := by
  have e3 := tc_sub
  have ty : (⟨h, g, d, t, os⟩ : Shared).TypeIs (.ref C) "type" := ⟨_, hC, rfl⟩
  simp only [checkBuiltinCall, tc_kind, tc_split]
  repeat (any_goals (first
    | assumption
    | with_reducible refine wpAny_loadPart_at hC ?_
    | with_reducible refine wpAny_onRaise ?_
    | with_reducible refine wpAny_map ?_
    | wp_step))

theorem kw_call (F : ExcBaseFacts B newId initId bmB) (hT : ∀ X : String, bm.contains (.type X) = bmB.contains (.type X)) {rest : List Value} {kw : List (Str × Value)} {fI : Addr}
    (hC : h.get? C = some (excClassObj nm q C N bs bm hdct sn sub ab col dd k0 k1 k2 k3 k5 newId))
    (hi : W.Looks (model prog w) h (typeLookup (.ref C) "__init__") (some (.ref fI))) (hb : ∀ self, W.Looks (model prog w) h (bindSpecial (.ref fI) self) (.ref fI, [self])) (hz : rest.length ≤ sizeLine)
    (hq : codeAny (model prog w) (A.under (.builtin "type.__call__" ⟨.ref C :: rest, kw⟩)) (.call (.ref fI) ⟨.ref (h.objs.size + 1) :: rest, kw⟩) (W.InitBack (h.objs.size + 1) R) ⟨twoMore h C rest, g, d, t, os⟩) :
    codeAny (model prog w) A (.call (.ref C) ⟨rest, kw⟩) R ⟨h, g, d, t, os⟩ := by
  have f1 := tc_lookup
  have f2 := tc_bind (.ref C)
  have ty : (⟨h, g, d, t, os⟩ : Shared).TypeIs (.ref C) "type" := ⟨_, hC, rfl⟩
  refine codeAny_of_tree ?_
  show wpAny _ _ (callAny (.ref C) _) _ _ _
  repeat (any_goals (first
    | assumption
    | with_reducible refine wpAny_loadPart_at hC ?_
    | wp_step))
  refine ⟨rfl, ?_⟩
  refine codeAny_call_builtin_at (Code.quiet_builtin _ (by decide +kernel)) entry_typeCall (kw_checkCall hC (kw_typeCall F hT hC hi hb hz ?_))
  refine codeAny_mono hq fun r s' z => ?_
  cases r with
  | error e => exact z
  | ok f => cases f <;> exact z
end
end K0
namespace K0
open PySem PySem.Spec PyProof.Rows L2
abbrev St := L2.St
section
variable {X : Cx} {pins : List (Addr × Obj)} {σ : St} {H H' : Hp} {s : Shared}
/-- things told by what is true of their one object may be forgotten -/
theorem forget (I : Inv X pins σ H' s) (sub : ∀ b o, H b = some o → H' b = some o) (ext : ∀ b o, H' b = some o → H b = some o ∨ ∃ φ, o = HO.ext φ) : Inv X pins σ H s := by
  have fr : ∀ b, H' b = none → H b = none := fun b n => by
    cases q : H b with
    | none => rfl
    | some o =>
      rw [sub b o q] at n
      cases n
  have back : ∀ b o, H' b = some o → (∀ φ, o ≠ HO.ext φ) → H b = some o := fun b o q n => by
    rcases ext b o q with z | ⟨φ, z⟩
    · exact z
    · exact absurd z (n φ)
  refine ⟨I.ok, I.os, I.bare, ⟨I.base.keep, I.base.slot, fun b o e n hx => fr b (I.base.free b o e n hx), I.base.there, fun b xs q => ?_, fun b o u q => ?_, fun b ps q => ?_⟩, I.loc, I.cell, fr _ I.free, fun x c e => fr c (I.freeC x c e), fun p hp => ?_, fun b o q => ?_, I.len⟩
  · exact back b _ (I.base.tups b xs q) (fun φ z => nomatch z)
  · exact back b _ (I.base.frzs b o u q) (fun φ z => nomatch z)
  · obtain ⟨m, z⟩ := I.base.tbls b ps q
    exact ⟨m, back b _ z (fun φ z => nomatch z)⟩
  · obtain ⟨h1, h2, h3, h4, h5⟩ := I.pin p hp
    exact ⟨h1, fr _ h2, h3, h4, h5⟩
  · exact (I.hok b o (sub b o q)).stay (fun c v _ z => z) (fun c z => back c _ z (fun φ z => nomatch z)) fun c xs z => back c _ z (fun φ z => nomatch z)
end

/-! ### an exception of an own class with its own __init__ -/
structure XCl (K : PySem.W.Frag) (C : Addr) : Prop where
  T : OexC K C
  ga : PySem.W.findIn K (.ref C) "__getattribute__" = some (some (.builtin "BaseException.__getattribute__"))
  gg : PySem.W.findIn K (.ref C) "__getattr__" = some none
  hd : PySem.W.hasDictIn K C = true
  ha : PySem.W.findIn K (.ref C) "__class__" = some (some (.builtin "object.__class__"))
  hn : PySem.W.specialIn K (.builtin "object.__class__") "__get__" = some (some (.builtin "getset_descriptor.__get__"))
  ht : PySem.W.takesIn K (.builtin "object.__class__") = some true
  hm : PySem.W.mroIn K C (.type "object") = some true
/-- the heap with an exception of C at a, its dict of the fields fs at dx -/
abbrev withX (H : Hp) (C a dx : Addr) (fs : List (Str × V)) : Hp := upd (upd H dx (exd dx fs)) a (exo a C (some dx))
/-- what such an __init__ does: the fields fs get the arguments -/
def spX (C : Addr) (fs : List Str) : Sp := fun vs H Q _ => ∃ (a : Addr) (ys : List V), vs = .ref a :: ys ∧ ys.length = fs.length ∧ H a = some (exo a C none) ∧
  ∀ dx, H dx = none → dx ≠ a → Q .non (withX H C a dx (fs.zip ys).reverse)
theorem withX_sub {H : Hp} {C a dx : Addr} {fs : List (Str × V)} (ha : H a = none) (hd : H dx = none) : ∀ b o, H b = some o → withX H C a dx fs b = some o := fun b o e => by
  show upd (upd H dx _) a _ b = some o
  rw [upd_ne (ne_of_none e ha), upd_ne (ne_of_none e hd)]
  exact e
theorem withX_ext {H : Hp} {C a dx : Addr} {fs : List (Str × V)} : ∀ b o, withX H C a dx fs b = some o → H b = some o ∨ ∃ φ, o = HO.ext φ := fun b o e => by
  have e' : upd (upd H dx (exd dx fs)) a (exo a C (some dx)) b = some o := e
  by_cases hb : b = a
  · subst hb
    rw [upd_same] at e'
    exact .inr ⟨_, (Option.some.inj e').symm⟩
  · rw [upd_ne hb] at e'
    by_cases hd : b = dx
    · subst hd
      rw [upd_same] at e'
      exact .inr ⟨_, (Option.some.inj e').symm⟩
    · rw [upd_ne hd] at e'
      exact .inl e'
section
variable {X : Cx} {k : Nat} {f C : Addr} {fd : FuncData} {ps : List Str} {sp : Sp}
theorem run_mx {pins : List (Addr × Obj)} {σ : St} {H : Hp} {s : Shared} {Q : VK} {us args : List Value} {kw : List (Str × Value)} {vs : List V} (T : OexC X.K C) (iC : PySem.W.findIn X.K (.ref C) "__init__" = some (some (.ref f)))
    (tI : PySem.W.typeIn X.K (.ref f) = some (.type "function")) (F : FnOk X.prog X.w X.K X.mg X.base CX0 k f fd ps sp) (hr : Room (k + 1) X.A)
    (hb : ∀ (s : Shared) (self : Value), X.K.In s.heap → BindsTo s fd ⟨self :: us, kw⟩ (ps.zip (self :: args))) (I : Inv X pins σ H s) (hz : us.length ≤ sizeLine) (r : Vals vs args)
    (h : ∀ a, H a = none → sp (.ref a :: vs) (upd H a (exo a C none)) (fun v H2 => v = .non ∧ Q (.ref a) H2) E0) :
    wpAny (model X.prog X.w) X.A (call (.ref C) us kw) (EP X pins σ Q) X.xe s := by
  obtain ⟨nm, q, N, bs, bm, sn, sub, ab, col, dd, k0, k1, k2, k3, k5, hC, hbm⟩ := T.cls
  obtain ⟨hp, g, dr, tk, os⟩ := s
  have up : hp.objs.size ≤ hp.objs.size + 1 := Nat.le_succ _
  have hq := h (hp.objs.size + 1) (I.hok.fresh up)
  have keep : ∀ b o, hp.get? b = some o → (twoMore hp C us).get? b = some o := fun b o e => Heap.get?_push_of_some _ (Heap.get?_push_of_some _ e)
  have there : (twoMore hp C us).get? (hp.objs.size + 1) = some (PySem.HandSPX.excO C hp.objs.size) := by heap_get
  have I2 : Inv X pins σ (upd H (hp.objs.size + 1) (exo (hp.objs.size + 1) C none)) ⟨twoMore hp C us, g, dr, tk, os⟩ := I.laid (t' := tk) keep up (exo_ok there)
  have r2 : Vals (V.ref (hp.objs.size + 1) :: vs) (Value.ref (hp.objs.size + 1) :: args) := .cons rfl r
  refine wpAny_call (kw_call PySem.F.excBase_ValueError (fun Y => PySem.HandSPX.refsVE_contains Y bm hbm) (I.kIn _ _ hC) (PySem.W.looks_findIn I.kIn iC) (fun self => PySem.W.bind_fn I.kIn self tI) hz
    (codeAny_mono (F.run _ X.stack _ _ ⟨Value.ref (hp.objs.size + 1) :: us, kw⟩ _ _ _ E0 (hr.make C us kw) (I2.env0.make C us kw) (hb _ _ I2.kIn) r2 hq) fun r s' hq' => ?_))
  cases r with
  | error er => exact hq'.elim
  | ok fl =>
    cases fl with
    | ret u =>
      obtain ⟨v, H3, I3, rv, ev, q3⟩ := I2.after hq'
      subst ev
      exact ⟨rv, ⟨V.ref (hp.objs.size + 1), H3, I3, rfl, q3⟩⟩
    | next => exact False.elim hq'
    | brk => exact False.elim hq'
    | cont => exact False.elim hq'
/-- the class made, its fields kept: as a value -/
theorem run_mv {fs : List Str} {pins : List (Addr × Obj)} {σ : St} {H : Hp} {s : Shared} {Q : VK} {us args : List Value} {kw : List (Str × Value)} {vs : List V} (T : OexC X.K C) (iC : PySem.W.findIn X.K (.ref C) "__init__" = some (some (.ref f)))
    (tI : PySem.W.typeIn X.K (.ref f) = some (.type "function")) (F : FnOk X.prog X.w X.K X.mg X.base CX0 k f fd ps (spX C fs)) (hr : Room (k + 1) X.A)
    (hb : ∀ (s : Shared) (self : Value), X.K.In s.heap → BindsTo s fd ⟨self :: us, kw⟩ (ps.zip (self :: args))) (I : Inv X pins σ H s) (hz : us.length ≤ sizeLine) (r : Vals vs args) (hl : vs.length = fs.length)
    (h : ∀ a dx, H a = none → H dx = none → dx ≠ a → Q (.ref a) (withX H C a dx (fs.zip vs).reverse)) :
    wpAny (model X.prog X.w) X.A (call (.ref C) us kw) (EP X pins σ Q) X.xe s := by
  refine run_mx T iC tI F hr hb I hz r fun a na => ⟨a, vs, rfl, hl, upd_same, fun dx nd ne => ⟨rfl, ?_⟩⟩
  have nd' : H dx = none := by
    rw [upd_ne ne] at nd
    exact nd
  have e : withX (upd H a (exo a C none)) C a dx (fs.zip vs).reverse = withX H C a dx (fs.zip vs).reverse := by
    funext b
    show upd (upd (upd H a _) dx _) a _ b = upd (upd H dx _) a _ b
    by_cases hb : b = a
    · rw [hb, upd_same, upd_same]
    · rw [upd_ne hb, upd_ne hb]
      by_cases hd : b = dx
      · rw [hd, upd_same, upd_same]
      · rw [upd_ne hd, upd_ne hd, upd_ne hb]
  rw [e]
  exact h a dx na nd' ne
end
end K0
namespace K0
open PySem PySem.Spec PyProof.Rows L2
section
variable {X : Cx} {k : Nat} {f C : Addr} {fd : FuncData} {ps : List Str} {fs : List Str} {x n : Str} {e : Expr} {es : List Expr} {ta : TA} {te : TE} {p pos pos' : Pos} {kws : List Keyword}
/-- what the top says of such a class and its __init__ -/
structure XMk (X : Cx) (x : Str) (C : Addr) (fs : List Str) : Prop where
  cl : XCl X.K C
  gC : X.mg x = some (.ref C)
  ini : ∃ f fd k, PySem.W.findIn X.K (.ref C) "__init__" = some (some (.ref f)) ∧ PySem.W.typeIn X.K (.ref f) = some (.type "function") ∧ FnOk X.prog X.w X.K X.mg X.base CX0 k f fd (("self" : Str) :: fs) (spX C fs) ∧ Room (k + 1) X.A ∧
    (∀ (s : Shared) (self : Value) (us : List Value), us.length = fs.length → BindsTo s fd ⟨self :: us, []⟩ ((("self" : Str) :: fs).zip (self :: us))) ∧
    (∀ (s : Shared) (self : Value) (us : List Value), us.length = fs.length → BindsTo s fd ⟨[self], fs.zip us⟩ ((("self" : Str) :: fs).zip (self :: us)))
/-- C(e, ..) : whatever is asked of the arguments and the heap there, the new exception stands behind it -/
structure PX (X : Cx) (e : Expr) (C : Addr) (fs : List Str) (ta : TA) : Prop where
  run : ∀ (pins : List (Addr × Obj)) (s : Shared) (σ : St) (H : Hp) (P : List V → Hp → Prop), Inv X pins σ H s → (ta σ H fun vs H1 => vs.length = fs.length ∧ vs.length ≤ 1000 ∧ P vs H1) →
    wpAny (model X.prog X.w) X.A (eval e X.env) (fun u s1 => ∃ (vs : List V) (H1 : Hp) (a dx : Addr), u = .ref a ∧ H1 a = none ∧ H1 dx = none ∧ dx ≠ a ∧ Inv X pins σ (withX H1 C a dx (fs.zip vs).reverse) s1 ∧ P vs H1) X.xe s
theorem us_small {vs : List V} {us : List Value} (r : Vals vs us) (h : vs.length ≤ 1000) : us.length ≤ sizeLine := by
  rw [← Paired.length r, sizeLine_eq]
  omega
theorem px_pos (M : XMk X x C fs) (hg : Gl X x) (ha : PA X (e :: es) ta) (hdb : (x == ("__debug__" : Str)) = false := by decide)
    (he : starEach (e :: es) X.env = (false, eval e X.env) :: starEach es X.env := by rfl) (hpl : (backTo pos (starEach es X.env)).any (·.1) = false := by rfl) :
    PX X (.Call (.Name x p) (e :: es) [] pos) C fs ta := by
  refine ⟨fun pins s σ H P I h => ?_⟩
  obtain ⟨f, fd, k, iC, tI, F, hr, b1, _⟩ := M.ini
  refine wpAny_Call_Name_kw (ld_glob I hg M.gC ?_ hdb)
  refine PySem.W.callWith_K (h₀ := X.base) I.ok.mod.kin M.cl.T.kC (thn (ha.run pos pins s σ H _ I h) fun us s1 ⟨vs, H1, I1, r, hl, hz, q⟩ => ⟨I1.kIn, ?_⟩) he hpl
  refine thn (run_mv (fs := fs) (Q := fun v H2 => ∃ a dx, v = .ref a ∧ H1 a = none ∧ H1 dx = none ∧ dx ≠ a ∧ H2 = withX H1 C a dx (fs.zip vs).reverse) M.cl.T iC tI F hr (fun s self _ => b1 s self us (r.length.symm.trans hl)) I1 (us_small r hz) r hl
    fun a dx na nd ne => ⟨a, dx, rfl, na, nd, ne, rfl⟩) fun u s2 ⟨v, H2, I2, rv, a, dx, ev, na, nd, ne, eH⟩ => ?_
  subst ev eH
  exact ⟨vs, H1, a, dx, rv, na, nd, ne, I2, q⟩
theorem px_kw (M : XMk X x C fs) (hg : Gl X x) (hkw : PK X kws ta) (hall : (backToKw pos (keywordEach kws X.env)).all (·.1.isSome) = true := by rfl) (hks : (backToKw pos (keywordEach kws X.env)).filterMap (·.1) = fs := by rfl)
    (hdb : (x == ("__debug__" : Str)) = false := by decide) (hpl : ((backTo pos (starEach [] X.env)).any (·.1) || (backToKw pos (keywordEach kws X.env)).any (·.1.isNone)) = false := by rfl) :
    PX X (.Call (.Name x p) [] kws pos) C fs ta := by
  refine ⟨fun pins s σ H P I h => ?_⟩
  obtain ⟨f, fd, k, iC, tI, F, hr, _, b2⟩ := M.ini
  refine wpAny_Call_Name_kw (ld_glob I hg M.gC ?_ hdb)
  refine PySem.W.callWith_KW0 (h₀ := X.base) I.ok.mod.kin M.cl.T.kC hall (thn (hkw.run pos pins s σ H _ I h) fun us s1 ⟨vs, H1, I1, r, hl, hz, q⟩ => ⟨I1.kIn, ?_⟩) hpl
  rw [hks]
  refine thn (run_mv (fs := fs) (us := []) (Q := fun v H2 => ∃ a dx, v = .ref a ∧ H1 a = none ∧ H1 dx = none ∧ dx ≠ a ∧ H2 = withX H1 C a dx (fs.zip vs).reverse) M.cl.T iC tI F hr (fun s self _ => b2 s self us (r.length.symm.trans hl)) I1 (Nat.zero_le _) r hl
    fun a dx na nd ne => ⟨a, dx, rfl, na, nd, ne, rfl⟩) fun u s2 ⟨v, H2, I2, rv, a, dx, ev, na, nd, ne, eH⟩ => ?_
  subst ev eH
  exact ⟨vs, H1, a, dx, rv, na, nd, ne, I2, q⟩
/-- C(e, ..) as a value -/
def tMx (C : Addr) (fs : List Str) (ta : TA) : TE := fun σ H Q => ta σ H fun vs H1 => vs.length = fs.length ∧ vs.length ≤ 1000 ∧ ∀ a dx, H1 a = none → H1 dx = none → dx ≠ a → Q (.ref a) (withX H1 C a dx (fs.zip vs).reverse)
theorem pe_mx (h : PX X e C fs ta) : PE X e (tMx C fs ta) := by
  refine ⟨fun pins s σ H Q I h0 => thn (h.run pins s σ H _ I h0) fun u s1 hh => ?_⟩
  obtain ⟨vs, H1, a, dx, rfl, na, nd, ne, I1, q⟩ := hh
  exact ⟨.ref a, _, I1, rfl, q a dx na nd ne⟩
/-- C(e, ..).n: the exception itself is let go -/
def tFx (fs : List Str) (n : Str) (ta : TA) : TE := fun σ H Q => ta σ H fun vs H1 => vs.length = fs.length ∧ vs.length ≤ 1000 ∧ ∃ v, (fs.zip vs).reverse.lookup n = some v ∧ Q v H1
theorem pe_fx (cl : XCl X.K C) (hno : PySem.W.findIn X.K (.ref C) n = some none) (h : PX X e C fs ta) (hb : attributeBase e n X.env (eval e X.env) = eval e X.env := by rfl) : PE X (.Attribute e n pos) (tFx fs n ta) := by
  refine ⟨fun pins s σ H Q I h0 => attr_of hb (thn (h.run pins s σ H _ I h0) fun u s1 hh => ?_)⟩
  obtain ⟨vs, H1, a, dx, rfl, na, nd, ne, I1, v, l, q⟩ := hh
  have ea : withX H1 C a dx (fs.zip vs).reverse a = some (exo a C (some dx)) := upd_same
  have ed : withX H1 C a dx (fs.zip vs).reverse dx = some (exd dx (fs.zip vs).reverse) := (upd_ne ne).trans upd_same
  obtain ⟨t1, ho⟩ := exo_at I1.hok ea
  obtain ⟨mA, hns, rel⟩ := exd_at I1.hok ed
  obtain ⟨od, hd, hl⟩ := lookIn_ns hns
  obtain ⟨u, hu, ru⟩ := RelO.some_of (v := v) (o := mA n) (by rw [← l]; exact rel n)
  have J : PySem.W.InstAt s1.heap a _ C (some od) := ⟨ho, rfl, rfl, hd⟩
  exact PySem.HandSPX.exc_get I1.kIn J cl.ga cl.gg cl.T.exC (PySem.W.findObj_own cl.hd hno rfl (by rw [hl, hu])) (handed_of ru) ⟨v, H1, (forget I1 (withX_sub na nd) withX_ext).tok _, ru, q⟩
/-! ### C(), a class without an own __init__ -/
theorem pe_m0 {newId initId B : String} {bmB : List Value} (F : ExcBaseFacts B newId initId bmB) (q : PySem.W.excIn X.K C bmB newId = true) (gC : X.mg x = some (.ref C)) (kC : PySem.W.keepIn X.K (.ref C) = true) (hg : Gl X x) (hdb : (x == ("__debug__" : Str)) = false := by decide) :
    PE X (.Call (.Name x p) [] [] pos) (fun _ H Q => ∀ a, H a = none → Q (.ref a) (upd H a (exo a C none))) := by
  refine ⟨fun pins s σ H Q I h => ?_⟩
  refine wpAny_Call_Name_kw (ld_glob I hg gC ?_ hdb)
  refine PySem.W.callWith_K0 I.kIn kC ?_
  show wpAny _ _ (call (.ref C) []) _ _ _
  obtain ⟨bm, N, nm, qn, bs, hdct, sn, sub, ab, col, dd, k0, k1, k2, k3, k5, mN, hC, hN, hni, T⟩ := exc_obj I.kIn q
  refine wpAny_call_exc_subT F T hC hN hni (fun h' a hm => ?_) (Nat.zero_le _)
  have hn : H a = none := I.hok.gone hm.new
  obtain ⟨t, ht, _, _⟩ := hm.there
  exact ⟨.ref a, upd H a (exo a C none), I.laidN hm.keeps hm.new hn (exo_ok ht), rfl, h a hn⟩
/-! ### isinstance(e, c), e such an exception -/
def rIsx (K : PySem.W.Frag) : List V → Hp → VK → Prop := fun xs H Q => ∃ (a D : Addr) (c : V) (u : Value) (b : Bool), xs = [.ref a, c] ∧ ClsV c u ∧ XCl K D ∧ (H a = some (exo a D none) ∨ ∃ dx gs, H a = some (exo a D (some dx)) ∧ H dx = some (exd dx gs)) ∧
  PySem.W.kitOne K (.ref D) u = some b ∧ Q (.bl b) H
theorem call_isx : CallR X (.builtin "isinstance") (rIsx X.K) := by
  intro pins s σ H xs us Q I r h
  obtain ⟨a, D, c, u, b, rfl, k, cl, ha, e, q⟩ := h
  obtain ⟨u1, u2, rfl, r1, r2⟩ := vals2 r
  obtain rfl : u1 = Value.ref a := r1
  have e2 := k.eq r2
  subst e2
  have hc : (PySem.W.clsIn X.K D).isSome = true := by
    obtain ⟨cd, hcd, _⟩ := PySem.W.any_some cl.hd
    rw [hcd]
    rfl
  have J : ∃ ox od, PySem.W.InstAt s.heap a ox D od := by
    rcases ha with ha | ⟨dx, gs, ha, hd⟩
    · obtain ⟨t1, ho⟩ := exo_at I.hok ha
      exact ⟨_, none, ho, rfl, rfl, trivial⟩
    · obtain ⟨t1, ho⟩ := exo_at I.hok ha
      obtain ⟨mA, hns, rel⟩ := exd_at I.hok hd
      obtain ⟨od, hd, hl⟩ := lookIn_ns hns
      exact ⟨_, some od, ho, rfl, rfl, hd⟩
  obtain ⟨ox, od, J⟩ := J
  exact PySem.W.kia_one (PySem.W.kitx_exc (ox := ox) (od := od) hc cl.ga cl.gg cl.T.exC cl.ha cl.hn cl.ht cl.hm) I.kIn J e (fun z => nomatch z) fun tk => ⟨.bl b, H, I.tok tk, rfl, q⟩
end
/-! ### repr of data with empty dicts -/
mutual
inductive De (K : PySem.W.Frag) (H : Hp) : V → PyData → Prop
  | non : De K H .non .none
  | bl (b : Bool) : De K H (.bl b) (.bool b)
  | int (i : Int) : De K H (.int i) (.int i)
  | str (x : Str) : De K H (.str x) (.str x)
  | lst {a : Addr} {xs : List V} {ds : List PyData} : H a = some (.lst xs) → DeAll K H xs ds → De K H (.ref a) (.list ds)
  | tup {a : Addr} {xs : List V} {ds : List PyData} : H a = some (.tup xs) → DeAll K H xs ds → De K H (.ref a) (.tuple ds)
  | dic {a : Addr} {kv : List (Key × V)} : H a = some (.dK kv) → kv.length ≤ 1 → De K H (.ref a) (.dict [])
inductive DeAll (K : PySem.W.Frag) (H : Hp) : List V → List PyData → Prop
  | nil : DeAll K H [] []
  | cons {v : V} {vs : List V} {d : PyData} {ds : List PyData} : De K H v d → DeAll K H vs ds → DeAll K H (v :: vs) (d :: ds)
end
section
variable {X : Cx} {pins : List (Addr × Obj)} {σ : St} {H : Hp} {s : Shared}
theorem off {a : Addr} {o : HO} (hs : H sysModules = none) (h : H a = some o) : sysModules ≠ a := fun e => by
  rw [← e, hs] at h
  cases h
mutual
theorem de_reads (I : Inv X pins σ H s) (hs : H sysModules = none) : ∀ (d : PyData) (v : V) (u : Value), d.canLay0 = true → De X.K H v d → RelV v u → ∃ as, Reads s.heap u d as ∧ sysModules ∉ as
  | .none, _, _, hcl, h, r => by
    cases h
    obtain rfl : _ = Value.none := r
    exact ⟨_, Reads.none, by simp⟩
  | .bool b, _, _, hcl, h, r => by
    cases h
    obtain rfl : _ = Value.bool b := r
    exact ⟨_, Reads.bool b, by simp⟩
  | .int i, _, _, hcl, h, r => by
    cases h
    obtain ⟨t, rfl⟩ := r
    exact ⟨_, Reads.int i t, by simp⟩
  | .str x, _, _, hcl, h, r => by
    cases h
    obtain ⟨t, rfl⟩ := r
    exact ⟨_, Reads.str x t, by simp⟩
  | .list ds, _, _, hcl, h, r => by
    cases h with
    | @lst a xs _ ha hd =>
      obtain rfl : _ = Value.ref a := r
      obtain ⟨_, its, n, rv, ho⟩ := (show ObjOk X.prog X.w H s.heap a (.lst xs) from I.hok a _ ha)
      obtain ⟨as, hr, hn⟩ := de_all I hs ds xs its (by simpa only [PyData.canLay0] using hcl) hd rv
      refine ⟨_, Reads.list ho rfl rfl hr, fun z => ?_⟩
      rcases List.mem_cons.mp z with z | z
      · exact off hs ha z
      · exact hn z
  | .tuple ds, _, _, hcl, h, r => by
    cases h with
    | @tup a xs _ ha hd =>
      obtain rfl : _ = Value.ref a := r
      obtain ⟨_, its, rv, o, ho, hc, n, hd2⟩ := (show ObjOk X.prog X.w H s.heap a (.tup xs) from I.hok a _ ha)
      obtain ⟨as, hr, hn⟩ := de_all I hs ds xs its (by simpa only [PyData.canLay0] using hcl) hd rv
      exact ⟨_, Reads.tuple ho hc hd2 hr, hn⟩
  | .dict _, _, _, hcl, h, r => by
    simp only [PyData.canLay0] at hcl
    cases hcl
theorem de_all (I : Inv X pins σ H s) (hs : H sysModules = none) : ∀ (ds : List PyData) (vs : List V) (us : List Value), PyData.canLayAll0 ds = true → DeAll X.K H vs ds → Vals vs us → ∃ as, ReadsAll s.heap us ds as ∧ sysModules ∉ as
  | [], _, _, hcl, h, r => by
    cases h
    cases r
    exact ⟨_, ReadsAll.nil, by simp⟩
  | d :: ds, _, _, hcl, h, r => by
    simp only [PyData.canLayAll0, Bool.and_eq_true] at hcl
    cases h with
    | cons h1 h2 =>
      cases r with
      | cons r1 r2 =>
        obtain ⟨as, q1, n1⟩ := de_reads I hs d _ _ hcl.1 h1 r1
        obtain ⟨bs, q2, n2⟩ := de_all I hs ds _ _ hcl.2 h2 r2
        exact ⟨_, ReadsAll.cons q1 q2, fun z => (List.mem_append.mp z).elim n1 n2⟩
end
end
section
variable {X : Cx}
/-- repr(xs), xs a list of data -/
def rRep (K : PySem.W.Frag) : List V → Hp → VK → Prop := fun xs H Q => ∃ (a : Addr) (d : PyData), xs = [.ref a] ∧ De K H (.ref a) d ∧ d.canLay0 = true ∧ d.showable = true ∧ d.depth ≤ 8 ∧ d.shown.length ≤ sizeLine ∧ Q (.str d.shown) H
theorem call_rep (hg : X.A.guards = some []) (hu : X.A.units + 64 < cLine) (hsys : ∃ o, X.K.lookup sysModules = some o) : CallR X (.builtin "repr") (rRep X.K) := by
  intro pins s σ H xs us Q I r h
  obtain ⟨a, d, rfl, hd, hcl, hsh, hdp, hz, q⟩ := h
  obtain ⟨oS, hoS⟩ := hsys
  have hs : H sysModules = none := (I.bs _ _ (I.ok.mod.kin _ _ hoS)).2
  obtain ⟨u, rfl, ru⟩ := vals1 r
  obtain rfl : u = Value.ref a := ru
  obtain ⟨as, hr, hn⟩ := de_reads I hs d _ _ hcl hd rfl
  exact repr_of_reads' hr hsh (fun _ => hn) hg (by omega) (fun _ _ z => z) (fun h' t tk hk => ⟨.str d.shown, H, I.kept hk, ⟨t, rfl⟩, q⟩) hz
end
end K0
/-! ### sorted(xs, key=f), f's calls seen by an invariant of one's own; the keys are texts -/
namespace SK
open PySem PySem.W PySem.Calls PyProof.Rows
def IsText (v : Value) (k : Str) : Prop := ∃ t, v = .str k t
abbrev Texts (us : List Value) (ks : List Str) : Prop := EachIs IsText us ks
section
variable {prog : Program} {w : World} {A : Around} {E : Value → Shared → Prop} {s : Shared} {a kS : Addr} {b : Bool} {vs : List Value} {ks : List Str} {e1 : Nat} {P : PySem.Fin → Shared → Prop}
theorem texts_read {h : Heap} : ∀ {us : List Value} {ks : List Str}, Texts us ks → EachIs (fun v d => ∃ as, Reads h v d as) us (ks.map PyData.str)
  | _, _, .nil => .nil
  | _, _, .cons ⟨t, e⟩ r => .cons ⟨[], by rw [e]; exact .str _ t⟩ (texts_read r)
theorem alike_texts (ks : List Str) : AllAlike (ks.map PyData.str) := AllAlike.of fun x y => by simp [alike]
theorem sortable_texts (ks : List Str) : Sortable (ks.map PyData.str) := Sortable.others fun x => ⟨(nomatch ·), fun xs => (nomatch ·)⟩
/-- what an invariant J of the sort has to tell -/
structure ByJ (prog : Program) (w : World) (A : Around) (a kS : Addr) (e1 : Nat) (f : Value) (vs : List Value) (ks : List Str) (J : Nat → Shared → Prop) : Prop where
  is : ∀ i s, J i s → ∃ kA e, s.heap.get? kS = some (seqObj "list" kA e) ∧ Texts kA.toList (ks.take i) ∧ s.heap.get? a = some (seqObj "list" #[] e1)
  turn : ∀ (i : Nat) (v : Value) (k : Str), vs[i]? = some v → ks[i]? = some k → ∀ s, J i s → wpAny (model prog w) A (call f [v]) (fun u s2 => IsText u k ∧ ∃ kA e, s2.heap.get? kS = some (seqObj "list" kA e) ∧ Texts kA.toList (ks.take i) ∧
    ∀ h3 e3, Heap.SameBut kS s2.heap h3 → h3.get? kS = some (seqObj "list" (kA.push u) e3) → J (i + 1) { s2 with heap := h3 }) (fun _ _ => False) s
theorem rest_by {f : Value} {J : Nat → Shared → Prop} (B : ByJ prog w A a kS e1 f vs ks J) (hka : kS ≠ a) (hlen : ks.length = vs.length) (hZ : vs.length ≤ sizeLine) (hu : A.units < cLine) (j0 : J 0 s)
    (h : ∀ s' h' tk out c, J vs.length s' → (∀ b o, b ≠ a → b ≠ kS → s'.heap.get? b = some o → h'.get? b = some o) → h'.get? a = some (seqObj "list" (List.toArray out) c) → KeyedOut b (ks.map PyData.str) vs out → P (.done (.ret .none)) { s' with heap := h', toks := tk }) :
    wpAny (model prog w) A (ksk_rest a f b vs.toArray e1 (.ref kS)) P E s := by
  unfold ksk_rest
  refine wpAny_bind (wpAny_rule ?_)
  first
    | rw [List.forIn_toArray]
    | (rw [← Array.forIn_toList]; simp only [List.toList_toArray])
  refine wpAny_bind (ksk_fold J vs 0 s j0 (fun j x s' hx hJ => ?_) fun s' hJ => ?_)
  · rw [Nat.zero_add] at hJ ⊢
    have hj : j < vs.length := (List.getElem?_eq_some_iff.mp hx).1
    obtain ⟨k, hkj⟩ : ∃ k, ks[j]? = some k := ⟨_, List.getElem?_eq_getElem (by omega)⟩
    refine wpAny_bind (wpAny_attempt (wpAny_mono (B.turn j x k hx hkj s' hJ) (fun u s2 q => ?_) fun _ _ z => z.elim))
    obtain ⟨ht, kA, e, nk, tx, go⟩ := q
    dsimp only
    have hz : kA.size ≤ vs.length := by
      have z := tx.length
      rw [Array.length_toList, List.length_take] at z
      omega
    have hz2 : kA.size ≤ sizeLine := Nat.le_trans hz hZ
    obtain ⟨c2, hc2⟩ : ∃ c2, (s2.heap.update kS (Obj.mapSeq (·.push u))).get? kS = some (seqObj "list" (kA.push u) c2) := ⟨_, get?_update_seq nk (·.push u)⟩
    refine wpAny_bind (listUpdate_at nk rfl ?_ hz2 (by rw [Array.size_push]; omega))
    exact wpAny_pure ⟨rfl, go _ c2 (Heap.SameBut.update s2.heap kS (Obj.mapSeq (·.push u))) hc2⟩
  · rw [Nat.zero_add] at hJ
    obtain ⟨kA, e, nk, tx, na⟩ := B.is _ _ hJ
    refine wpAny_bind (listItems_at nk rfl ?_)
    obtain ⟨G, g1, g2⟩ := L2.restrict s'.heap fun b => decide (b ≠ kS)
    have gs : ∀ b o, G.get? b = some o → s'.heap.get? b = some o := fun b o q => by
      by_cases hb : b = kS
      · rw [hb, g2 kS (decide_eq_false fun z => z rfl)] at q
        cases q
      · rw [← g1 b (decide_eq_true hb)]
        exact q
    have et : ks.take vs.length = ks := List.take_of_length_le (by omega)
    rw [et] at tx
    have er := texts_read (h := s'.heap) tx
    have hsz : kA.size = vs.length := by
      have z := tx.length
      rw [Array.length_toList] at z
      omega
    refine keyH_end (h₁ := G) (κ := dataKind s'.heap (ks.map PyData.str)) (fun b o _ q => gs b o q) (g2 kS (decide_eq_false fun z => z rfl)) nk na hka (SortsAt.data er (alike_texts ks) (sortable_texts ks) fun d hd => ?_) hsz hZ fun h' tk c kp hA => ?_
    · obtain ⟨x, _, rfl⟩ := List.mem_map.mp hd
      simp only [PyData.depth]
      omega
    · exact h s' h' tk _ c hJ (fun b o n1 n2 q => kp b o n1 (by rw [g1 b (decide_eq_true n2)]; exact q)) hA ⟨s'.heap, kA.toList, alike_texts ks, rfl, er⟩
theorem sorted_by {β : Type} {R : Value → β → Prop} {l : Addr} {f : Value} {kw : List (Str × Value)} {Q : Value → Shared → Prop} {bs : List β} (key : β → Str) (hl : s.heap.IsList l vs.toArray) (er : EachIs R vs bs) (hZ : bs.length ≤ sizeLine) (hu : A.units + 2 < cLine) (ha1 : argsOk "sorted" ⟨[.ref l], kw⟩)
    (ha2 : ∀ x, argsOk "list.sort" ⟨[.ref x], kw⟩) (ht : ∀ x, Builtin.«list.sort» ⟨[.ref x], kw⟩ = ksk_tree x f b)
    (go : ∀ (a kS : Addr) (e1 : Nat) (h0 : Heap), (∀ b o, s.heap.get? b = some o → h0.get? b = some o) → s.heap.objs.size ≤ a → s.heap.objs.size ≤ kS → kS ≠ a → h0.get? kS = some (seqObj "list" #[] 0) → h0.get? a = some (seqObj "list" #[] e1) →
      ∃ J : Nat → Shared → Prop, ByJ prog w A.in1.in1 a kS e1 f vs (bs.map key) J ∧ J 0 { s with heap := h0 } ∧
        ∀ s' h' tk out c, J vs.length s' → (∀ b o, b ≠ a → b ≠ kS → s'.heap.get? b = some o → h'.get? b = some o) → h'.get? a = some (seqObj "list" (List.toArray out) c) → out.length = bs.length → EachIs R out (bs.mergeSort (dataLe b fun x => .str (key x))) → Q (.ref a) { s' with heap := h', toks := tk }) :
    wpAny (model prog w) A (call (.builtin "sorted") [.ref l] kw) Q E s := by
  refine sorted_of_sort hl (by rw [er.length]; exact hZ) ha1 ha2 fun E' => ?_
  rw [ht]
  have at0 := copyHeap_at s.heap vs
  generalize ha : s.heap.objs.size + 1 = a at at0 ⊢
  have old : ∀ b o, s.heap.get? b = some o → (copyHeap s.heap vs).get? b = some o := fun b o q => copyHeap_old q
  have hsa : a < (copyHeap s.heap vs).objs.size := Heap.lt_size at0
  generalize copyHeap s.heap vs = h1 at at0 old hsa ⊢
  obtain ⟨e1, ho1⟩ : ∃ e1, (h1.update a (Obj.mapSeq fun _ => (#[] : Array Value))).get? a = some (seqObj "list" #[] e1) := ⟨_, get?_update_seq at0 fun _ => #[]⟩
  have hkS : ((h1.update a (Obj.mapSeq fun _ => (#[] : Array Value))).push (seqObj "tuple" vs.toArray 0)).objs.size = h1.objs.size + 1 := by
    rw [size_push', Heap.size_update]
  unfold ksk_tree
  refine wpAny_bind (listItems_at at0 rfl ?_)
  refine wpAny_bind (listUpdate_at at0 rfl ?_ (by rw [List.size_toArray, er.length]; exact hZ) (Nat.zero_le _))
  refine wpAny_bind (seqEpoch_at ho1 rfl ?_)
  refine wpAny_bind (wpAny_newTuple ?_ (by show vs.length ≤ _; rw [er.length]; exact hZ))
  refine wpAny_bind (wpAny_newList ?_ (Nat.zero_le _))
  refine wpAny_holding ?_
  rw [hkS]
  have nka : h1.objs.size + 1 ≠ a := by omega
  have za : s.heap.objs.size ≤ a := by omega
  have zk : s.heap.objs.size ≤ h1.objs.size + 1 := by omega
  have nba : ∀ b o, s.heap.get? b = some o → b ≠ a := fun b o q => Nat.ne_of_lt (Nat.lt_of_lt_of_le (Heap.lt_size q) za)
  obtain ⟨J, B, j0, fin⟩ := go a (h1.objs.size + 1) e1 (((h1.update a (Obj.mapSeq fun _ => (#[] : Array Value))).push (seqObj "tuple" vs.toArray 0)).push (seqObj "list" #[] 0))
    (fun b o q => Heap.get?_push_of_some _ (Heap.get?_push_of_some _ (((Heap.SameBut.update h1 a (Obj.mapSeq fun _ => (#[] : Array Value))).2 b (nba b o q)).trans (old b o q)))) za zk nka
    (by rw [← hkS]; exact Heap.get?_push_size _ rfl) (Heap.get?_push_of_some _ (Heap.get?_push_of_some _ ho1))
  refine rest_by B nka (by rw [List.length_map]; exact er.length.symm) (by rw [er.length]; exact hZ) (by show A.units + 1 + 1 < cLine; omega) j0 fun s' h' tk out c hJ kp hA ko => ⟨rfl, ?_⟩
  have em : (bs.map key).map PyData.str = bs.map fun x => PyData.str (key x) := by
    rw [List.map_map]
    rfl
  rw [em] at ko
  exact fin s' h' tk out c hJ kp hA ((ko.length (by rw [List.length_map]; exact er.length.symm)).trans er.length) (keyedOut_each (fun x => PyData.str (key x)) ko er)
end
end SK
/-! ### sorted(e, key=lambda x: body), e a list of texts, x's key a text -/
namespace SK
open PySem PySem.Spec PyProof.Rows L2 LamX NdefX
abbrev St := L2.St
abbrev CX0 := C8.CX0
abbrev E0 := C8.E0
section
variable {CX : CXT} {P : Program} {w : World} {K : PySem.W.Frag} {mg : Str → Option Value} {base : Heap} {N ps fr : List Str} {F : NF} {f : Addr} {A : Around} {outer : List Env} {s : Shared} {H : Hp} {E : XK} {us : List Value} {vs : List V} {ws : List (Option V)} {k : Nat} {body : Expr} {tb : TE} {Q : VK} {pm ctv : Value}
/-- a lambda with parameters is called -/
theorem lam_run (S : NScope N ps fr F.scope) (hbind : bindArgs (PySem.W.kla_fn F.name F.qual F.params body F.scope F.cl pm (.ref F.c) ctv) ⟨us, []⟩ = pure (ps.zip us)) (ho : s.heap.get? f = some (PySem.W.kla_obj F.name F.qual F.params body F.scope F.cl pm F.c ctv))
    (hco : H F.c = some (CodeO F.c F.qual)) (hr : Room (k + 1) A) (e0 : Env0 P w K mg base A outer s H) (C : CellsAt F.cl fr ws s.heap H) (r : Vals vs us) (hl : vs.length = ps.length) (hbody : PE (ncx CX P w K mg base N F f A outer s H E) body tb)
    (hq : tb (startF N vs ws) H Q) : codeAny (model P w) A (.call (.ref f) ⟨us, []⟩) (CR CX outer P w H s Q E) s := by
  have lim : s.heap.NoLimit := e0.mod.nolimit.keeps fun b o e => (e0.bs b o e).1
  refine PySem.W.kla_callFunE hr.depth ho rfl S.co S.gen rfl (codeO_at e0.hok hco) ?_
  rw [hbind]
  refine wpAny_pure (wpAny_newFunctionEnv S.nocell (fun ⟨n, _⟩ hy => S.par n (List.of_mem_zip hy).1) (fun h₁ hns hsb => ⟨lim.fresh _ hsb, ?_⟩) S.kind)
  show codeAny _ _ (.expr body (envF F f s.heap.objs.size)) _ _
  have kp : ∀ b o, s.heap.get? b = some o → h₁.get? b = some o := fun b o e => hsb.extBut b o (Nat.ne_of_lt (Heap.lt_size e)) (Heap.get?_push_of_some _ e)
  have J := inv_startN (CX := CX) (f := f) (E := E) (tk := s.toks + (ps.zip us).length) S hr.hd e0 hl r C hns kp
  refine PySem.W.kla_codeExpr (wpAny_mono (hbody.run [] _ _ H Q J hq) (fun v s' hs => ?_) fun e s' hs => hs)
  obtain ⟨x, H', J', rv, q⟩ := hs
  exact ⟨x, H', J'.os, J'.bare, J'.base, J'.hok, rv, q⟩
end
/-- what the sort knows of its two lists -/
def aO (a : Addr) (e1 : Nat) : HO := .ext fun h => h.get? a = some (seqObj "list" #[] e1)
def kO (kS : Addr) (ks : List Str) : HO := .ext fun h => ∃ kA e, h.get? kS = some (seqObj "list" kA e) ∧ Texts kA.toList ks
theorem aO_ok {P : Program} {w : World} {H : Hp} {h : Heap} {a : Addr} {e1 : Nat} (q : h.get? a = some (seqObj "list" #[] e1)) : ObjOk P w H h a (aO a e1) := ⟨q, ⟨_, q⟩, fun h1 h2 z st => st _ z⟩
theorem kO_ok {P : Program} {w : World} {H : Hp} {h : Heap} {a : Addr} {ks : List Str} {kA : Array Value} {e : Nat} (q : h.get? a = some (seqObj "list" kA e)) (t : Texts kA.toList ks) : ObjOk P w H h a (kO a ks) :=
  ⟨⟨kA, e, q, t⟩, ⟨_, q⟩, fun h1 h2 ⟨k1, e1, z, t1⟩ st => ⟨k1, e1, st _ z, t1⟩⟩
theorem aO_at {P : Program} {w : World} {H : Hp} {h : Heap} {a : Addr} {e1 : Nat} (x : HOk P w H h) (e : H a = some (aO a e1)) : h.get? a = some (seqObj "list" #[] e1) := (x a _ e).1
theorem kO_at {P : Program} {w : World} {H : Hp} {h : Heap} {a : Addr} {ks : List Str} (x : HOk P w H h) (e : H a = some (kO a ks)) : ∃ kA e, h.get? a = some (seqObj "list" kA e) ∧ Texts kA.toList ks := (x a _ e).1
theorem vals_texts : ∀ {ws : List Str} {us : List Value}, Vals (ws.map V.str) us → Texts us ws
  | [], [], _ => .nil
  | [], _ :: _, h => by cases h
  | _ :: _, [], h => by cases h
  | w :: ws, u :: us, h => by
    cases h with
    | cons h1 h2 => exact .cons h1 (vals_texts h2)
theorem texts_vals : ∀ {us : List Value} {ws : List Str}, Texts us ws → Vals (ws.map V.str) us
  | _, _, .nil => .nil
  | _, _, .cons h1 h2 => .cons h1 (texts_vals h2)
theorem each_get {α β : Type} {R : α → β → Prop} : ∀ {us : List α} {ws : List β}, PySem.W.EachIs R us ws → ∀ {i : Nat} {u : α} {x : β}, us[i]? = some u → ws[i]? = some x → R u x
  | _, _, .nil, i, u, x, h, _ => by simp at h
  | _, _, .cons r t, 0, u, x, h1, h2 => by
    simp at h1 h2
    subst h1 h2
    exact r
  | _, _, .cons r t, i + 1, u, x, h1, h2 => each_get t (by simpa using h1) (by simpa using h2)
theorem texts_snoc {us : List Value} {ks : List Str} {u : Value} {k : Str} : Texts us ks → IsText u k → Texts (us ++ [u]) (ks ++ [k])
  | .nil, h => .cons h .nil
  | .cons a t, h => .cons a (texts_snoc t h)
/-- the reading, behind the list: its words, the key of each by the lambda's body, then the new list in their order -/
def sTail (K : PySem.W.Frag) (T : List (Addr × Str)) (H0 : Hp) (N : List Str) (js : List Nat) (tb : TE) (σ : St) (Q : VK) (x : V) (H1 : Hp) : Prop := ∃ (l : Addr) (ws : List Str) (key : Str → Str), x = .ref l ∧ SqL K H1 l (ws.map V.str) ∧ Tabs T H1 ∧ ExtN H0 H1 ∧
  ∀ H2, ExtN H1 H2 → Tabs T H2 → (∀ y ∈ ws, ∀ H3, Same H2 H3 → tb (startF N [.str y] (js.map (slotAt σ))) H3 fun v H4 => v = .str (key y) ∧ Same H3 H4) ∧
    ∀ H5 p, H2 p = none → Same H2 H5 → H5 p = some (.lst ((ws.mergeSort (PySem.W.dataLe false fun x => .str (key x))).map V.str)) → Q (.ref p) H5
def tSort (K : PySem.W.Frag) (T : List (Addr × Str)) (H0 : Hp) (N : List Str) (js : List Nat) (te tb : TE) : TE := fun σ H Q => te σ H (sTail K T H0 N js tb σ Q)
theorem extN_seq {K : PySem.W.Frag} {H H' : Hp} {l : Addr} {xs : List V} (e : ExtN H H') (h : SqL K H l xs) : SqL K H' l xs := by
  rcases h with (h | ⟨o, h⟩) | h
  · exact .inl (.inl (e _ _ h fun ps z => nomatch z))
  · exact .inl (.inr ⟨o, e _ _ h fun ps z => nomatch z⟩)
  · exact .inr h
section
variable {X : Cx}
theorem pe_sortkey {T : List (Addr × Str)} {c P : Addr} {k : Nat} {e body : Expr} {params : Arguments} {scope : Scope} {te tb : TE} {p lpos kpos pos : Pos} {N fr : List Str} {a1 : Str} {js : List Nat} (hg : Gl X "sorted") (hm : X.mg "sorted" = none) (ha : PE X e te) (TB : TabB X.base X.mg c P) (hcode : X.env.code = .ref c)
    (hmT : (P, X.env.qual ++ "<lambda>") ∈ T) (hu : ∀ p ∈ T, p.1 = P → p.2 = X.env.qual ++ "<lambda>") (hr : Room (k + 3) X.A) (hex : X.ex = []) (S : NScope N [a1] fr scope)
    (hnd : ndefB X.env.scope scope fr = true) (hjs : js.map (fun j => X.N[j]?) = fr.map some) (hdef : defaultsOf params X.env = ([], []))
    (hbind : ∀ (q : Str) (cl : List (Str × Addr)) (pm cv ctv v : Value), bindArgs (PySem.W.kla_fn "<lambda>" q params body scope cl pm cv ctv) ⟨[v], []⟩ = pure [(a1, v)])
    (hbody : ∀ (A : Around) (outer : List Env) (s : Shared) (H : Hp) (f c' : Addr) (cl : List (Str × Addr)), Room k (A.deeper (envF ⟨"<lambda>", X.env.qual ++ "<lambda>", params, [], scope, cl, c'⟩ f s.heap.objs.size)) →
      PE (ncx CX0 X.prog X.w X.K X.mg X.base N ⟨"<lambda>", X.env.qual ++ "<lambda>", params, [], scope, cl, c'⟩ f A outer s H E0) body tb)
    (hs1 : starEach [e] X.env = [(false, eval e X.env)] := by rfl) :
    PE X (.Call (.Name "sorted" p) [e] [⟨some "key", .Lambda params body scope lpos, kpos⟩] pos) (tSort X.K T X.H_0 N js te tb) := by
  have hfree := ndef_free hnd
  have hfr := ndef_fr hnd
  refine ⟨fun pins s σ H Q I h => ?_⟩
  refine wpAny_Call_Name_kw (ld_blt I hg hm PyProof.Rows.boot_sorted ?_)
  refine PyProof.Rows.callWith_kw ?_ (by rw [hs1]; rfl) (by rw [hs1]; rfl) (by rfl) (by rfl)
  refine thn ((pa_cons ha pa_nil hs1).run pos pins s σ H (fun vs H1 => match vs with
    | [x] => sTail X.K T X.H_0 N js tb σ Q x H1
    | _ => False) I h) fun us s1 ⟨vs, H1, I1, r1, q1⟩ => ?_
  match vs, r1, q1 with
  | [x], r1, q1 =>
  obtain ⟨l, ws, key, rfl, hS, hT, h01, q⟩ := q1
  obtain ⟨u, rfl, ru⟩ := vals1 r1
  obtain rfl : u = Value.ref l := ru
  have hcl : ∀ y ∈ scope.names, y.2 = .free → ∃ c, X.env.cells.lookup y.1 = some c := fun y hy e => (hfree y hy e).elim (fun z => I1.ok.has _ (.inl z)) fun z => I1.ok.has _ (.inr z)
  show wpAny _ _ (evalAll ((do let v ← eval (.Lambda params body scope lpos) X.env; standAt pos; pure v) :: (backToKw pos (keywordEach [] X.env)).map (·.2))) _ _ s1
  refine wpAny_evalAll_cons (wpAny_bind (lam_make2 I1 TB hcode hmT hu hT hdef hcl fun f c' pm ctv H2 s2 I2 eN T2 ho hfn hfs hco => wpAny_bind (wpAny_standAt (wpAny_pure ?_))))
  refine wpAny_evalAll_nil ?_
  show wpAny _ _ (call (.builtin "sorted") [.ref l] [(Str.ofString "key", .ref f)]) _ _ s2
  obtain ⟨qa, qend⟩ := q H2 eN T2
  obtain ⟨its, rv, hl, hz⟩ := I2.list (extN_seq eN hS)
  rw [List.length_map] at hz
  have hu2 : X.A.units + 2 < cLine := by
    have z := hr.un
    omega
  have tx := vals_texts rv
  refine sorted_by (b := false) key hl.isList tx hz hu2 (PyProof.Rows.ksk_s1 _ _) (fun x => PyProof.Rows.ksk_l1 _ _) (fun x => PyProof.Rows.ksk_t1 _ _) fun a kS e1 h0 k0 za zk nka hk ha0 => ?_
  have na : H2 a = none := I2.hok.fresh za
  have nk : H2 kS = none := I2.hok.fresh zk
  have fr0 : ∀ b, H2 b = none → Fr0 X.H_0 b := fun b n o e => by
    by_cases ht : ∃ ps, o = .tbl ps
    · exact ht
    · have z := eN b o (h01 b o e fun ps w => ht ⟨ps, w⟩) fun ps w => ht ⟨ps, w⟩
      rw [n] at z
      cases z
  refine ⟨fun i s' => ∃ H', Inv X pins σ H' s' ∧ Same H2 H' ∧ H' a = some (aO a e1) ∧ H' kS = some (kO kS ((ws.map key).take i)) ∧ s'.heap.get? f = some (PySem.W.kla_obj "<lambda>" (X.env.qual ++ "<lambda>") params body scope (cloFrom X.env.cells scope.names []) pm c' ctv) ∧ H' f = none,
    ⟨fun i s' ⟨H', I', sm, oa, ok, of, nf⟩ => ?_, fun i v k0 hv hk0 s' ⟨H', I', sm, oa, ok, of, nf⟩ => ?_⟩, ?_, fun s' h' tk out c0 ⟨H', I', sm, oa, ok, of, nf⟩ kp hA hlen er => ?_⟩
  · obtain ⟨kA, e, z1, z2⟩ := kO_at I'.hok ok
    exact ⟨kA, e, z1, z2, aO_at I'.hok oa⟩
  · obtain ⟨y, hy, rfl⟩ : ∃ y, ws[i]? = some y ∧ key y = k0 := by
      rw [List.getElem?_map] at hk0
      cases e : ws[i]? with
      | none =>
        rw [e] at hk0
        cases hk0
      | some y =>
        rw [e] at hk0
        exact ⟨y, rfl, Option.some.inj hk0⟩
    obtain ⟨t, rfl⟩ := each_get tx hv hy
    have C := cells_of I' (Caps.made I'.ok hfree hfr hjs)
    have hr2 : Room (k + 1) X.A.in1.in1 := hr.in1.in1
    have rc := lam_run (CX := CX0) (E := E0) (F := ⟨"<lambda>", X.env.qual ++ "<lambda>", params, [], scope, cloFrom X.env.cells scope.names [], c'⟩) (f := f) (us := [.str y t]) (vs := [.str y]) (Q := fun v H4 => v = .str (key y) ∧ Same H' H4) S (hbind _ _ _ _ _ _) of (sm _ _ hco) hr2 I'.env0.in1.in1 C
      (.cons ⟨t, rfl⟩ .nil) rfl (hbody _ _ _ _ _ _ _ (hr2.deeper _)) (qa y (List.mem_of_getElem? hy) H' sm)
    refine wpAny_call (codeAny_mono rc fun r s3 hq => ?_)
    cases r with
    | error e => exact (show False from hq).elim
    | ok fl =>
      cases fl with
      | next => exact (show False from hq).elim
      | brk => exact (show False from hq).elim
      | cont => exact (show False from hq).elim
      | ret u =>
        obtain ⟨v2, H4, os, bare, un, hok, rv2, rfl, sm4⟩ := (show CE X.stack X.prog X.w H' s' _ u s3 from hq)
        obtain ⟨hh, g, d, t4, os'⟩ := s3
        obtain rfl : os' = s'.os := os
        have I4 : Inv X pins σ H4 ⟨hh, g, d, t4, s'.os⟩ := I'.call (h' := hh) (g' := g) (d' := d) (t' := t4) (ch := []) un hok bare (fun b z => absurd z (by simp))
        obtain ⟨kA, e, nk4, tx4⟩ := kO_at I4.hok (sm4 _ _ ok)
        have nfk : f ≠ kS := fun z => by
          rw [z, ok] at nf
          cases nf
        have of4 := un.keep f _ of nf hfs (by simp)
        have nf4 := un.free f _ of nf (by simp)
        refine ⟨rv2, kA, e, nk4, tx4, fun h3 e3 hsb hk3 => ?_⟩
        have tx5 : Texts (kA.push u).toList ((ws.map key).take (i + 1)) := by
          have e5 : (ws.map key).take (i + 1) = (ws.map key).take i ++ [key y] := by
            rw [List.take_add_one, List.getElem?_map, hy]
            rfl
          rw [e5, Array.toList_push]
          exact texts_snoc tx4 rv2
        refine ⟨upd H4 kS (kO kS ((ws.map key).take (i + 1))), I4.write (x := kS) (e := kS) (by rw [sm4 _ _ ok]; trivial) (.inl rfl) (fun b o hb z => (hsb.2 b hb).trans z) ⟨_, hk3⟩ (kO_ok hk3 tx5), fun b o z => ?_, ?_, upd_same, ?_, ?_⟩
        · rw [upd_ne (ne_of_none z nk)]
          exact sm4 _ _ (sm _ _ z)
        · rw [upd_ne nka.symm]
          exact sm4 _ _ oa
        · exact (hsb.2 f nfk).trans of4
        · rw [upd_ne nfk]
          exact nf4
  · obtain ⟨G, g1, g2⟩ := restrict h0 fun b => decide (b ≠ kS)
    have lt : ∀ b o, s2.heap.get? b = some o → b ≠ kS ∧ b ≠ a := fun b o z => ⟨Nat.ne_of_lt (Nat.lt_of_lt_of_le (Heap.lt_size z) zk), Nat.ne_of_lt (Nat.lt_of_lt_of_le (Heap.lt_size z) za)⟩
    have gG : ∀ b o, b ≠ kS → h0.get? b = some o → G.get? b = some o := fun b o n z => by
      rw [g1 b (decide_eq_true n)]
      exact z
    have Gh : ∀ b o, G.get? b = some o → h0.get? b = some o := fun b o z => by
      by_cases hb : b = kS
      · rw [hb, g2 kS (decide_eq_false fun z => z rfl)] at z
        cases z
      · rw [← g1 b (decide_eq_true hb)]
        exact z
    have Ia := I2.laidN (h' := G) (t' := s2.toks) (a := a) (o := aO a e1) (fun b o z => gG b o (lt b o z).1 (k0 b o z)) (Heap.get?_none_of_le za) na (aO_ok (gG a _ nka.symm ha0))
    have nk2 : upd H2 a (aO a e1) kS = none := by
      rw [upd_ne nka]
      exact nk
    have Ik := Ia.laidN (h' := h0) (t' := s2.toks) (a := kS) (o := kO kS []) Gh (g2 kS (decide_eq_false fun z => z rfl)) nk2 (kO_ok hk .nil)
    refine ⟨_, Ik, fun b o z => ?_, ?_, ?_, k0 _ _ ho, ?_⟩
    · rw [upd_ne (ne_of_none z nk), upd_ne (ne_of_none z na)]
      exact z
    · rw [upd_ne nka.symm, upd_same]
    · rw [upd_same, List.take_zero]
    · rw [upd_ne (lt _ _ ho).1, upd_ne (lt _ _ ho).2]
      exact hfn
  · obtain ⟨G1, a1, a2, I5⟩ := I'.untrack ok (fr0 kS nk) hex
    obtain ⟨G2, b1, b2, I6⟩ := I5.untrack (a := a) (by rw [delH_ne nka.symm]; exact oa) (fr0 a na) hex
    have hlm : ((ws.mergeSort (PySem.W.dataLe false fun x => .str (key x))).map V.str).length ≤ sizeLine := by
      rw [List.length_map, List.length_mergeSort]
      exact hz
    have I7 := I6.laidN (h' := h') (t' := tk) (a := a) (o := .lst ((ws.mergeSort (PySem.W.dataLe false fun x => .str (key x))).map V.str))
      (fun b o z => kp b o (fun w => by rw [w, b2] at z; cases z) (fun w => by have z2 := b1 b o z; rw [w] at z2; have z3 := z2; rw [a2] at z3; cases z3) (a1 _ _ (b1 _ _ z))) b2 delH_same ⟨hlm, out, c0, texts_vals er, hA⟩
    refine ⟨.ref a, _, I7, rfl, qend _ a na (fun b o z => ?_) upd_same⟩
    rw [upd_ne (ne_of_none z na), delH_ne (ne_of_none z na), delH_ne (ne_of_none z nk)]
    exact sm _ _ z
end
end SK
/-! ### enumerate of a text and of a tuple; dict comprehensions over any walk -/
namespace SK
open PySem PySem.Spec PyProof.Rows L2 LamX NdefX
def ItES (x : Str) : It := ⟨fun i _ => i < x.cps.size, fun i H v H' => ∃ T c, v = .ref T ∧ H T = none ∧ H' = upd H T (.tup [.int (i : Nat), .str ⟨#[c]⟩]) ∧ x.cps[i]? = some c, fun i _ => i = x.cps.size⟩
def ItET (a : Addr) (xs : List V) : It := ⟨fun i H => H a = some (.tup xs) ∧ i < xs.length, fun i H v H' => ∃ T x, v = .ref T ∧ H T = none ∧ H' = upd H T (.tup [.int (i : Nat), x]) ∧ xs[i]? = some x, fun i H => H a = some (.tup xs) ∧ i = xs.length⟩
/-- a pair that enumerate hands out -/
theorem enum_turn {X : Cx} {pins : List (Addr × Obj)} {s : Shared} {σ : St} {H : Hp} {E : Value → Shared → Prop} {J : It} {fp : List Addr} {n i : Nat} {Pd : Nat → Value → Prop} {Sd : Nat → Heap → Prop} {e it : Addr} {elts : List Expr} {kk : Nat} {tpos : Pos} {tn : Nat → Heap → Prop} (I : Inv X pins σ H s)
    (D : PySem.Draws X.prog X.w X.A.in1 it fp n Pd Sd) (hf : ∀ b ∈ [e, it], FpOk X pins H b) (he : ∃ old, IsEnum s.heap e it ((i : Nat) : Int) old) (hst : Sd i s.heap) (hlt : i < n) (hne : e ≠ it) (hef : e ∉ fp)
    (hit : ∃ o, s.heap.get? it = some o) (rel : ∀ u, Pd i u → ∃ x, RelV x u ∧ ∀ H' T, H T = none → H' = upd H T (.tup [.int (i : Nat), x]) → J.yld i H (.ref T) H') (nx : ∀ h' h'', Sd (i + 1) h' → (∀ b o, b ≠ e → h'.get? b = some o → h''.get? b = some o) → (∃ old, IsEnum h'' e it (((i + 1 : Nat)) : Int) old) → tn (i + 1) h'') :
    wpAny (model X.prog X.w) X.A (pyNext (.ref e)) (fun r s1 => ∃ u, r = some u ∧
      wpAny (model X.prog X.w) X.A (letOwnedTupleGo (.Tuple elts kk tpos) (.ref e) u) (fun _ s2 => ∃ x H', Inv X pins σ H' s2 ∧ RelV x u ∧ J.yld i H x H' ∧ tn (i + 1) s2.heap ∧ ∀ b ∈ [e, it], H' b = none) E s1) E s := by
  obtain ⟨old, he⟩ := he
  have hel : e < s.heap.objs.size := Heap.lt_size he
  have hil : it < s.heap.objs.size := by
    obtain ⟨o, q⟩ := hit
    exact Heap.lt_size q
  refine wpAny_pyNext_enum_itemD D he hst hlt hne hef fun u h' tk hP ho hst' hT hsz hk => ?_
  obtain ⟨x, ru, hy⟩ := rel u hP
  refine ⟨_, rfl, wpAny_letOwnedTupleGo_enum (s := { s with heap := h', toks := tk + 1 }) ho fun h'' he' sb => ?_⟩
  have hT2 : h''.get? s.heap.objs.size = some { cls := .type "tuple", data := .seq #[.int i tk, u] } := (sb.2 _ (Nat.ne_of_gt hel)).trans hT
  have nw : ObjOk X.prog X.w (upd H s.heap.objs.size (.tup [.int (i : Nat), x])) h'' s.heap.objs.size (.tup [.int (i : Nat), x]) :=
    ⟨by show 2 ≤ sizeLine; decide, [.int i tk, u], .cons ⟨_, rfl⟩ (.cons ru .nil), ⟨_, hT2, rfl, _, rfl⟩⟩
  have I1 : Inv X pins σ (upd H s.heap.objs.size (.tup [.int (i : Nat), x])) { s with heap := h'', toks := tk + 1 } :=
    I.turnedNew (ch := [e, it]) (fun b ob hb q => (sb.2 b (fun z => hb (by simp [z]))).trans (hk b ob (fun z => hb (by simp [z])) (fun z => hb (by simp [z])) q)) hf (Nat.le_refl _) nw
  refine ⟨.ref s.heap.objs.size, _, I1, rfl, hy _ _ (I.hok.fresh (Nat.le_refl _)) rfl, nx h' h'' hst' (fun b o hb q => (sb.2 b hb).trans q) ⟨u, ?_⟩, fun b hb => ?_⟩
  · have e1 : ((i + 1 : Nat) : Int) = (i : Int) + 1 := by omega
    rw [e1]
    exact he'
  · have hb' : b < s.heap.objs.size := by
      have e' : b = e ∨ b = it := by simpa using hb
      rcases e' with z | z
      · rw [z]; exact hel
      · rw [z]; exact hil
    rw [upd_ne (Nat.ne_of_lt hb')]
    exact (hf b hb).1
theorem turn_enumS {P : Program} {w : World} {K : PySem.W.Frag} {elts : List Expr} {kk : Nat} {tpos : Pos} (x : Str) (t : Tok) (e it : Addr) :
    Turn P w K (.Tuple elts kk tpos) (ItES x) [e, it] e (fun i h => (∃ old, IsEnum h e it ((i : Nat) : Int) old) ∧ h.IsStrIter it (strIterType x) x t i ∧ e ≠ it) where
  mem := by simp
  obj := fun i h st b hb => by
    obtain ⟨⟨old, he⟩, ⟨o, ho, hc, hd⟩, _⟩ := st
    have e' : b = e ∨ b = it := by simpa using hb
    rcases e' with z | z
    · rw [z]
      exact ⟨_, he, fun v q => nomatch q⟩
    · rw [z]
      exact ⟨o, ho, fun v q => by rw [hd] at q; cases q⟩
  keep := fun i h h' st k => by
    obtain ⟨⟨old, he⟩, ⟨o, ho, r⟩, hne⟩ := st
    exact ⟨⟨old, k e (by simp) _ he⟩, ⟨o, k it (by simp) o ho, r⟩, hne⟩
  item := by
    intro X hP hw hK hc i pins s σ H E I hf st hg
    subst hP hw hK
    obtain ⟨he, hit, hne⟩ := st
    have hli : ∃ o, s.heap.get? it = some o := by
      obtain ⟨o, q, _⟩ := hit
      exact ⟨o, q⟩
    refine enum_turn (J := ItES x) (tn := fun i h => (∃ old, IsEnum h e it ((i : Nat) : Int) old) ∧ h.IsStrIter it (strIterType x) x t i ∧ e ≠ it) I (PySem.Draws.text (A := X.A.in1) (I.ok.hd hc) it x t) hf he hit hg hne (by simpa using hne) hli (fun u ⟨c, tu, hx, eu⟩ => ⟨.str ⟨#[c]⟩, ⟨tu, eu⟩, fun H' T hT eH => ⟨T, c, rfl, hT, eH, hx⟩⟩) fun h' h'' hs k hE => ?_
    obtain ⟨o, ho, r⟩ := hs
    exact ⟨hE, ⟨o, k it o (Ne.symm hne) ho, r⟩, hne⟩
  done := by
    intro X hP hw hK hc i pins s σ H E I hf st hg
    subst hP hw hK
    obtain ⟨⟨old, he⟩, hit, hne⟩ := st
    obtain ⟨f0, f1, f2, f3, f4, f5⟩ := hf it (by simp)
    have hg : i = x.cps.size := hg
    rw [hg] at hit
    exact wpAny_pyNext_enum_endD (PySem.Draws.text (A := X.A.in1) (I.ok.hd hc) it x t) he hit fun h' eb => ⟨rfl, I.turned (t' := s.toks) (fun b o hb q => eb b o hb q) f0 f1 f3 f4 f5⟩
  self := fun A i s Q E st h => let ⟨⟨_, he⟩, _⟩ := st; wpAny_pyIter_enum he h
theorem turn_enumT {P : Program} {w : World} {K : PySem.W.Frag} {elts : List Expr} {kk : Nat} {tpos : Pos} (a : Addr) (xs : List V) (e it : Addr) :
    Turn P w K (.Tuple elts kk tpos) (ItET a xs) [e, it] e (fun i h => (∃ old, IsEnum h e it ((i : Nat) : Int) old) ∧ h.IsTupleIter it a i ∧ e ≠ it) where
  mem := by simp
  obj := fun i h st b hb => by
    obtain ⟨⟨old, he⟩, ⟨o, ho, hc, hd⟩, _⟩ := st
    have e' : b = e ∨ b = it := by simpa using hb
    rcases e' with z | z
    · rw [z]
      exact ⟨_, he, fun v q => nomatch q⟩
    · rw [z]
      exact ⟨o, ho, fun v q => by rw [hd] at q; cases q⟩
  keep := fun i h h' st k => by
    obtain ⟨⟨old, he⟩, hi, hne⟩ := st
    exact ⟨⟨old, k e (by simp) _ he⟩, hi.at fun o q => k it (by simp) o q, hne⟩
  item := by
    intro X hP hw hK hc i pins s σ H E I hf st hg
    subst hP hw hK
    obtain ⟨he, hit, hne⟩ := st
    obtain ⟨ha, hlt⟩ := hg
    obtain ⟨its, rv, p, hz⟩ := I.tuple (.inl (.inl ha))
    have hl := rv.length
    have nat : ∀ b ∈ [e, it], a ≠ b := fun b hb z => by
      have q := (hf b hb).1
      rw [← z, ha] at q
      cases q
    have hli : ∃ o, s.heap.get? it = some o := by
      obtain ⟨o, q, _⟩ := hit
      exact ⟨o, q⟩
    have hp : s.heap.IsTuple a its.toArray := p
    refine enum_turn (J := ItET a xs) (tn := fun i h => (∃ old, IsEnum h e it ((i : Nat) : Int) old) ∧ h.IsTupleIter it a i ∧ e ≠ it) I (PySem.Draws.tuple (A := X.A.in1) (I.ok.hd hc) it a (nat it (by simp)) its.toArray) hf he ⟨hit, hp⟩ (by simpa [← hl] using hlt) hne (by simp only [List.mem_cons, List.mem_nil_iff, or_false, not_or]; exact ⟨hne, Ne.symm (nat e (by simp))⟩) hli (fun u hu => ?_) fun h' h'' hs k hE => ⟨hE, hs.1.at fun o q => k it o (Ne.symm hne) q, hne⟩
    obtain ⟨x, hx⟩ : ∃ x, xs[i]? = some x := ⟨_, List.getElem?_eq_getElem hlt⟩
    obtain ⟨u2, hu2, ru⟩ := rv.get hx
    have e2 : u2 = u := by
      have z : its.toArray[i]? = some u2 := by simpa using hu2
      exact Option.some.inj (z.symm.trans hu)
    subst e2
    exact ⟨x, ru, fun H' T hT eH => ⟨T, x, rfl, hT, eH, hx⟩⟩
  done := by
    intro X hP hw hK hc i pins s σ H E I hf st hg
    subst hP hw hK
    obtain ⟨⟨old, he⟩, hit, hne⟩ := st
    obtain ⟨ha, hlt⟩ := hg
    obtain ⟨its, rv, p, hz⟩ := I.tuple (.inl (.inl ha))
    have hl := rv.length
    obtain ⟨f0, f1, f2, f3, f4, f5⟩ := hf it (by simp)
    have nat : a ≠ it := fun z => by
      rw [← z, ha] at f0
      cases f0
    have hp : s.heap.IsTuple a its.toArray := p
    have ei : i = its.toArray.size := by
      rw [List.size_toArray, ← hl]
      exact hlt
    rw [ei] at hit
    exact wpAny_pyNext_enum_endD (PySem.Draws.tuple (A := X.A.in1) (I.ok.hd hc) it a nat its.toArray) he ⟨hit, hp⟩ fun h' eb => ⟨rfl, I.turned (t' := s.toks) (fun b o hb q => eb b o hb q) f0 f1 f3 f4 f5⟩
  self := fun A i s Q E st h => let ⟨⟨_, he⟩, _⟩ := st; wpAny_pyIter_enum he h
section
variable {X : Cx}
def iEnumS (ta : TA) : TI := fun σ H R => ta σ H fun vs H1 => ∃ x, vs = [.str x] ∧ R (ItES x) H1
theorem pi_enumS {e : Expr} {ta : TA} {p pos tpos : Pos} {elts : List Expr} {kk : Nat} (hg : Gl X "enumerate") (hm : X.mg "enumerate" = none) (ha : PA X [e] ta) (hs : starEach [e] X.env = [(false, eval e X.env)] := by rfl) :
    PI X (.Tuple elts kk tpos) (.Call (.Name "enumerate" p) [e] [] pos) (iEnumS ta) := by
  refine ⟨fun pins s σ H R I h => ?_⟩
  refine Call_ (ld_blt I hg hm boot_enumerate (PyProof.Rows.callWith_type1 (thn (ha.run pos pins s σ H _ I h) fun us s1 ⟨vs, H1, I1, r1, q1⟩ => ?_) hs rfl))
  obtain ⟨x, rfl, q⟩ := q1
  obtain ⟨u, rfl, t, rfl⟩ := vals1 r1
  refine call_enumerate_str fun h' he hit hsz hk => wpAny_pyIter_enum he ?_
  have I2 : Inv X pins σ H1 { s1 with heap := h' } := I1.kept (t' := s1.toks) hk
  refine ⟨s1.heap.objs.size + 1, [s1.heap.objs.size + 1, s1.heap.objs.size], _, _, H1, rfl, I2, turn_enumS x t (s1.heap.objs.size + 1) s1.heap.objs.size, ⟨⟨.none, he⟩, hit, Nat.succ_ne_self _⟩, fun b hb => ?_, q⟩
  have e' : b = s1.heap.objs.size + 1 ∨ b = s1.heap.objs.size := by simpa using hb
  have hle : s1.heap.objs.size ≤ b := by
    rcases e' with z | z
    · rw [z]; exact Nat.le_add_right _ _
    · rw [z]; exact Nat.le_refl _
  exact I1.fpOk hle (I1.hok.fresh hle)
def iEnumT (ta : TA) : TI := fun σ H R => ta σ H fun vs H1 => ∃ a xs, vs = [.ref a] ∧ H1 a = some (.tup xs) ∧ R (ItET a xs) H1
theorem walk_enumS {x : Str} : Walk (ItES x) x.cps.size (fun _ => True) (YPair (fun i => some (.int (i : Nat))) (fun i => x.cps[i]?.map fun c => .str ⟨#[c]⟩)) := by
  refine ⟨fun _ _ hi _ => hi, fun _ _ => rfl, fun i H v H' _ _ y => ?_⟩
  obtain ⟨T, c, h1, h2, h3, h4⟩ := y
  exact ⟨T, _, _, h1, h2, h3, rfl, by show x.cps[i]?.map _ = _; rw [h4]; rfl⟩
theorem walk_enumT {a : Addr} {xs : List V} : Walk (ItET a xs) xs.length (fun H => H a = some (.tup xs)) (YPair (fun i => some (.int (i : Nat))) (fun i => xs[i]?)) := by
  refine ⟨fun _ _ hi q => ⟨q, hi⟩, fun _ q => ⟨q, rfl⟩, fun i H v H' _ _ y => ?_⟩
  obtain ⟨T, x, h1, h2, h3, h4⟩ := y
  exact ⟨T, _, _, h1, h2, h3, rfl, h4⟩
end
/-- a dict comprehension over a walk -/
theorem dc_it {J : It} {n : Nat} {G : Hp → Prop} {Y : Nat → Hp → V → Hp → Prop} (w : Walk J n G Y) {g : TG} {tt : TT} {tk tv : TE} {vs : List Nat} {σ : St} {H1 : Hp} {D : Addr} {Qd : Hp → Prop} (Pv : Nat → Hp → Prop) (h0 : Pv 0 (upd H1 D (.dK []))) (hG : ∀ i H, i ≤ n → Pv i H → G H)
    (hs : ∀ i x H H', i < n → Pv i H → Y i H x H' → g x (wipe σ vs) H' fun σ2 H2 => wipe σ2 vs = wipe σ vs ∧ tt σ2 H2 fun b H3 =>
      if b = true then tk σ2 H3 fun y H4 => tv σ2 H4 fun z H5 => ∃ kvs k, y = kV k ∧ H5 D = some (.dK kvs) ∧ kvs.length < sizeLine ∧ Pv (i + 1) (upd H5 D (.dK (putK kvs k z))) else Pv (i + 1) H3) (hd : ∀ H, Pv n H → Qd H) :
    ∃ W : Nat → Nat → Hp → Prop, (∃ m, W 0 m (upd H1 D (.dK []))) ∧ ∀ i m H, W i m H →
      (J.stop i H ∧ Qd H) ∨ (J.go i H ∧ ∃ Nx : Hp → Prop, (∀ H', Nx H' → ∃ m', m' < m ∧ W (i + 1) m' H') ∧ ∀ x H', J.yld i H x H' → g x (wipe σ vs) H' fun σ2 H2 => wipe σ2 vs = wipe σ vs ∧ tt σ2 H2 fun b H3 =>
        if b = true then tk σ2 H3 fun y H4 => tv σ2 H4 fun z H5 => ∃ kvs k, y = kV k ∧ H5 D = some (.dK kvs) ∧ kvs.length < sizeLine ∧ Nx (upd H5 D (.dK (putK kvs k z))) else Nx H3) := by
  refine ⟨fun i m H => m + i = n ∧ Pv i H, ⟨n, rfl, h0⟩, fun i m H ⟨em, p⟩ => ?_⟩
  have q := hG i H (by omega) p
  rcases Nat.lt_or_ge i n with hlt | hge
  · exact .inr ⟨w.goes i H hlt q, Pv (i + 1), fun H' p' => ⟨n - (i + 1), by omega, by omega, p'⟩, fun x H' y => hs i x H H' hlt p (w.yields i H x H' hlt q y)⟩
  · obtain rfl : i = n := by omega
    exact .inl ⟨w.stops H q, hd H p⟩
end SK
namespace SK
open PySem PySem.Spec PyProof.Rows L2 LamX NdefX
/-- enumerate(v) with no start -/
theorem enum_new1 {v : Value} {o : Obj} {C : Heap → Prop} (B : Begins v o C) :
    Meets (Builtin.«enumerate.__new__» ⟨[.type "enumerate", v], []⟩) (fun _ R s => C s.heap ∧
      R (.ok (.ret (.ref (s.heap.push o).objs.size))) { s with heap := (s.heap.push o).push { cls := .type "enumerate", data := .fields #[.none, .bool false, .ref s.heap.objs.size, rawInt 0, .none, .none] } }) :=
  .of_wp fun prog w A R s h => by
    obtain ⟨hp, g, d, tk, os⟩ := s
    obtain ⟨h1, h⟩ := h
    have sub0 := sub_enumerate
    have it0 : ∀ {A' : Around} {E : Value → Shared → Prop} {Q : Value → Shared → Prop}, Q (.ref hp.objs.size) ⟨hp.push o, g, d, tk, os⟩ → wpAny (model prog w) A' (pyIter v) Q E ⟨hp, g, d, tk, os⟩ :=
      fun q => B.iter prog w _ _ ⟨hp, g, d, tk, os⟩ _ h1 q
    wp_walk using it0
    refine wpAny_stack_any fun st => wpAny_pure ?_
    split
    · rename_i c _ _ _ _ _
      cases (c == Value.type "enumerate")
      all_goals
        wp_walk using it0
        exact ⟨_, rfl, h⟩
    · wp_walk using it0
      exact ⟨_, rfl, h⟩
end SK
namespace SK
open PySem PySem.Spec PyProof.Rows L2 LamX NdefX
section
variable {prog : Program} {w : World} {A : Around} {E : Value → Shared → Prop} {s : Shared}
theorem enum_tuple {a : Addr} {items : Array Value} {Q : Value → Shared → Prop} (ht : s.heap.IsTuple a items)
    (h : ∀ h', IsEnum h' (s.heap.objs.size + 1) s.heap.objs.size 0 .none → h'.IsTupleIter s.heap.objs.size a 0 → (∀ b o, s.heap.get? b = some o → h'.get? b = some o) → Q (.ref (s.heap.objs.size + 1)) { s with heap := h' }) :
    wpAny (model prog w) A (call (.type "enumerate") [.ref a]) Q E s := by
  refine callType_new F.called_enumerate (by decide) (F.typeCall_enumerate_1 _) (F.newCall_enumerate_1 _) (fun obj => F.args_object_init_2 obj _) F.entry_enumerate_new (enum_new1 (begins_tuple a items)) ⟨ht, ?_⟩
  generalize ho : ({ cls := .type "tuple_iterator", data := .fields #[.ref a, .int 0 0] } : Obj) = o
  have hfr : o.isFreed = false := by
    rw [← ho]
    rfl
  have hz : (s.heap.push o).objs.size = s.heap.objs.size + 1 := Heap.size_push ..
  show _ ∧ _
  rw [hz]
  have he : IsEnum ((s.heap.push o).push { cls := .type "enumerate", data := .fields #[.none, .bool false, .ref s.heap.objs.size, rawInt 0, .none, .none] }) (s.heap.objs.size + 1) s.heap.objs.size 0 .none := by
    have q := Heap.get?_push_size (s.heap.push o) (o := { cls := .type "enumerate", data := .fields #[.none, .bool false, .ref s.heap.objs.size, rawInt 0, .none, .none] }) rfl
    rw [hz] at q
    exact q
  have hi : (s.heap.push o).get? s.heap.objs.size = some o := Heap.get?_push_size _ hfr
  refine ⟨⟨_, he, rfl⟩, h _ he ⟨o, Heap.get?_push_of_some _ hi, by rw [← ho], by rw [← ho]; rfl⟩ fun b u q => Heap.get?_push_of_some _ (Heap.get?_push_of_some _ q)⟩
end
section
variable {X : Cx}
theorem pi_enumT {e : Expr} {ta : TA} {p pos tpos : Pos} {elts : List Expr} {kk : Nat} (hg : Gl X "enumerate") (hm : X.mg "enumerate" = none) (ha : PA X [e] ta) (hs : starEach [e] X.env = [(false, eval e X.env)] := by rfl) :
    PI X (.Tuple elts kk tpos) (.Call (.Name "enumerate" p) [e] [] pos) (iEnumT ta) := by
  refine ⟨fun pins s σ H R I h => ?_⟩
  refine Call_ (ld_blt I hg hm boot_enumerate (PyProof.Rows.callWith_type1 (thn (ha.run pos pins s σ H _ I h) fun us s1 ⟨vs, H1, I1, r1, q1⟩ => ?_) hs rfl))
  obtain ⟨a, xs, rfl, hq, q⟩ := q1
  obtain ⟨u, rfl, ru⟩ := vals1 r1
  obtain rfl : u = Value.ref a := ru
  obtain ⟨its, rv, pt, hz⟩ := I1.tuple (.inl (.inl hq))
  have pt' : s1.heap.IsTuple a its.toArray := pt
  refine enum_tuple pt' fun h' he hit hk => wpAny_pyIter_enum he ?_
  have I2 : Inv X pins σ H1 { s1 with heap := h' } := I1.kept (t' := s1.toks) hk
  refine ⟨s1.heap.objs.size + 1, [s1.heap.objs.size + 1, s1.heap.objs.size], _, _, H1, rfl, I2, turn_enumT a xs (s1.heap.objs.size + 1) s1.heap.objs.size, ⟨⟨.none, he⟩, hit, Nat.succ_ne_self _⟩, fun b hb => ?_, q⟩
  have hle : s1.heap.objs.size ≤ b := by
    simp only [List.mem_cons, List.mem_nil_iff, or_false] at hb
    rcases hb with z | z
    · rw [z]; exact Nat.le_add_right _ _
    · rw [z]; exact Nat.le_refl _
  exact I1.fpOk hle (I1.hok.fresh hle)
/-- y = {k: v for .. in ..}, y a local name -/
theorem ps_setDc {i : Nat} {y : Str} {py : Pos} {kx vx tg iter : Expr} {ifs : List Expr} {scope : Scope} {own : List (Str × Nat)} {pos spos : Pos} {wi : TI} {g : TG} {tt : TT} {tk tv : TE} (hc : X.calm = true) (hN : X.N.Nodup) (hy : X.N[i]? = some y) (hyl : X.env.scope.names.lookup y = some .local)
    (hsw : swapsWith (.DictComp kx vx [⟨tg, iter, ifs, 0⟩] scope pos) (some (.Name y py)) spos.line X.env = pure true) (hi : PI X tg iter wi) (ok : BlkOk X.N X.env.scope scope own)
    (hg : ∀ (s : Shared) (H : Hp) (C : Addr) (cl : List (Str × Addr)) (fp : List Addr), PG (X.blk s H scope (compEnvC scope cl C X.env) fp) tg g) (ht : ∀ (s : Shared) (H : Hp) (C : Addr) (cl : List (Str × Addr)) (fp : List Addr), PTs (X.blk s H scope (compEnvC scope cl C X.env) fp) ifs tt)
    (hk : ∀ (s : Shared) (H : Hp) (C : Addr) (cl : List (Str × Addr)) (fp : List Addr), PE (X.blk s H scope (compEnvC scope cl C X.env) fp) kx tk)
    (he : ∀ (s : Shared) (H : Hp) (C : Addr) (cl : List (Str × Addr)) (fp : List Addr), PE (X.blk s H scope (compEnvC scope cl C X.env) fp) vx tv) (hs : ∀ x, foldedSetIterable iter X.env x = pure x := by intro _; rfl) :
    PS X (.Assign [.Name y py] (.DictComp kx vx [⟨tg, iter, ifs, 0⟩] scope pos) spos) (tAsg (tDc wi g tt tk tv (own.map (·.2))) (gName i)) := by
  refine ⟨fun pins s σ H D I h => ?_⟩
  rw [exec_Assign_Name_used _ _ _ _ hsw]
  refine wpAny_bind (wpAny_standAt (wpAny_bind ?_))
  show wpAny _ X.A (do let _ ← comprehension (.DictComp kx vx [⟨tg, iter, ifs, 0⟩] scope pos) scope X.env (firstIterPos [⟨tg, iter, ifs, 0⟩] pos) newDict false (eval iter X.env) (some (assign (.Name y py) X.env))) _ _ s
  have hh : tDc wi g tt tk tv (own.map (·.2)) σ H (fun x H1 => gName i x σ H1 D.nx) := h
  refine wpAny_bind (thn (dc_core (Qf := fun _ s' => SP X pins D .next s') hc hN I hi ok hg ht hk he hs hh fun L C s' m H' I' q hn f => ?_) fun _ s' hq => wpAny_pure (wpAny_pure hq))
  show wpAny _ _ (assign (.Name y py) X.env (.ref L)) _ _ _
  refine wpAny_assign_Name (store_ok2 (v := V.ref L) I' hN hy (.inl hyl) rfl (fun s2 I2 ⟨a, sb, ha⟩ => ?_) (.inr hyl))
  obtain ⟨f0, f1, f2, f3, f4, f5⟩ := f
  have haC : C ≠ a := ha.elim (fun z => by rw [z]; exact f1) fun z e => f4 y a z e.symm
  refine ⟨m, hn.sameBut sb haC, fun h3 sb3 => ?_⟩
  exact ⟨_, H', I2.turned (t' := s2.toks) (fun b o hb e => (sb3.2 b hb).trans e) f0 f1 f3 f4 f5, q⟩
theorem swD_true {kx vx : Expr} {gs : List Comprehension} {scope : Scope} {pos py : Pos} {y : Str} {l : Nat} {env : Env} (hk : env.scope.kind = .function) (hy : env.scope.names.lookup y = some .local) (hl : (py.line == pos.line) = true)
    (ha : (scope.names.any fun (n, k) => n == y && (k == .local || k == .cell)) = false) : swapsWith (.DictComp kx vx gs scope pos) (some (.Name y py)) l env = pure true := by
  have ky : env.kindOf y = some .local := hy
  have hb : env.blockKind = .function := by
    unfold Env.blockKind
    rw [hk]
    rfl
  unfold swapsWith
  simp only [hb, ky, ha, Expr.pos, hl]
  rfl
end
end SK
namespace SK
open PySem PySem.Spec PyProof.Rows L2 LamX NdefX
def top (i : Nat) : Stmt := PySem.Challenge.pw_lettertrees_k01_routines_refused.main.body.getD i (.Pass ⟨0, 0, 0, 0⟩)
theorem upd_new {p : Addr} {o : HO} {H : Hp} (n : H p = none) : Same H (upd H p o) := fun c u h => by
  rw [upd_ne (ne_of_none h n)]
  exact h
/-- a def of the top whose code object is known -/
structure FunT (K : PySem.W.Frag) (x qual : Str) (st : Stmt) (f : Addr) (fd : FuncData) (c : Addr) : Prop where
  ex : ∃ (oc : Value) (od : Option Addr) (kV doc pm : Value) (an : Option Addr) (ct : Value) (osl : Array (Option Value)),
    fd = PySem.W.fnOf x qual (defArgs st) (defBody st) (defScope st) .none kV doc pm an (.ref c) ct ∧ K.lookup f = some ⟨oc, od, .func fd, osl⟩ ∧ PySem.W.codeIn K (.ref c) qual = true
  kp : PySem.W.keepIn K (.ref f) = true
theorem FunT.ok {P : Program} {w : World} {K : PySem.W.Frag} {mg : Str → Option Value} {base : Heap} {x qual : Str} {st : Stmt} {f c : Addr} {fd : FuncData} {N ps : List Str} {k : Nat} {sp : Sp} (F : FunT K x qual st f fd c) (S : FnScope N ps (defScope st)) (len : ∀ vs H Q E, sp vs H Q E → vs.length = ps.length)
    (hbody : ∀ (A : Around) (outer : List Env) (s : Shared) (H : Hp) (vs : List V) (Q : VK) (E : XK), Room k (A.deeper (envOfC qual (defScope st) s.heap.objs.size f (.ref c))) → sp vs H Q E →
      ∃ t, PSs (cxOf CX0 P w K mg base N qual (defScope st) f (.ref c) A outer s H E).nox (defBody st) t ∧ t { nx := fun _ H' => Q .non H', rt := Q } (start N vs) H) : FnOk P w K mg base CX0 (k + 1) f fd ps sp := by
  obtain ⟨oc, od, kV, doc, pm, an, ct, osl, rfl, lk, hcd⟩ := F.ex
  refine fn_of lk hcd S len fun A outer s H vs Q E hr hsp => ?_
  obtain ⟨t, h, q⟩ := hbody A outer s H vs Q E hr hsp
  exact ⟨t, h.nox, q⟩
end SK
namespace SK
open PySem PySem.Spec PyProof.Rows L2 LamX NdefX
open K0 (De DeAll)
def isS : PyData → Bool
  | .str _ => true
  | _ => false
def isB : PyData → Bool
  | .bool _ => true
  | _ => false
def isTL : PyData → Bool
  | .tuple _ => true
  | .list _ => true
  | _ => false
def okW (ls : Str) : PyData → Bool
  | .str x => decide (x.cps.size ≤ 200) && x.cps.toList.all fun c => decide (c ∈ ls.cps.toList)
  | _ => false
def okR3 (ls : Str) : List PyData → Bool
  | [a, b, c] => okW ls a && (isB b && isB c)
  | _ => false
def okR (ls : Str) : PyData → Bool
  | .tuple ds => okR3 ls ds
  | .list ds => okR3 ls ds
  | _ => false
theorem ty_of {K : PySem.W.Frag} {H : Hp} {v : V} {d : PyData} (h : De K H v d) : ∃ T : String, TyX K H v (.type T) ∧ kitB T "str" = some (isS d) ∧ kitB T "bool" = some (isB d) ∧ ∃ t1 t2, kitB T "tuple" = some t1 ∧ kitB T "list" = some t2 ∧ (t1 || t2) = isTL d := by
  cases h with
  | non => exact ⟨"NoneType", .base .non, (by show kitB "NoneType" "str" = some false; decide +kernel), (by show kitB "NoneType" "bool" = some false; decide +kernel), false, false, by decide +kernel, by decide +kernel, rfl⟩
  | bl b => exact ⟨"bool", .base (.bl b), (by show kitB "bool" "str" = some false; decide +kernel), (by show kitB "bool" "bool" = some true; decide +kernel), false, false, by decide +kernel, by decide +kernel, rfl⟩
  | int i => exact ⟨"int", .base (.int i), (by show kitB "int" "str" = some false; decide +kernel), (by show kitB "int" "bool" = some false; decide +kernel), false, false, by decide +kernel, by decide +kernel, rfl⟩
  | str x => exact ⟨"str", .base (.str x), (by show kitB "str" "str" = some true; decide +kernel), (by show kitB "str" "bool" = some false; decide +kernel), false, false, by decide +kernel, by decide +kernel, rfl⟩
  | lst ha hd => exact ⟨"list", .base (.lst ha), (by show kitB "list" "str" = some false; decide +kernel), (by show kitB "list" "bool" = some false; decide +kernel), false, true, by decide +kernel, by decide +kernel, rfl⟩
  | tup ha hd => exact ⟨"tuple", .base (.tup ha), (by show kitB "tuple" "str" = some false; decide +kernel), (by show kitB "tuple" "bool" = some false; decide +kernel), true, false, by decide +kernel, by decide +kernel, rfl⟩
  | dic ha hl => exact ⟨"dict", .base (.dK ha), (by show kitB "dict" "str" = some false; decide +kernel), (by show kitB "dict" "bool" = some false; decide +kernel), false, false, by decide +kernel, by decide +kernel, rfl⟩
theorem kit_two {K : PySem.W.Frag} {T : String} {t1 t2 : Bool} (h1 : kitB T "tuple" = some t1) (h2 : kitB T "list" = some t2) : PySem.W.kitAny K (.type T) [.type "tuple", .type "list"] = some (t1 || t2) := by
  refine kitAny_cons (b := t1) (kit_ty h1) (fun e => ?_) (fun e => by rw [e]; rfl)
  rw [e, Bool.false_or]
  refine kitAny_cons (b := t2) (kit_ty h2) (fun e => ?_) (fun e => e)
  rw [e]
  exact kitAny_nil
end SK
namespace SK
open PySem PySem.Spec PyProof.Rows L2 LamX NdefX
open K0 (De DeAll)
mutual
theorem de_mono {K : PySem.W.Frag} {H H' : Hp} (m : ∀ b o, H b = some o → H' b = some o) : ∀ (d : PyData) (v : V), De K H v d → De K H' v d
  | .none, _, h => by
    cases h
    exact .non
  | .bool b, _, h => by
    cases h
    exact .bl b
  | .int i, _, h => by
    cases h
    exact .int i
  | .str x, _, h => by
    cases h
    exact .str x
  | .list ds, _, h => by
    cases h with
    | lst ha hd => exact .lst (m _ _ ha) (de_monoAll m ds _ hd)
  | .tuple ds, _, h => by
    cases h with
    | tup ha hd => exact .tup (m _ _ ha) (de_monoAll m ds _ hd)
  | .dict _, _, h => by
    cases h with
    | dic ha hl => exact .dic (m _ _ ha) hl
theorem de_monoAll {K : PySem.W.Frag} {H H' : Hp} (m : ∀ b o, H b = some o → H' b = some o) : ∀ (ds : List PyData) (vs : List V), DeAll K H vs ds → DeAll K H' vs ds
  | [], _, h => by
    cases h
    exact .nil
  | d :: ds, _, h => by
    cases h with
    | cons h1 h2 => exact .cons (de_mono m d _ h1) (de_monoAll m ds _ h2)
end

/-- no text in it is too long -/
def Fit (d : PyData) : Prop := ∀ ds, (d = .tuple ds ∨ d = .list ds) → ∀ x, PyData.str x ∈ ds → x.cps.size ≤ 1000
def spRow (K : PySem.W.Frag) : Sp := fun vs H Q _ => ∃ (ls : Str) (v : V) (d : PyData), vs = [.str ls, v] ∧ De K H v d ∧ Fit d ∧ ∀ H', Same H H' → Q (.bl (okR ls d)) H'
theorem deAll_len {K : PySem.W.Frag} {H : Hp} : ∀ {vs : List V} {ds : List PyData}, DeAll K H vs ds → vs.length = ds.length
  | _, _, .nil => rfl
  | _, _, .cons _ t => congrArg Nat.succ (deAll_len t)
end SK
namespace SK
open PySem PySem.Spec PyProof.Rows L2 LamX NdefX
open K0 (De DeAll XCl spX withX)
/-- what is told of an own exception class, by its name -/
structure XR (P : Program) (w : World) (K : PySem.W.Frag) (mg : Str → Option Value) (base : Heap) (x : Str) (C : Addr) (fs : List Str) : Prop where
  cl : XCl K C
  gC : mg x = some (.ref C)
  no : ∀ n ∈ fs, PySem.W.findIn K (.ref C) n = some none
  ini : ∃ f fd, PySem.W.findIn K (.ref C) "__init__" = some (some (.ref f)) ∧ PySem.W.typeIn K (.ref f) = some (.type "function") ∧ FnOk P w K mg base CX0 1 f fd (("self" : Str) :: fs) (spX C fs) ∧ Binds K fd (("self" : Str) :: fs) []
theorem withX_at {H : Hp} {a dx C : Addr} {gs : List (Str × V)} : withX H C a dx gs a = some (exo a C (some dx)) := upd_same
theorem withX_dx {H : Hp} {a dx C : Addr} {gs : List (Str × V)} (ne : dx ≠ a) : withX H C a dx gs dx = some (exd dx gs) := (upd_ne ne).trans upd_same
/-- the making of such an exception, read behind its arguments -/
theorem rd_mk {C : Addr} {fs : List Str} {vs : List V} {H1 : Hp} {Q : XK} (hl : vs.length = fs.length) (hz : vs.length ≤ 1000) (k : ∀ (d : Addr) (H' : Hp), Same H1 H' → H1 d = none → H' d = some (.xd (fs.zip vs).reverse) → Q (.ref C) (some d) H') :
    vs.length ≤ 1000 ∧ ∀ a, H1 a = none → spX C fs (.ref a :: (vs ++ [])) (upd H1 a (exo a C none))
      (fun v H2 => v = .non ∧ ∃ (d : Addr) (gs : List (Str × V)), H2 a = some (exo a C (some d)) ∧ H2 d = some (exd d gs) ∧ H1 d = none ∧ Q (.ref C) (some d) (upd (del H2 a) d (.xd gs))) (fun _ _ _ => False) := by
  refine ⟨hz, fun a na => ⟨a, vs ++ [], rfl, by rw [List.append_nil]; exact hl, upd_same, fun dx nd ne => ?_⟩⟩
  rw [upd_ne ne] at nd
  refine ⟨rfl, dx, _, withX_at, withX_dx ne, nd, k dx _ (fun b o e => ?_) nd ?_⟩
  · have n1 : b ≠ a := ne_of_none e na
    have n2 : b ≠ dx := ne_of_none e nd
    rw [upd_ne n2, del_ne n1]
    show upd (upd (upd H1 a _) dx _) a _ b = some o
    rw [upd_ne n1, upd_ne n2, upd_ne n1]
    exact e
  · rw [List.append_nil]
    exact upd_same
/-- what is wanted of an exception of the class C with the fields gs -/
def Thrown (E : XK) (C : Addr) (H : Hp) (gs : List (Str × V)) : Prop := ∀ (H' : Hp) (d : Addr), Same H H' → H d = none → H' d = some (.xd gs) → E (.ref C) (some d) H'
end SK
namespace SK
open PySem PySem.Spec PyProof.Rows L2 LamX NdefX
open K0 (De DeAll XCl spX withX)
def elems : PyData → List PyData
  | .tuple ds => ds
  | .list ds => ds
  | _ => []
theorem deAll_at {K : PySem.W.Frag} {H : Hp} : ∀ {xs : List V} {ds : List PyData}, DeAll K H xs ds → ∀ {i : Nat} {x : V}, xs[i]? = some x → ∃ d, ds[i]? = some d ∧ De K H x d
  | _, _, .nil, i, x, h => by simp at h
  | _, _, .cons h1 t, 0, x, h => by
    simp at h
    subst h
    exact ⟨_, rfl, h1⟩
  | _, _, .cons h1 t, i + 1, x, h => deAll_at t (by simpa using h)
end SK
namespace SK
open PySem PySem.Spec PyProof.Rows L2 LamX NdefX
abbrev Cl := Value × (Addr → Value → Option Addr → TS)
/-- what the clauses wish; i is the slot of their name -/
def wAsM (K : PySem.W.Frag) (Wout : WX) (i : Nat) (D : Ends) : List Cl → WX
  | [] => Wout
  | (c, ts) :: r => wAs K c i ts (wAsM K Wout i D r) D
inductive HdsAs (X : Cx) (n : Str) : List ExceptHandler → List Cl → Prop
  | nil : HdsAs X n [] []
  | cons {x : Str} {c : Value} {ts : Addr → Value → Option Addr → TS} {b₀ : Stmt} {suite : List Stmt} {np pos' : Pos} {hds : List ExceptHandler} {l : List Cl} (hc : Names X x c)
      (hsu : ∀ (a : Addr) (oe : Obj) (cls : Value) (d : Option Addr) (pn : List (Addr × Obj)), Zc cls d oe → (∃ vs, oe.data = .fields vs) → PSs (X.suite a ((a, oe) :: pn)) (b₀ :: suite) (ts a cls d)) (r : HdsAs X n hds l) :
      HdsAs X n (.ExceptHandler (some (.Name x np)) (some n) (b₀ :: suite) pos' :: hds) ((c, ts) :: l)
section
variable {X : Cx} {n : Str} {i : Nat} {body : List Stmt} {h₀ : ExceptHandler} {hds : List ExceptHandler} {l : List Cl} {pos : Pos} {tb : WX → TS} {Wout : WX}
theorem ps_try_asM (hs : X.stack = X.env :: X.outer) (hf : X.env.frame = some X.env.locals) (hN : X.N.Nodup) (hi : X.N[i]? = some n) (hln : X.env.kindOf n = some .local) (tk : Takes X Wout)
    (hb : ∀ (W : WX) (pn : List (Addr × Obj)) (xe : Value → Shared → Prop), Takes (X.tr pn xe) W → PassesOwn (model X.prog X.w) X.A X.env xe → PSs (X.tr pn xe) body (tb W))
    (hh : HdsAs X n (h₀ :: hds) l) : PS X (.Try body (h₀ :: hds) [] [] pos) (fun D σ H => tb (wAsM X.K Wout i D l) D σ H) := by
  refine ⟨fun pins s σ H D I h => ?_⟩
  have ok := I.ok
  have hfr : X.A.frames = some (X.env :: X.outer) := by rw [ok.frames, hs]
  have hloc : Loc X.env.scope n := .inl hln
  refine wpAny_Try_except ?_
  refine wpAny_mono ((hb (wAsM X.K Wout i D l) (X.pn ++ pins) (fun e s₁ => wpAny (model X.prog X.w) X.A (noteFrame e X.env) (fun _ s₂ => wpAny (model X.prog X.w) X.A (setFlight e none) (fun _ s₃ =>
    wpAny (model X.prog X.w) X.A (handleBy e X.env (h₀ :: hds)) (SP X pins D) X.xe s₃) X.xe s₂) X.xe s₁) (fun u s' xx => ?_) PassesOwn.looking).run [] s σ H D (I.toTry _) h) (fun f s1 hsp => ?_) (fun e s1 he => he)
  · obtain ⟨a, B, sI, pins', σ', H', cls, d, rfl, J', nb, up, sky, na, os, ag, w⟩ := xx
    have J : Inv X pins σ' H' sI := J'.ofTry ok
    have sky' : Sky B (X.env :: X.outer) a (Zc cls d) X.env.locals s'.heap := by rw [← hs]; exact sky
    show wpAny (model X.prog X.w) X.A (noteFrame (.ref a) X.env) _ _ _
    refine Sky.land Zc.steady hfr hf sky' fun h3 fl3 up3 => ?_
    have J3 : Inv X pins σ' H' { s' with heap := h3 } := J.landed nb fl3.1 (up.trans up3) os ag
    obtain ⟨oe3, vs3, he3, hz3, hd3⟩ := fl3.there
    have apart : ∀ {h : Heap} {o : Obj} {vs : Array Value}, h.FunFrames B (X.env :: X.outer) → h.get? a = some o → o.data = .fields vs → a ∉ frs (X.env :: X.outer) := fun {h o vs} ff e dd hm => by
      obtain ⟨_, o', e', hnf⟩ := ff.mem hm
      rw [e] at e'
      cases e'
      exact hnf _ dd
    have nfr := apart fl3.2.2.1 he3 hd3
    have nL : a ≠ X.env.locals := fun z => nfr (List.mem_filterMap.mpr ⟨X.env, List.mem_cons_self, by rw [hf, z]⟩)
    have nF : a ∉ X.fs := fun hm => by
      obtain ⟨e, he, q⟩ := List.mem_filterMap.mp hm
      exact nfr (List.mem_filterMap.mpr ⟨e, List.mem_cons_of_mem _ he, q⟩)
    have S3 := J3.suite he3 hd3 na nL nF
    have go : ∀ {hds' : List ExceptHandler} {l' : List Cl}, HdsAs X n hds' l' → wAsM X.K Wout i D l' cls d σ' H' → wpAny (model X.prog X.w) X.A (handleBy (.ref a) X.env hds') (SP X pins D) X.xe { s' with heap := h3 } := by
      intro hds' l' hk
      induction hk with
      | nil =>
        intro w
        refine wpAny_handleBy_nil ?_
        obtain ⟨k1, k2, k3, oe, vs, T, oT, ts', he, hz, hd, h1, hr⟩ := id fl3
        unfold PySem.passOn
        refine wpAny_bind (wpAny_field he hd h1 ?_)
        rw [if_neg (show ¬ ((Value.ref T == Value.none) = true) from by simp)]
        have fin : wpAny (model X.prog X.w) X.A (setFlight (.ref a) X.env.frame) (fun _ s4 => wpAny (model X.prog X.w) X.A (throw (.ref a) : Sem Flow) (SP X pins D) X.xe s4) X.xe { s' with heap := h3 } := by
          rw [hf]
          refine HandSPX.setFlight_upZ fl3 fun h4 hh4 up4 => wpAny_throw (tk _ _ ?_)
          exact ⟨a, B, sI, pins, σ', H', cls, d, rfl, J, nb, (up.trans up3).trans up4, .inr (.inr (by rw [hs]; exact hh4)), na, os, ag, w⟩
        first
          | exact wpAny_bind (wpAny_pure (wpAny_bind fin))
          | exact wpAny_bind fin
      | @cons x c ts b₀ suite np pos' hds2 l2 hc hsu r ih =>
        intro w
        obtain ⟨b, hb1, hyes, hno⟩ := w
        refine wpAny_handleBy_cons (codeAny_handlers_test ?_) (by intro q; cases q)
        have LT : PySem.W.Looks (model X.prog X.w) h3 (typeOf (.ref a)) cls := fun A Q E s k q => wpAny_typeOf_ref (k _ _ he3) (by rw [hz3.1]; exact q)
        have LM := PySem.W.exm_one (M := model X.prog X.w) (J3.kIn) LT hb1
        have test : ∀ {Q : Value → Shared → Prop} {E : Value → Shared → Prop}, Q c { s' with heap := h3 } → wpAny (model X.prog X.w) (X.A.mark (some (.ref a))) (eval (.Name x np) X.env) Q E { s' with heap := h3 } := fun {Q E} q => by
          obtain ⟨hg, hdbg, hm | ⟨hm, hv, hnn⟩⟩ := hc
          · exact ld_glob (X := X.suite a ((a, oe3) :: (X.pn ++ pins))) S3 hg hm q hdbg
          · exact ld_blt (X := X.suite a ((a, oe3) :: (X.pn ++ pins))) S3 hg hm hv q hnn hdbg
        refine test (LM.here ?_)
        cases b with
        | true =>
          refine codeAny_handlers_suite_as ?_
          refine HandSPX.lands_againZ fl3 fun h4 fl4 up4 => ?_
          have J4 : Inv X pins σ' H' { s' with heap := h4 } := J.landed nb fl4.1 ((up.trans up3).trans up4) os ag
          obtain ⟨oe4, vs4, he4, hz4, hd4⟩ := fl4.there
          have S4 := J4.suite he4 hd4 na nL nF
          refine store_ok (X := X.suite a ((a, oe4) :: (X.pn ++ pins))) (v := .ref a) S4 hN hi hloc rfl (fun s5 S5 => ?_) (.inr hln)
          refine wpAny_mono ((hsu a oe4 cls d (X.pn ++ pins) hz4 ⟨_, hd4⟩).run [] s5 _ H' _ S5 (hyes rfl a na)) (fun f s6 hsp => ?_) (fun _ _ z => False.elim z)
          have ends : ∀ {σ6 : St} {H6 : Hp} {Q : Shared → Prop}, Inv (X.suite a ((a, oe4) :: (X.pn ++ pins))) [] σ6 H6 s6 → (∀ s7, Inv X pins (σ6.set i none) H6 s7 → Q s7) →
              wpAny (model X.prog X.w) X.A (do bindName X.env n .none; unbindBehindTheSuite X.env n pos') (fun _ s7 => Q s7) X.xe s6 := fun {σ6 H6 Q} S6 hq => gone_ok (S6.unsuite ok) hN hi hln hq
          cases f with
          | next =>
            obtain ⟨σ6, H6, S6, q6⟩ := hsp
            exact ends S6 fun s7 J7 => ⟨_, _, J7, q6⟩
          | brk =>
            obtain ⟨σ6, H6, S6, q6⟩ := hsp
            exact ends S6 fun s7 J7 => ⟨_, _, J7, q6⟩
          | cont =>
            obtain ⟨σ6, H6, S6, q6⟩ := hsp
            exact ends S6 fun s7 J7 => ⟨_, _, J7, q6⟩
          | ret u =>
            obtain ⟨v6, σ6, H6, S6, r6, q6⟩ := hsp
            exact ends S6 fun s7 J7 => ⟨_, _, _, J7, r6, q6⟩
        | false =>
          show wpAny _ X.A (handleBy (.ref a) X.env hds2) _ _ _
          exact ih (hno rfl)
    exact go hh w
  · cases f with
    | next =>
      obtain ⟨σ', H', J', q⟩ := hsp
      exact wpAny_execs_nil ⟨σ', H', J'.ofTry ok, q⟩
    | brk =>
      obtain ⟨σ', H', J', q⟩ := hsp
      exact ⟨σ', H', J'.ofTry ok, q⟩
    | cont =>
      obtain ⟨σ', H', J', q⟩ := hsp
      exact ⟨σ', H', J'.ofTry ok, q⟩
    | ret u =>
      obtain ⟨v, σ', H', J', r, q⟩ := hsp
      exact ⟨v, σ', H', J'.ofTry ok, r, q⟩
end
/-- isinstance(e, c), e the exception that the suite holds, with fields -/
def rIsD (K : PySem.W.Frag) (a : Addr) (cls : Value) (d : Option Addr) : List V → Hp → VK → Prop := fun xs H Q => ∃ (D dx : Addr) (fs : List (Str × V)), cls = .ref D ∧ d = some dx ∧ ExcC K D ∧ H dx = some (.xd fs) ∧ rIsE K D a xs H Q
theorem call_isD {X : Cx} {a : Addr} {cls : Value} {d : Option Addr} {oe : Obj} {pn : List (Addr × Obj)} (hz : Zc cls d oe) (hf : ∃ vs, oe.data = .fields vs) : CallR (X.suite a ((a, oe) :: pn)) (.builtin "isinstance") (rIsD X.K a cls d) := by
  intro pins s σ H xs us Q I r h
  obtain ⟨D, dx, fs, rfl, rfl, C, hdx, c, cv, b, rfl, hcv, e, q⟩ := h
  obtain ⟨u1, u2, rfl, r1, r2⟩ := vals2 r
  obtain rfl : u1 = Value.ref a := r1
  obtain rfl := hcv _ r2
  obtain ⟨hget, _⟩ := I.pin (a, oe) (List.mem_append.mpr (.inl List.mem_cons_self))
  obtain ⟨vs, hv⟩ := hf
  have hx : ObjOk X.prog X.w H s.heap dx (.xd fs) := I.hok dx _ hdx
  obtain ⟨mA, hns, hr⟩ := hx
  obtain ⟨od, ho, hl⟩ := lookIn_ns hns
  have J : PySem.W.InstAt s.heap a oe D (some od) := ⟨hget, hz.1, by unfold PySem.W.notCls; rw [hv] <;> rfl, by rw [hz.2]; exact ho⟩
  have hc : (PySem.W.clsIn X.K D).isSome = true := by
    obtain ⟨cd, hcd, _⟩ := PySem.W.any_some C.hd
    rw [hcd]
    rfl
  exact PySem.W.kia_one (PySem.W.kitx_exc (ox := oe) (od := some od) hc C.hg C.hk C.hs C.ha C.hn C.ht C.hm) I.kIn J e (fun z => nomatch z) fun tk => ⟨.bl b, H, I.kept (t' := tk) fun _ _ z => z, rfl, q⟩
end SK
namespace SK
open PySem PySem.Spec PyProof.Rows L2 LamX NdefX
open K0 (De DeAll XCl spX withX)
structure FnG (P : Program) (w : World) (K : PySem.W.Frag) (mg : Str → Option Value) (base : Heap) (CX : CXT) (k : Nat) (f : Addr) (fd : FuncData) (ps : List Str) (sp : Sp) : Prop where
  len : ∀ vs H Q E, sp vs H Q E → vs.length = ps.length
  run : ∀ (A : Around) (outer : List Env) (s : Shared) (H : Hp) (args : Args) (us : List Value) (vs : List V) (Q : VK) (E : XK), A.guards = some [] → Room k A → Env0 P w K mg base A outer s H → BindsTo s fd args (ps.zip us) → Vals vs us → sp vs H Q E →
    codeAny (model P w) A (.call (.ref f) args) (CR CX outer P w H s Q E) s
theorem FnG.ok {P : Program} {w : World} {K : PySem.W.Frag} {mg : Str → Option Value} {base : Heap} {x qual : Str} {st : Stmt} {f : Addr} {fd : FuncData} {N ps : List Str} {k : Nat} {sp : Sp} (F : Fun K x qual st f fd) (S : FnScope N ps (defScope st)) (len : ∀ vs H Q E, sp vs H Q E → vs.length = ps.length)
    (hbody : ∀ (cdv : Value) (A : Around) (outer : List Env) (s : Shared) (H : Hp) (vs : List V) (Q : VK) (E : XK), (A.deeper (envOfC qual (defScope st) s.heap.objs.size f cdv)).guards = some [] → Room k (A.deeper (envOfC qual (defScope st) s.heap.objs.size f cdv)) → sp vs H Q E →
      ∃ t, PSs (cxOf CX0 P w K mg base N qual (defScope st) f cdv A outer s H E).nox (defBody st) t ∧ t { nx := fun _ H' => Q .non H', rt := Q } (start N vs) H) : FnG P w K mg base CX0 (k + 1) f fd ps sp := by
  obtain ⟨oc, od, kV, doc, pm, an, cdv, ct, osl, rfl, lk, hcd⟩ := F.ex
  refine ⟨len, fun A outer s H args us vs Q E hg hr e0 hb r hsp => run_ofS lk hcd S hr e0 hb r (len _ _ _ _ hsp) fun hr' => ?_⟩
  obtain ⟨t, h, q⟩ := hbody cdv A outer s H vs Q E hg hr' hsp
  exact ⟨t, h.nox, q⟩
def tCallG (sp : Sp) (E : XK) (t : TA) : TE := fun σ H Q => t σ H fun vs H1 => sp vs H1 Q E
section
variable {X : Cx} {CX : CXT} {k : Nat} {f C : Addr} {fd : FuncData} {ps : List Str} {ds : List Value} {dvs : List V} {sp : Sp} {E : XK} {x : Str} {p pos : Pos} {e : Expr} {es : List Expr} {t : TA}
theorem run_fnG {pins : List (Addr × Obj)} {σ : St} {H : Hp} {s : Shared} {Q : VK} {us : List Value} {vs : List V} (F : FnG X.prog X.w X.K X.mg X.base CX k f fd ps sp) (hgd : X.A.guards = some []) (hr : Room k X.A) (hb : Binds X.K fd ps []) (hx : Passes CX X E) (I : Inv X pins σ H s) (r : Vals vs us)
    (h : sp vs H Q E) : wpAny (model X.prog X.w) X.A (call (.ref f) us) (EP X pins σ Q) X.xe s := by
  have hl : us.length = ps.length := by
    rw [← r.length]
    exact F.len _ _ _ _ h
  have b := hb s us I.kIn (by rw [List.append_nil]; exact hl)
  rw [List.append_nil] at b
  refine wpAny_call (codeAny_mono (F.run X.A X.stack s H ⟨us, []⟩ us vs Q E hgd hr I.env0 b r h) fun r s' hq => ?_)
  cases r with
  | error e => exact hx pins σ H s e s' I hq
  | ok fl =>
    cases fl with
    | ret u => exact I.after hq
    | next => exact False.elim hq
    | brk => exact False.elim hq
    | cont => exact False.elim hq
theorem pe_callG (F : FnG X.prog X.w X.K X.mg X.base CX k f fd ps sp) (hgd : X.A.guards = some []) (hr : Room k X.A) (hg : Gl X x) (hm : X.mg x = some (.ref f)) (hk : PySem.W.keepIn X.K (.ref f) = true) (hb : Binds X.K fd ps []) (hx : Passes CX X E)
    (ha : PA X (e :: es) t) (hdb : (x == ("__debug__" : Str)) = false := by decide) (he : starEach (e :: es) X.env = (false, eval e X.env) :: starEach es X.env := by rfl) (hpl : (backTo pos (starEach es X.env)).any (·.1) = false := by rfl) :
    PE X (.Call (.Name x p) (e :: es) [] pos) (tCallG sp E t) := by
  refine ⟨fun pins s σ H Q I h => ?_⟩
  refine wpAny_Call_Name_kw (ld_glob I hg hm ?_ hdb)
  refine PySem.W.callWith_K (h₀ := X.base) I.ok.mod.kin hk (thn (ha.run pos pins s σ H _ I h) fun us s1 ⟨vs, H1, I1, r, q⟩ => ⟨I1.kIn, ?_⟩) he hpl
  exact run_fnG F hgd hr hb hx I1 r q
/-- C(..), what is raised wished for at the caller's slots -/
def tMakeS (C : Addr) (sp : Sp) (E : St → XK) (t : TA) : TE := fun σ H Q => t σ H fun vs H1 => ∀ x dx, H1 x = none → H1 dx = none → dx ≠ x → sp (.ref x :: vs) (upd (upd H1 dx (.own x)) x (.ins C dx [])) (fun v H2 => v = .non ∧ Q (.ref x) H2) (E σ)
theorem pe_makeS {E : St → XK} (M : Mk X.K C f) (F : FnOk X.prog X.w X.K X.mg X.base CX k f fd ps sp) (hr : Room (k + 1) X.A) (hg : Gl X x) (hm : X.mg x = some (.ref C)) (hb : Binds X.K fd ps []) (hx : ∀ σ, PassesAt CX X σ (E σ)) (ha : PA X (e :: es) t)
    (hdb : (x == ("__debug__" : Str)) = false := by decide) (he : starEach (e :: es) X.env = (false, eval e X.env) :: starEach es X.env := by rfl) (hpl : (backTo pos (starEach es X.env)).any (·.1) = false := by rfl) :
    PE X (.Call (.Name x p) (e :: es) [] pos) (tMakeS C sp E t) := by
  refine ⟨fun pins s σ H Q I h => ?_⟩
  refine wpAny_Call_Name_kw (ld_glob I hg hm ?_ hdb)
  refine PySem.W.callWith_K (h₀ := X.base) I.ok.mod.kin M.kp (thn (ha.run pos pins s σ H _ I h) fun us s1 ⟨vs, H1, I1, r, q⟩ => ⟨I1.kIn, ?_⟩) he hpl
  have hq := q (s1.heap.objs.size + 1) s1.heap.objs.size (I1.hok.fresh (Nat.le_succ _)) (I1.hok.fresh (Nat.le_refl _)) (Nat.ne_of_lt (Nat.lt_succ_self _))
  have I2 := Inv.made (C := C) I1
  have r2 : Vals (V.ref (s1.heap.objs.size + 1) :: vs) (Value.ref (s1.heap.objs.size + 1) :: us) := .cons rfl r
  have hl : (Value.ref (s1.heap.objs.size + 1) :: us).length = ps.length := by
    have z := r2.length
    rw [F.len _ _ _ _ hq] at z
    exact z.symm
  have b := hb _ (Value.ref (s1.heap.objs.size + 1) :: us) I2.kIn (by rw [List.append_nil]; exact hl)
  rw [List.append_nil] at b
  show wpAny _ _ (call (.ref C) us) _ _ _
  refine wpAny_call (make_map (f := f) I1.kIn M.makes M.init (beq_iff_eq.mp M.fn) (codeAny_mono (F.run _ X.stack _ _ ⟨Value.ref (s1.heap.objs.size + 1) :: us, []⟩ (Value.ref (s1.heap.objs.size + 1) :: us) _ _ (E σ) (hr.make C us [])
    (I2.env0.make C us []) b r2 hq) fun r s' hq' => ?_))
  cases r with
  | error er => exact hx σ pins _ _ er s' I2 hq'
  | ok fl =>
    cases fl with
    | ret u =>
      obtain ⟨v, H', I3, rv, ev, q3⟩ := I2.after hq'
      subst ev
      exact ⟨rv, ⟨V.ref (s1.heap.objs.size + 1), H', I3, rfl, q3⟩⟩
    | next => exact False.elim hq'
    | brk => exact False.elim hq'
    | cont => exact False.elim hq'
/-- repr(x), x any data -/
def rRepD (K : PySem.W.Frag) : List V → Hp → VK → Prop := fun xs H Q => ∃ (v : V) (d : PyData), xs = [v] ∧ De K H v d ∧ d.canLay0 = true ∧ d.showable = true ∧ d.depth ≤ 8 ∧ d.shown.length ≤ sizeLine ∧ Q (.str d.shown) H
theorem call_repD (hg : X.A.guards = some []) (hu : X.A.units + 64 < cLine) (hsys : ∃ o, X.K.lookup sysModules = some o) : CallR X (.builtin "repr") (rRepD X.K) := by
  intro pins s σ H xs us Q I r h
  obtain ⟨v, d, rfl, hd, hcl, hsh, hdp, hz, q⟩ := h
  cases hd with
  | non =>
    obtain ⟨u, rfl, ru⟩ := vals1 r
    obtain rfl : u = Value.none := ru
    exact PySem.P.repr_of_none ⟨.str _, H, I.tok _, ⟨_, rfl⟩, q⟩
  | bl b =>
    obtain ⟨u, rfl, ru⟩ := vals1 r
    obtain rfl : u = Value.bool b := ru
    exact PySem.P.repr_of_bool ⟨.str _, H, I.tok _, ⟨_, rfl⟩, by cases b <;> exact q⟩
  | int i =>
    obtain ⟨u, rfl, t, rfl⟩ := vals1 r
    refine PySem.P.repr_of_int (by simpa [PyData.showable] using hsh) ⟨.str _, H, I.tok _, ⟨_, rfl⟩, q⟩
  | str x =>
    obtain ⟨u, rfl, t, rfl⟩ := vals1 r
    exact PySem.P.repr_of_str ⟨.str _, H, I.tok _, ⟨_, rfl⟩, q⟩ hz
  | @lst a vs ds ha hds => exact K0.call_rep hg hu hsys pins s σ H _ us Q I r ⟨a, _, rfl, .lst ha hds, hcl, hsh, hdp, hz, q⟩
  | @tup a vs ds ha hds => exact K0.call_rep hg hu hsys pins s σ H _ us Q I r ⟨a, _, rfl, .tup ha hds, hcl, hsh, hdp, hz, q⟩
  | @dic a kv ha hl =>
    simp only [PyData.canLay0] at hcl
    cases hcl
end
end SK
namespace SK
open PySem PySem.Spec PyProof.Rows L2 LamX NdefX
open K0 (De DeAll XCl spX withX)
theorem xf_of {K : PySem.W.Frag} {C : Addr} (c : XCl K C) : XfC K C := ⟨c.ga, c.gg, c.T.exC, c.hd⟩
theorem ec_of {K : PySem.W.Frag} {C : Addr} (c : XCl K C) : ExcC K C := ⟨c.ga, c.gg, c.T.exC, c.hd, c.ha, c.hn, c.ht, c.hm⟩
end SK
namespace SK
open PySem PySem.Spec PyProof.Rows L2 LamX NdefX
open K0 (De DeAll XCl spX withX)
theorem IxR.or {X : Cx} {r1 r2 : R2} (h1 : IxR X r1) (h2 : IxR X r2) : IxR X (fun x y H Q => r1 x y H Q ∨ r2 x y H Q) := by
  intro value slice pins s σ H x y v u Q I rx ry h hs
  rcases h with h | h
  · exact h1 value slice pins s σ H x y v u Q I rx ry h hs
  · exact h2 value slice pins s σ H x y v u Q I rx ry h hs
theorem CallR.or {X : Cx} {f : Value} {r1 r2 : List V → Hp → VK → Prop} (h1 : CallR X f r1) (h2 : CallR X f r2) : CallR X f (fun xs H Q => r1 xs H Q ∨ r2 xs H Q) := by
  intro pins s σ H xs us Q I r h
  rcases h with h | h
  · exact h1 pins s σ H xs us Q I r h
  · exact h2 pins s σ H xs us Q I r h
/-- a list or a text, and what stands in it -/
def Items (H : Hp) (v : V) (xs : List V) : Prop := (∃ a, v = .ref a ∧ H a = some (.lst xs)) ∨ ∃ z : Str, v = .str z ∧ xs = z.cps.toList.map fun c => V.str ⟨#[c]⟩
end SK
namespace SK
open PySem PySem.Spec PyProof.Rows L2 LamX NdefX
open K0 (De DeAll XCl spX withX)
theorem seq_ix {d : Int} {j n : Nat} (h : d = (j : Int)) (hj : j < n) : seqIndex? d n = some j := by
  subst h
  unfold seqIndex?
  have h1 : ¬ ((j : Int) < 0) := by omega
  have h2 : (j : Int) < (n : Int) := by omega
  simp [h1, h2, hj]
end SK
namespace SK
open PySem PySem.Spec PyProof.Rows L2 LamX NdefX
open K0 (De DeAll XCl spX withX)
theorem Same.seqT {K : PySem.W.Frag} {H H' : Hp} {a : Addr} {xs : List V} (s : Same H H') (h : SqT K H a xs) : SqT K H' a xs := by
  rcases h with (h | ⟨o, h⟩) | h
  · exact .inl (.inl (s _ _ h))
  · exact .inl (.inr ⟨o, s _ _ h⟩)
  · exact .inr h
section
variable {K : PySem.W.Frag} {a : Addr} {xs : List V} {g : TG} {tt : TT} {te : TE} {vs : List Nat} {σ : St} {H1 : Hp} {D : Addr} {Qd : Hp → Prop}
/-- what is asked of one turn -/
def TurnF (g : TG) (tt : TT) (te : TE) (vs : List Nat) (σ : St) (x y : V) (b : Bool) (H : Hp) : Prop :=
  ∀ (A : V → Hp → Prop) (B : Hp → Prop), (b = true → A y H) → (b = false → B H) → g x (wipe σ vs) H fun σ2 H2 => wipe σ2 vs = wipe σ vs ∧ tt σ2 H2 fun b H3 => if b = true then te σ2 H3 A else B H3
theorem same_new (nD : H1 D = none) {o : HO} : Same H1 (upd H1 D o) := fun c u h => by
  rw [upd_ne (ne_of_none h nD)]
  exact h
theorem same_upd {H : Hp} (nD : H1 D = none) {o : HO} (s : Same H1 H) : Same H1 (upd H D o) := fun c u h => by
  rw [upd_ne (ne_of_none h nD)]
  exact s _ _ h
theorem take_snoc {α : Type} {l : List α} {i : Nat} {x : α} (h : l[i]? = some x) : l.take (i + 1) = l.take i ++ [x] := by
  rw [List.take_add_one, h]
  rfl
theorem filt_snoc {α : Type} {ws : List α} {f : α → V} {c : α → Bool} {i : Nat} {x : α} (h : ws[i]? = some x) : ((ws.take (i + 1)).filter c).map f = ((ws.take i).filter c).map f ++ (if c x = true then [f x] else []) := by
  rw [take_snoc h, List.filter_append, List.map_append]
  by_cases hc : c x = true
  · rw [if_pos hc, List.filter_cons_of_pos hc]
    rfl
  · rw [if_neg hc, List.filter_cons_of_neg hc]
    rfl
theorem filt_len {α : Type} {ws : List α} {f : α → V} {c : α → Bool} {i : Nat} : (((ws.take i).filter c).map f).length ≤ ws.length := by
  rw [List.length_map]
  exact Nat.le_trans (List.length_filter_le _ _) (by rw [List.length_take]; omega)
theorem map_at {α : Type} {enc : α → V} {ws : List α} {i : Nat} {x : V} (h : (ws.map enc)[i]? = some x) : ∃ y, ws[i]? = some y ∧ x = enc y := by
  rw [List.getElem?_map] at h
  cases e : ws[i]? with
  | none =>
    rw [e] at h
    cases h
  | some y =>
    rw [e] at h
    exact ⟨y, rfl, (Option.some.inj h).symm⟩
theorem lcF_list {α : Type} {ws : List α} (enc : α → V) (nD : H1 D = none) (f : α → V) (c : α → Bool) (hS : SqL K H1 a (ws.map enc)) (hz : ws.length < sizeLine) (step : ∀ (i : Nat) (x : α) (H : Hp), ws[i]? = some x → Same H1 H → TurnF g tt te vs σ (enc x) (f x) (c x) H)
    (fin : ∀ H, Same H1 H → H D = some (.lst ((ws.filter c).map f)) → Qd H) :
    ∃ W : Nat → Nat → Hp → Prop, (∃ m, W 0 m (upd H1 D (.lst []))) ∧ ∀ i m H, W i m H →
      ((Itl K a).stop i H ∧ Qd H) ∨ ((Itl K a).go i H ∧ ∃ Nx : Hp → Prop, (∀ H', Nx H' → ∃ m', m' < m ∧ W (i + 1) m' H') ∧ ∀ x H', (Itl K a).yld i H x H' → g x (wipe σ vs) H' fun σ2 H2 => wipe σ2 vs = wipe σ vs ∧ tt σ2 H2 fun b H3 =>
        if b = true then te σ2 H3 fun y H4 => ∃ acc, H4 D = some (.lst acc) ∧ acc.length < sizeLine ∧ Nx (upd H4 D (.lst (acc ++ [y]))) else Nx H3) := by
  refine lc_list (K := K) (a := a) (xs := ws.map enc) (fun i H => Same H1 H ∧ H D = some (.lst (((ws.take i).filter c).map f))) ⟨same_new nD, upd_same⟩ (fun i H _ p => Same.seq p.1 hS) (fun i x H hx p => ?_) fun H p => fin H p.1 (by rw [List.length_map, List.take_length] at p; exact p.2)
  obtain ⟨s, hD⟩ := p
  obtain ⟨y, hy, rfl⟩ := map_at hx
  refine step i y H hy s _ _ (fun hc => ⟨_, hD, Nat.lt_of_le_of_lt filt_len hz, same_upd nD s, ?_⟩) fun hc => ⟨s, ?_⟩
  · rw [filt_snoc hy, if_pos hc]
    exact upd_same
  · rw [filt_snoc hy, if_neg (by rw [hc]; simp), List.append_nil]
    exact hD
theorem lcF_tup {α : Type} {ws : List α} (enc : α → V) (nD : H1 D = none) (f : α → V) (c : α → Bool) (hS : SqT K H1 a (ws.map enc)) (hz : ws.length < sizeLine) (step : ∀ (i : Nat) (x : α) (H : Hp), ws[i]? = some x → Same H1 H → TurnF g tt te vs σ (enc x) (f x) (c x) H)
    (fin : ∀ H, Same H1 H → H D = some (.lst ((ws.filter c).map f)) → Qd H) :
    ∃ W : Nat → Nat → Hp → Prop, (∃ m, W 0 m (upd H1 D (.lst []))) ∧ ∀ i m H, W i m H →
      ((Itt K a).stop i H ∧ Qd H) ∨ ((Itt K a).go i H ∧ ∃ Nx : Hp → Prop, (∀ H', Nx H' → ∃ m', m' < m ∧ W (i + 1) m' H') ∧ ∀ x H', (Itt K a).yld i H x H' → g x (wipe σ vs) H' fun σ2 H2 => wipe σ2 vs = wipe σ vs ∧ tt σ2 H2 fun b H3 =>
        if b = true then te σ2 H3 fun y H4 => ∃ acc, H4 D = some (.lst acc) ∧ acc.length < sizeLine ∧ Nx (upd H4 D (.lst (acc ++ [y]))) else Nx H3) := by
  refine lc_tup (K := K) (a := a) (xs := ws.map enc) (fun i H => Same H1 H ∧ H D = some (.lst (((ws.take i).filter c).map f))) ⟨same_new nD, upd_same⟩ (fun i H _ p => SK.Same.seqT p.1 hS) (fun i x H hx p => ?_) fun H p => fin H p.1 (by rw [List.length_map, List.take_length] at p; exact p.2)
  obtain ⟨s, hD⟩ := p
  obtain ⟨y, hy, rfl⟩ := map_at hx
  refine step i y H hy s _ _ (fun hc => ⟨_, hD, Nat.lt_of_le_of_lt filt_len hz, same_upd nD s, ?_⟩) fun hc => ⟨s, ?_⟩
  · rw [filt_snoc hy, if_pos hc]
    exact upd_same
  · rw [filt_snoc hy, if_neg (by rw [hc]; simp), List.append_nil]
    exact hD
end
end SK
namespace SK
open PySem PySem.Spec PyProof.Rows L2 LamX NdefX
open K0 (De DeAll XCl spX withX)
theorem neT {p : Prop} {A B : Prop} [inst : Decidable p] (h : p) (k : B) : if (!decide p) = true then A else B := by
  rw [decide_eq_true h]
  exact iteF k
end SK
namespace SK
open PySem PySem.Spec PyProof.Rows L2 LamX NdefX
open K0 (De DeAll XCl spX withX)
def Al (K : PySem.W.Frag) (H0 : Hp) (σ : St) (te : TE) (d : PyData) : Prop := ∀ (H : Hp) (R : VK), Same H0 H → (∀ H' v, Same H H' → De K H' v d → R v H') → te σ H R
def AlAll (K : PySem.W.Frag) (H0 : Hp) (σ : St) (ta : TA) (ds : List PyData) : Prop := ∀ (H : Hp) (R : List V → Hp → Prop), Same H0 H → (∀ H' vs, Same H H' → DeAll K H' vs ds → R vs H') → ta σ H R
section
variable {K : PySem.W.Frag} {H0 : Hp} {σ : St}
theorem al_non : Al K H0 σ (tC .non) .none := fun H R _ k => k H _ (Same.refl _) .non
theorem al_bl {b : Bool} : Al K H0 σ (tC (.bl b)) (.bool b) := fun H R _ k => k H _ (Same.refl _) (.bl b)
theorem al_int {i : Int} : Al K H0 σ (tC (.int i)) (.int i) := fun H R _ k => k H _ (Same.refl _) (.int i)
theorem al_str {x : Str} : Al K H0 σ (tC (.str x)) (.str x) := fun H R _ k => k H _ (Same.refl _) (.str x)
theorem al_var {i : Nat} {v : V} {d : PyData} (h : σ[i]? = some (some v)) (hd : De K H0 v d) : Al K H0 σ (tVar i) d := fun H R s k => ⟨v, h, k H v (Same.refl _) (de_mono s _ _ hd)⟩
theorem al_nil : AlAll K H0 σ tNil [] := fun H R s k => k H [] (Same.refl _) .nil
theorem al_cons {te : TE} {ta : TA} {d : PyData} {ds : List PyData} (h1 : Al K H0 σ te d) (h2 : AlAll K H0 σ ta ds) : AlAll K H0 σ (tCons te ta) (d :: ds) := fun H R s k => by
  refine h1 H _ s fun H1 v s1 hd => ?_
  exact h2 H1 _ (s.trans s1) fun H2 vs s2 hds => k H2 (v :: vs) (s1.trans s2) (.cons (de_mono s2 _ _ hd) hds)
theorem al_tup {ta : TA} {ds : List PyData} (h : AlAll K H0 σ ta ds) (hz : ds.length ≤ 1000) : Al K H0 σ (tTup ta) (.tuple ds) := fun H R s k => by
  refine h H _ s fun H1 vs s1 hds => ⟨?_, fun p np => ?_⟩
  · rw [deAll_len hds]
    exact Nat.le_trans hz (by decide)
  · exact k _ _ (s1.trans (upd_new np)) (.tup upd_same (de_monoAll (upd_new np) _ _ hds))
theorem al_lst {ta : TA} {ds : List PyData} (h : AlAll K H0 σ ta ds) (hz : ds.length ≤ 1000) : Al K H0 σ (tLst ta) (.list ds) := fun H R s k => by
  refine h H _ s fun H1 vs s1 hds => ⟨?_, fun p np => ?_⟩
  · rw [deAll_len hds]
    exact Nat.le_trans hz (by decide)
  · exact k _ _ (s1.trans (upd_new np)) (.lst upd_same (de_monoAll (upd_new np) _ _ hds))
theorem deAll_app {H : Hp} : ∀ {xs ys : List V} {ds es : List PyData}, DeAll K H xs ds → DeAll K H ys es → DeAll K H (xs ++ ys) (ds ++ es)
  | _, _, _, _, .nil, h => h
  | _, _, _, _, .cons h t, h2 => .cons h (deAll_app t h2)
theorem al_cat {t1 t2 : TE} {ds es : List PyData} (h1 : Al K H0 σ t1 (.list ds)) (h2 : Al K H0 σ t2 (.list es)) (hz : ds.length + es.length ≤ 1000) : Al K H0 σ (tOp rCat t1 t2) (.list (ds ++ es)) := fun H R s k => by
  refine h1 H _ s fun H1 v s1 hd => ?_
  refine h2 H1 _ (s.trans s1) fun H2 u s2 he => ?_
  cases de_mono s2 _ _ hd with
  | @lst a xs _ ha hx =>
    cases he with
    | @lst b ys _ hb hy =>
      refine ⟨a, b, xs, ys, rfl, rfl, ha, hb, ?_, fun p np => ?_⟩
      · rw [deAll_len hx, deAll_len hy]
        exact Nat.le_trans hz (by decide)
      · exact k _ _ ((s1.trans s2).trans (upd_new np)) (.lst upd_same (de_monoAll (upd_new np) _ _ (deAll_app hx hy)))
end
theorem deAll_mem {K : PySem.W.Frag} {H : Hp} {y : V} : ∀ {xs : List V} {ds : List PyData}, DeAll K H xs ds → y ∈ xs → ∃ d ∈ ds, De K H y d
  | _, _, .nil, h => absurd h (by simp)
  | _, _, .cons h t, hm => by
    rcases List.mem_cons.mp hm with rfl | hm
    · exact ⟨_, by simp, h⟩
    · obtain ⟨d, hd, he⟩ := deAll_mem t hm
      exact ⟨d, List.mem_cons_of_mem _ hd, he⟩
end SK
namespace SK
open PySem PySem.Spec PyProof.Rows L2 LamX NdefX
open K0 (De DeAll XCl spX withX)
def rInD (K : PySem.W.Frag) (neg : Bool) : R2 := fun x y H Q => ∃ (p : Addr) (xs : List V) (ds : List PyData) (d : PyData), y = .ref p ∧ (SqL K H p xs ∨ SqT K H p xs) ∧ DpAll K H xs ds ∧ Dp K H x d ∧ d.canLay0 = true ∧ PyData.canLayAll0 ds = true ∧ d.depth ≤ 32 ∧
  Q (.bl (if neg = true then !(ds.any fun e => PyData.eqv e d) else ds.any fun e => PyData.eqv e d)) H
theorem dp_items {X : Cx} {pins : List (Addr × Obj)} {σ : L2.St} {H : Hp} {s : Shared} (I : Inv X pins σ H s) {d : PyData} {v : Value} {bs : List Addr} (rd : Reads s.heap v d bs) (hd : d.canLay0 = true) (hz : d.depth ≤ 32) (hu : X.A.units + 64 < cLine) : ∀ {ds : List PyData} {xs : List V} {us : List Value}, DpAll X.K H xs ds → Vals xs us → PyData.canLayAll0 ds = true →
    ∃ f : Value → Bool, (∀ y ∈ us, SeqAt.EqAt X.A.in1 s y v (f y)) ∧ (us.any f = ds.any fun e => PyData.eqv e d) ∧ f = fun y => @decide (∃ e as, Reads s.heap y e as ∧ e.canLay0 = true ∧ PyData.eqv e d = true) (Classical.propDecidable _) := by
  intro ds xs us h r hc
  refine ⟨_, ?_, ?_, rfl⟩
  · intro y hy
    have go : ∀ {ds : List PyData} {xs : List V} {us : List Value}, DpAll X.K H xs ds → Vals xs us → PyData.canLayAll0 ds = true → y ∈ us → ∃ e as, Reads s.heap y e as ∧ e.canLay0 = true := fun {ds xs us} h => by
      induction us generalizing ds xs with
      | nil => intro _ _ hy; cases hy
      | cons u us ih =>
        intro r hc hy
        cases r with
        | cons r1 r2 =>
          cases h with
          | @cons v1 vs e es h1 h2 =>
            have hc' : e.canLay0 = true ∧ PyData.canLayAll0 es = true := by simpa only [PyData.canLayAll0, Bool.and_eq_true] using hc
            rcases List.mem_cons.mp hy with rfl | hy
            · obtain ⟨as, q⟩ := Dp.reads I e _ _ h1 r1
              exact ⟨e, as, q, hc'.1⟩
            · exact ih h2 r2 hc'.2 hy
    obtain ⟨e, as, q, hce⟩ := go h r hc hy
    have ev : @decide (∃ e as, Reads s.heap y e as ∧ e.canLay0 = true ∧ PyData.eqv e d = true) (Classical.propDecidable _) = PyData.eqv e d := by
      cases z : PyData.eqv e d with
      | true => exact @decide_eq_true _ (Classical.propDecidable _) ⟨e, as, q, hce, z⟩
      | false =>
        refine @decide_eq_false _ (Classical.propDecidable _) ?_
        rintro ⟨e2, as2, q2, hc2, z2⟩
        rw [SeqAt.Reads.unique e2 e y as2 as hc2 q2 q] at z2
        rw [z] at z2
        cases z2
    rw [ev]
    have hm : min e.depth d.depth ≤ d.depth := Nat.min_le_right _ _
    exact SeqAt.eqAt_reads e d X.A.in1 s y v as bs q rd hce hd (by show X.A.units + 1 + _ < cLine; omega)
  · have go : ∀ {ds : List PyData} {xs : List V} {us : List Value}, DpAll X.K H xs ds → Vals xs us → PyData.canLayAll0 ds = true → (us.any fun y => @decide (∃ e as, Reads s.heap y e as ∧ e.canLay0 = true ∧ PyData.eqv e d = true) (Classical.propDecidable _)) = ds.any fun e => PyData.eqv e d := fun {ds xs us} h => by
      induction us generalizing ds xs with
      | nil =>
        intro r _
        cases r
        cases h
        rfl
      | cons u us ih =>
        intro r hc
        cases r with
        | cons r1 r2 =>
          cases h with
          | @cons v1 vs e es h1 h2 =>
            have hc' : e.canLay0 = true ∧ PyData.canLayAll0 es = true := by simpa only [PyData.canLayAll0, Bool.and_eq_true] using hc
            obtain ⟨as, q⟩ := Dp.reads I e _ _ h1 r1
            have ev : @decide (∃ e as, Reads s.heap u e as ∧ e.canLay0 = true ∧ PyData.eqv e d = true) (Classical.propDecidable _) = PyData.eqv e d := by
              cases z : PyData.eqv e d with
              | true => exact @decide_eq_true _ (Classical.propDecidable _) ⟨e, as, q, hc'.1, z⟩
              | false =>
                refine @decide_eq_false _ (Classical.propDecidable _) ?_
                rintro ⟨e2, as2, q2, hc2, z2⟩
                rw [SeqAt.Reads.unique e2 e u as2 as hc2 q2 q] at z2
                rw [z] at z2
                cases z2
            rw [List.any_cons, List.any_cons, ev, ih h2 r2 hc'.2]
    exact go h r hc
theorem op_inD {X : Cx} (hu : X.A.units + 64 < cLine) : OpR X (compareOp .In) (rInD X.K false) := by
  intro pins s σ H x y v u Q I rx ry h
  obtain ⟨p, xs, ds, d, rfl, hq, hds, hd, c1, c2, hz, q⟩ := h
  obtain rfl : u = Value.ref p := ry
  obtain ⟨bs, rd⟩ := Dp.reads I d x v hd rx
  rcases hq with hq | hq
  · obtain ⟨its, r, pl, hzz⟩ := I.list hq
    obtain ⟨f, h1, h2, _⟩ := dp_items I rd c1 hz hu hds r c2
    refine SeqAt.in_listAt f pl.isList (fun w hw => h1 w (by simpa using hw)) ⟨.bl _, H, I, ?_, q⟩
    show Value.bool _ = Value.bool _
    rw [List.any_toArray, h2]
    rfl
  · obtain ⟨its, r, pl, hzz⟩ := I.tuple hq
    obtain ⟨f, h1, h2, _⟩ := dp_items I rd c1 hz hu hds r c2
    refine SeqAt.in_tupleAt f pl (fun w hw => h1 w (by simpa using hw)) ⟨.bl _, H, I, ?_, q⟩
    show Value.bool _ = Value.bool _
    rw [List.any_toArray, h2]
    rfl
theorem op_notInD {X : Cx} (hu : X.A.units + 64 < cLine) : OpR X (compareOp .NotIn) (rInD X.K true) := by
  intro pins s σ H x y v u Q I rx ry h
  obtain ⟨p, xs, ds, d, rfl, hq, hds, hd, c1, c2, hz, q⟩ := h
  obtain rfl : u = Value.ref p := ry
  obtain ⟨bs, rd⟩ := Dp.reads I d x v hd rx
  rcases hq with hq | hq
  · obtain ⟨its, r, pl, hzz⟩ := I.list hq
    obtain ⟨f, h1, h2, _⟩ := dp_items I rd c1 hz hu hds r c2
    refine SeqAt.notIn_listAt f pl.isList (fun w hw => h1 w (by simpa using hw)) ⟨.bl _, H, I, ?_, q⟩
    show Value.bool _ = Value.bool _
    rw [List.any_toArray, h2]
    rfl
  · obtain ⟨its, r, pl, hzz⟩ := I.tuple hq
    obtain ⟨f, h1, h2, _⟩ := dp_items I rd c1 hz hu hds r c2
    refine SeqAt.notIn_tupleAt f pl (fun w hw => h1 w (by simpa using hw)) ⟨.bl _, H, I, ?_, q⟩
    show Value.bool _ = Value.bool _
    rw [List.any_toArray, h2]
    rfl
end SK
namespace SK
open PySem PySem.Spec PyProof.Rows L2 LamX NdefX
open K0 (De DeAll XCl spX withX)
def ThrownN (E : XK) (C : Addr) (H : Hp) (gs : List (Str × V)) (T : List (Addr × Str)) : Prop := ∀ (H' : Hp) (d : Addr), ExtN H H' → Tabs T H' → H' d = some (.xd gs) → E (.ref C) (some d) H'
mutual
theorem de_insN {K : PySem.W.Frag} {H H' : Hp} {x CT dx : Addr} {fs : List (Str × V)} (hx : H x = some (.ins CT dx fs)) (m : ∀ b o, b ≠ x → H b = some o → (∀ ps, o ≠ .tbl ps) → H' b = some o) : ∀ {d : PyData} {v : V}, De K H v d → De K H' v d
  | _, _, .non => .non
  | _, _, .bl b => .bl b
  | _, _, .int i => .int i
  | _, _, .str x => .str x
  | _, _, .lst ha hd => .lst (m _ _ (ne_of ha hx (by intro z; cases z)) ha fun ps z => nomatch z) (de_insNAll hx m hd)
  | _, _, .tup ha hd => .tup (m _ _ (ne_of ha hx (by intro z; cases z)) ha fun ps z => nomatch z) (de_insNAll hx m hd)
  | _, _, .dic ha hl => .dic (m _ _ (ne_of ha hx (by intro z; cases z)) ha fun ps z => nomatch z) hl
theorem de_insNAll {K : PySem.W.Frag} {H H' : Hp} {x CT dx : Addr} {fs : List (Str × V)} (hx : H x = some (.ins CT dx fs)) (m : ∀ b o, b ≠ x → H b = some o → (∀ ps, o ≠ .tbl ps) → H' b = some o) : ∀ {ds : List PyData} {vs : List V}, DeAll K H vs ds → DeAll K H' vs ds
  | _, _, .nil => .nil
  | _, _, .cons h1 h2 => .cons (de_insN hx m h1) (de_insNAll hx m h2)
end
end SK
namespace SK
open PySem PySem.Spec PyProof.Rows L2 LamX NdefX
open K0 (De DeAll XCl spX withX)
def isI : PyData → Bool
  | .int _ => true
  | _ => false
def okC : PyData → Bool
  | .int i => decide (0 ≤ i) && decide (i ≤ 2)
  | _ => false
theorem ty_bi {K : PySem.W.Frag} {H : Hp} {v : V} {d : PyData} (h : De K H v d) : ∃ T : String, TyX K H v (.type T) ∧ kitB T "bool" = some (isB d) ∧ kitB T "int" = some (isB d || isI d) := by
  cases h with
  | non => exact ⟨"NoneType", .base .non, (by show kitB "NoneType" "bool" = some false; decide +kernel), (by show kitB "NoneType" "int" = some false; decide +kernel)⟩
  | bl b => exact ⟨"bool", .base (.bl b), (by show kitB "bool" "bool" = some true; decide +kernel), (by show kitB "bool" "int" = some true; decide +kernel)⟩
  | int i => exact ⟨"int", .base (.int i), (by show kitB "int" "bool" = some false; decide +kernel), (by show kitB "int" "int" = some true; decide +kernel)⟩
  | str x => exact ⟨"str", .base (.str x), (by show kitB "str" "bool" = some false; decide +kernel), (by show kitB "str" "int" = some false; decide +kernel)⟩
  | lst ha hd => exact ⟨"list", .base (.lst ha), (by show kitB "list" "bool" = some false; decide +kernel), (by show kitB "list" "int" = some false; decide +kernel)⟩
  | tup ha hd => exact ⟨"tuple", .base (.tup ha), (by show kitB "tuple" "bool" = some false; decide +kernel), (by show kitB "tuple" "int" = some false; decide +kernel)⟩
  | dic ha hl => exact ⟨"dict", .base (.dK ha), (by show kitB "dict" "bool" = some false; decide +kernel), (by show kitB "dict" "int" = some false; decide +kernel)⟩
end SK
namespace SK
open PySem PySem.Spec PyProof.Rows L2 LamX NdefX
open K0 (De DeAll XCl spX withX)
theorem fls {b : Bool} (h : b = true) {A B : Prop} (k : B) : if (!b) = true then A else B := by
  rw [h]
  exact iteF k
theorem eqv_self {d : PyData} (h : SeqAt.shaped d = true) : PyData.eqv d d = true := SeqAt.eqv_refl d (SeqAt.canLay_of_shaped h)
theorem dp_strs {K : PySem.W.Frag} {H : Hp} : ∀ ws : List Str, DpAll K H (ws.map V.str) (ws.map PyData.str)
  | [] => .nil
  | w :: ws => .cons (.str w) (dp_strs ws)
theorem filt_true {α : Type} (l : List α) : l.filter (fun _ => true) = l := List.filter_eq_self.mpr fun _ _ => rfl
end SK
namespace SK
open PySem PySem.Spec PyProof.Rows L2 LamX NdefX
open K0 (De DeAll XCl spX withX)
section
variable {K : PySem.W.Frag} {a : Addr} {xs : List V} {g : TG} {tt : TT} {te : TE} {vs : List Nat} {σ : St} {H1 : Hp} {D : Addr} {Qd : Hp → Prop}
def TurnS (g : TG) (tt : TT) (te : TE) (vs : List Nat) (σ : St) (x y : V) (b : Bool) (H : Hp) : Prop :=
  ∀ (A : V → Hp → Prop) (B : Hp → Prop), (b = true → ∀ H', Same H H' → A y H') → (b = false → ∀ H', Same H H' → B H') → g x (wipe σ vs) H fun σ2 H2 => wipe σ2 vs = wipe σ vs ∧ tt σ2 H2 fun b H3 => if b = true then te σ2 H3 A else B H3
theorem lcS_list {α : Type} {ws : List α} (enc : α → V) (nD : H1 D = none) (f : α → V) (c : α → Bool) (hS : SqL K H1 a (ws.map enc)) (hz : ws.length < sizeLine) (step : ∀ (i : Nat) (x : α) (H : Hp), ws[i]? = some x → Same H1 H → TurnS g tt te vs σ (enc x) (f x) (c x) H)
    (fin : ∀ H, Same H1 H → H D = some (.lst ((ws.filter c).map f)) → Qd H) :
    ∃ W : Nat → Nat → Hp → Prop, (∃ m, W 0 m (upd H1 D (.lst []))) ∧ ∀ i m H, W i m H →
      ((Itl K a).stop i H ∧ Qd H) ∨ ((Itl K a).go i H ∧ ∃ Nx : Hp → Prop, (∀ H', Nx H' → ∃ m', m' < m ∧ W (i + 1) m' H') ∧ ∀ x H', (Itl K a).yld i H x H' → g x (wipe σ vs) H' fun σ2 H2 => wipe σ2 vs = wipe σ vs ∧ tt σ2 H2 fun b H3 =>
        if b = true then te σ2 H3 fun y H4 => ∃ acc, H4 D = some (.lst acc) ∧ acc.length < sizeLine ∧ Nx (upd H4 D (.lst (acc ++ [y]))) else Nx H3) := by
  refine lc_list (K := K) (a := a) (xs := ws.map enc) (fun i H => Same H1 H ∧ H D = some (.lst (((ws.take i).filter c).map f))) ⟨same_new nD, upd_same⟩ (fun i H _ p => Same.seq p.1 hS) (fun i x H hx p => ?_) fun H p => fin H p.1 (by rw [List.length_map, List.take_length] at p; exact p.2)
  obtain ⟨s, hD⟩ := p
  obtain ⟨y, hy, rfl⟩ := map_at hx
  refine step i y H hy s _ _ (fun hc H' s' => ⟨_, s' _ _ hD, Nat.lt_of_le_of_lt filt_len hz, same_upd nD (s.trans s'), ?_⟩) fun hc H' s' => ⟨s.trans s', ?_⟩
  · rw [filt_snoc hy, if_pos hc]
    exact upd_same
  · rw [filt_snoc hy, if_neg (by rw [hc]; simp), List.append_nil]
    exact s' _ _ hD
end
end SK
namespace SK
open PySem PySem.Spec PyProof.Rows L2 LamX NdefX
open K0 (De DeAll XCl spX withX)
def rEqE (K : PySem.W.Frag) : R2 := fun x y H Q => ∃ (a b : Addr) (xs : List V), x = .ref a ∧ y = .ref b ∧ SqL K H a xs ∧ SqL K H b [] ∧ Q (.bl xs.isEmpty) H
theorem op_eqE {X : Cx} (hu : X.A.units < cLine) : OpR X (compareOp .Eq) (rEqE X.K) := by
  intro pins s σ H x y v u Q I rx ry h
  obtain ⟨a, b, xs, rfl, rfl, h1, h2, q⟩ := h
  obtain rfl : v = Value.ref a := rx
  obtain rfl : u = Value.ref b := ry
  obtain ⟨its, r1, p1, z1⟩ := I.list h1
  obtain ⟨js, r2, p2, z2⟩ := I.list h2
  cases r2
  show wpAny (model X.prog X.w) X.A (richCompare .Eq (.ref a) (.ref b)) (EP X pins σ Q) X.xe s
  cases xs with
  | nil =>
    cases r1
    exact SeqAt.RcAt.lists (e := fun _ => true) p1.isList p2.isList rfl hu (fun j h1 h2 => absurd h1 (by simp)) X.prog X.w _ _ ⟨.bl true, H, I, rfl, q⟩
  | cons x0 xr =>
    cases r1 with
    | cons g1 g2 => exact SeqAt.RcAt.lists_lengths p1.isList p2.isList (by simp) hu X.prog X.w _ _ ⟨.bl false, H, I, rfl, q⟩
end SK
namespace SK
open PySem PySem.Spec PyProof.Rows L2 LamX NdefX
open K0 (De DeAll XCl spX withX)
theorem FunT.okG {P : Program} {w : World} {K : PySem.W.Frag} {mg : Str → Option Value} {base : Heap} {x qual : Str} {st : Stmt} {f c : Addr} {fd : FuncData} {N ps : List Str} {k : Nat} {sp : Sp} (F : FunT K x qual st f fd c) (S : FnScope N ps (defScope st)) (len : ∀ vs H Q E, sp vs H Q E → vs.length = ps.length)
    (hbody : ∀ (A : Around) (outer : List Env) (s : Shared) (H : Hp) (vs : List V) (Q : VK) (E : XK), (A.deeper (envOfC qual (defScope st) s.heap.objs.size f (.ref c))).guards = some [] → Room k (A.deeper (envOfC qual (defScope st) s.heap.objs.size f (.ref c))) → sp vs H Q E →
      ∃ t, PSs (cxOf CX0 P w K mg base N qual (defScope st) f (.ref c) A outer s H E).nox (defBody st) t ∧ t { nx := fun _ H' => Q .non H', rt := Q } (start N vs) H) : FnG P w K mg base CX0 (k + 1) f fd ps sp := by
  obtain ⟨oc, od, kV, doc, pm, an, ct, osl, rfl, lk, hcd⟩ := F.ex
  refine ⟨len, fun A outer s H args us vs Q E hg hr e0 hb r hsp => run_ofS lk hcd S hr e0 hb r (len _ _ _ _ hsp) fun hr' => ?_⟩
  obtain ⟨t, h, q⟩ := hbody A outer s H vs Q E hg hr' hsp
  exact ⟨t, h.nox, q⟩
theorem FunT.bindsT {K : PySem.W.Frag} {x qual : Str} {st : Stmt} {f c : Addr} {fd : FuncData} {ps : List Str} (F : FunT K x qual st f fd c)
    (h : ∀ (kV doc pm : Value) (an : Option Addr) (cdv ct : Value) (us : List Value), us.length = ps.length → bindArgs (PySem.W.fnOf x qual (defArgs st) (defBody st) (defScope st) .none kV doc pm an cdv ct) ⟨us, []⟩ = pure (ps.zip us)) : Binds K fd ps [] := by
  obtain ⟨oc, od, kV, doc, pm, an, ct, osl, e, lk, hcd⟩ := F.ex
  exact Fun.binds (f := f) ⟨⟨oc, od, kV, doc, pm, an, .ref c, ct, osl, e, lk, hcd⟩, F.kp⟩ h
end SK
namespace SK
open PySem PySem.Spec PyProof.Rows L2 LamX NdefX
/-- what is told of a class with own operators -/
structure Own (K : PySem.W.Frag) (C : Addr) : Prop where
  cd : ∃ cd rest, PySem.W.clsIn K C = some cd ∧ cd.mro = .ref C :: rest
  s1 : PySem.W.subIn K (.type "int") (.ref C) = some false
  s2 : PySem.W.subIn K (.ref C) (.type "int") = some false
  s3 : PySem.W.subIn K (.type "tuple") (.ref C) = some false
  sf : PySem.W.selfFirst K C = true
structure Has (K : PySem.W.Frag) (C : Addr) (m : Str) (f : Addr) : Prop where
  at_ : PySem.W.findIn K (.ref C) m = some (some (.ref f))
  fn : PySem.W.isFn K (.ref f) = true
/-- an instance -/
def Ins (C : Addr) (H : Hp) (x : V) : Prop := ∃ a dx fs, x = .ref a ∧ H a = some (.ins C dx fs)
section
variable {X : Cx} {CX : CXT} {k : Nat} {f g C : Addr} {fd : FuncData} {ps : List Str} {sp : Sp} {E : XK}
theorem inst_of {pins : List (Addr × Obj)} {s : Shared} {σ : St} {H : Hp} {x : V} {v : Value} (I : Inv X pins σ H s) (h : Ins C H x) (r : RelV x v) : ∃ a dx od, x = .ref a ∧ v = .ref a ∧ PySem.W.InstAt s.heap a (PySem.W.instObj C dx) C (some od) := by
  obtain ⟨a, dx, fs, rfl, ha⟩ := h
  obtain rfl : v = Value.ref a := r
  obtain ⟨mA, J, _⟩ := ins_get I.hok ha
  obtain ⟨od, J, _⟩ := J.look
  exact ⟨a, dx, od, rfl, rfl, J⟩
/-- a def's call in a nearer around -/
theorem run_at {A : Around} {pins : List (Addr × Obj)} {σ : St} {H : Hp} {s : Shared} {Q : VK} {us : List Value} {vs : List V} (F : FnOk X.prog X.w X.K X.mg X.base CX k f fd ps sp) (hr : Room k A) (e0 : Env0 X.prog X.w X.K X.mg X.base A X.stack s H) (hb : Binds X.K fd ps []) (hx : Passes CX X E)
    (I : Inv X pins σ H s) (r : Vals vs us) (h : sp vs H Q E) : wpAny (model X.prog X.w) A (call (.ref f) us) (EP X pins σ Q) X.xe s := by
  have hl : us.length = ps.length := by
    rw [← r.length]
    exact F.len _ _ _ _ h
  have b := hb s us I.kIn (by rw [List.append_nil]; exact hl)
  rw [List.append_nil] at b
  refine wpAny_call (codeAny_mono (F.run A X.stack s H ⟨us, []⟩ us vs Q E hr e0 b r h) fun r s' hq => ?_)
  cases r with
  | error e => exact hx pins σ H s e s' I hq
  | ok fl =>
    cases fl with
    | ret u => exact I.after hq
    | next => exact False.elim hq
    | brk => exact False.elim hq
    | cont => exact False.elim hq
theorem back_of {pins : List (Addr × Obj)} {σ : St} {Q : VK} {u : Value} {s' : Shared} (h : EP X pins σ Q u s') : PySem.W.CmpBack (EP X pins σ Q) u s' := by
  obtain ⟨v, H', I, r, q⟩ := h
  cases u with
  | notImplemented => cases v <;> first | (obtain ⟨_, z⟩ := r; cases z) | cases r
  | _ => exact ⟨v, H', I, r, q⟩
/-- one == y -/
theorem rc_own {op : CmpOp} (O : Own X.K C) (M : Has X.K C (cmpInfo op).2.1 f) (F : FnOk X.prog X.w X.K X.mg X.base CX k f fd ps sp) (hr : Room k X.A) (hb : Binds X.K fd ps []) (hx : Passes CX X E) {pins : List (Addr × Obj)} {s : Shared} {σ : St} {H : Hp} {x y : V} {v u : Value} {Q : VK} (I : Inv X pins σ H s) (rx : RelV x v) (ry : RelV y u)
    (hX : Ins C H x) (hY : Ins C H y ∨ (∃ j, y = .int j) ∨ ∃ t xs, y = .ref t ∧ SqT X.K H t xs) (q : sp [x, y] H Q E) : wpAny (model X.prog X.w) X.A (richCompare op v u) (EP X pins σ Q) X.xe s := by
  obtain ⟨a, dx, od, rfl, rfl, J⟩ := inst_of I hX rx
  obtain ⟨m, hF⟩ := I.fr
  have fin : wpAny (model X.prog X.w) X.A (call (.ref f) [.ref a, u]) (PySem.W.CmpBack (EP X pins σ Q)) X.xe s := wpAny_mono (run_at F hr I.env0 hb hx I (.cons rx (.cons ry .nil)) q) (fun _ _ h => back_of h) fun _ _ z => z
  rcases hY with hY | ⟨j, rfl⟩ | ⟨t, xs, rfl, hT⟩
  · obtain ⟨b, dy, od2, rfl, rfl, J2⟩ := inst_of I hY ry
    exact PySem.W.cmp_K (tb := .ref C) hr.units0 hF I.ok.mod.kin J J2.type (by simp [PySem.W.notFirst]) M.at_ M.fn fin
  · obtain ⟨t, rfl⟩ := ry
    exact PySem.W.cmp_K (tb := .type "int") hr.units0 hF I.ok.mod.kin J (fun A Q E s' k q => wpAny_typeOf (typeIs_int s' j t) q) (by unfold PySem.W.notFirst; rw [O.s1]; rfl) M.at_ M.fn fin
  · obtain rfl : u = Value.ref t := ry
    obtain ⟨its, rv, hl, hz⟩ := I.tuple hT
    obtain ⟨o, ho, hc, _⟩ := hl
    exact PySem.W.cmp_K (tb := .type "tuple") hr.units0 hF I.ok.mod.kin J (fun A Q E s' k q => wpAny_typeOf (T := "tuple") ⟨o, k _ _ ho, hc⟩ q) (by unfold PySem.W.notFirst; rw [O.s3]; rfl) M.at_ M.fn fin
theorem op_ownEq (O : Own X.K C) (M : Has X.K C "__eq__" f) (F : FnOk X.prog X.w X.K X.mg X.base CX k f fd ps sp) (hr : Room k X.A) (hb : Binds X.K fd ps []) (hx : Passes CX X E) :
    OpR X (compareOp .Eq) (fun x y H Q => Ins C H x ∧ (Ins C H y ∨ (∃ j, y = .int j) ∨ ∃ t xs, y = .ref t ∧ SqT X.K H t xs) ∧ sp [x, y] H Q E) := by
  intro pins s σ H x y v u Q I rx ry ⟨hX, hY, q⟩
  exact rc_own (op := .Eq) O M F hr hb hx I rx ry hX hY q
end
end SK
/-! ### one != other, by its __eq__ -/
namespace PySem.W
open PySem PySem.Calls PyProof.Rows Builtin
section
variable {prog : Program} {w : World} {A : Around} {E : Value → Shared → Prop} {s : Shared} {K : Frag} {x C f : Addr} {ox : Obj} {od : Option Obj}
theorem slot_ne : Slot "object" "__ne__" "object.__ne__" := .of (owner := "object") (n := "__ne__") (by rw [typeLookup_type, builtinLookup_eq_fast]; kernel_rfl) (by decide +kernel) (by decide +kernel) (by decide +kernel) (by decide +kernel) (by rw [isSubtype_type]; kernel_rfl)
theorem isInst_K {M : Model} {T : String} {Q : Bool → Shared → Prop} (X : K.In s.heap) (I : InstAt s.heap x ox C od) (h : subIn K (.ref C) (.type T) = some true) (q : Q true s) : wpAny M A (isInstance (.ref x) (.type T)) Q E s := by
  unfold isInstance
  exact wpAny_bind (I.type.here ((looks_subIn X h).here q))
theorem check_K {M : Model} {id owner n : String} {rest : List Value} {Q : Unit → Shared → Prop} (X : K.In s.heap) (I : InstAt s.heap x ox C od) (hk : builtinKind id = some .slot) (hs : splitId id = some (owner, n)) (h : subIn K (.ref C) (.type owner) = some true)
    (ha : argsOk id ⟨.ref x :: rest, []⟩) (q : Q () s) : wpAny M A (checkBuiltinCall id ⟨.ref x :: rest, []⟩) Q E s := by
  simp only [checkBuiltinCall, hk, hs]
  refine wpAny_bind (isInst_K X I h ?_)
  cases hsig : Manifest.signature? id with
  | none => exact wpAny_pure q
  | some sig =>
    simp only [argsOk, hsig] at ha
    have h2 : Bind.checkArgs id sig ⟨.ref x :: rest, []⟩ = pure () := ha
    show wpAny M A (Bind.checkArgs id sig ⟨.ref x :: rest, []⟩) Q E _
    rw [h2]
    exact wpAny_pure q
/-- what __eq__ gives, told the other way round -/
def NotOf (Q : Value → Shared → Prop) (v : Value) (s' : Shared) : Prop := ∃ b, v = .bool b ∧ Q (.bool (!b)) s'
theorem call_ne {b : Value} {Q : Value → Shared → Prop} (hu : A.in1.units < cLine) (X : K.In s.heap) (I : InstAt s.heap x ox C od) (ho : subIn K (.ref C) (.type "object") = some true) (hs : findIn K (.ref C) "__eq__" = some (some (.ref f))) (hf : isFn K (.ref f) = true)
    (h : wpAny (model prog w) A.in1 (call (.ref f) [.ref x, b]) (NotOf Q) E s) : wpAny (model prog w) A (call (.builtin "object.__ne__") [.ref x, b]) Q E s := by
  refine wpAny_call (codeAny_call_builtin slot_ne.plain F.cmpEntry_ne (check_K X I F.cmpKind_ne F.cmpSplit_ne ho (F.cmpArgs_ne _ _) ?_))
  unfold Builtin.«object.__ne__»
  refine wpAny_bind (m := slotArgs "__ne__" 1 _) (wpAny_pure ?_)
  refine wpAny_bind (wpAny_cRoomFor hu ?_)
  refine wpAny_bind (ifBound_K X I hs hf (wpAny_mono h (fun v s' hv => ?_) fun _ _ e => e))
  obtain ⟨c, rfl, q⟩ := hv
  exact wpAny_bind (wpAny_truthy_bool (wpAny_pure q))
theorem ne_K {b tb : Value} {Q : Value → Shared → Prop} (hu : A.in1.units < cLine) (X : K.In s.heap) (I : InstAt s.heap x ox C od) (hb : Looks (model prog w) s.heap (typeOf b) tb) (hn : notFirst K C tb = true) (hne : findIn K (.ref C) "__ne__" = some (some (.builtin "object.__ne__")))
    (ho : subIn K (.ref C) (.type "object") = some true) (hs : findIn K (.ref C) "__eq__" = some (some (.ref f))) (hf : isFn K (.ref f) = true)
    (h : wpAny (model prog w) A.in1 (call (.ref f) [.ref x, b]) (NotOf Q) E s) : wpAny (model prog w) A (richCompare .NotEq (.ref x) b) Q E s := by
  have hu0 : A.units < cLine := by
    have z : A.units + 1 < cLine := hu
    omega
  have back : wpAny (model prog w) A (call (.builtin "object.__ne__") [.ref x, b]) (fun v s' => ∃ c, v = .bool c ∧ Q v s') E s := call_ne (Q := fun v s' => ∃ c, v = .bool c ∧ Q v s') hu X I ho hs hf (wpAny_mono h (fun v s' hv => by
    obtain ⟨c, e, q⟩ := hv
    exact ⟨c, e, _, rfl, q⟩) fun _ _ e => e)
  have one : wpAny (model prog w) A (tryCompare (.ref x) "__ne__" b) (fun r s' => ∃ v, r = some v ∧ Q v s') E s := by
    unfold tryCompare
    simp only [callSpecialIfBound?, bindSpecialIfBound?]
    refine wpAny_bind (wpAny_holding (wpAny_bind (wpAny_bind (wpAny_bind (I.type.here ((looks_findIn X hne).here ?_))))))
    refine wpAny_bind (wpAny_askSetting (wpAny_ite ?_))
    have fin : wpAny (model prog w) A (call (.builtin "object.__ne__") ([.ref x] ++ [b]) >>= fun v => pure (some v)) (fun a s' => wpAny (model prog w) A (match a with
      | some .notImplemented | none => pure none
      | some v => pure (some v)) (fun r s' => ∃ v, r = some v ∧ Q v s') E s') E s := wpAny_bind (wpAny_mono back (fun v s' h' => by
        obtain ⟨c, rfl, q⟩ := h'
        exact wpAny_pure (wpAny_pure ⟨_, rfl, q⟩)) fun _ _ e => e)
    rw [slot_ne.bind]
    split
    · exact wpAny_bind (wpAny_pure (wpAny_pure fin))
    · exact wpAny_tryCatch (wpAny_bind (wpAny_pure (wpAny_pure fin)))
  unfold richCompare
  simp only [oneThing_ref]
  refine wpAny_holding (wpAny_bind (wpAny_cRoomFor hu0 ?_))
  refine wpAny_bind (I.type.here (wpAny_bind (hb.here ?_)))
  split
  · rename_i q
    have e : subIn K tb (.ref C) = some false := by
      rcases Bool.or_eq_true_iff.mp hn with e | e
      · rw [beq_iff_eq.mp e] at q; simp at q
      · exact beq_iff_eq.mp e
    refine wpAny_bind ((looks_subIn X e).here ?_)
    simp only [Bool.false_eq_true, if_false]
    exact wpAny_bind (wpAny_mono one (fun r s' z => by obtain ⟨v, rfl, hq⟩ := z; exact wpAny_pure hq) fun _ _ e => e)
  · refine wpAny_bind (wpAny_pure ?_)
    simp only [Bool.false_eq_true, if_false]
    exact wpAny_bind (wpAny_mono one (fun r s' z => by obtain ⟨v, rfl, hq⟩ := z; exact wpAny_pure hq) fun _ _ e => e)
end
end PySem.W
namespace SK
open PySem PySem.Spec PyProof.Rows L2 LamX NdefX
section
variable {X : Cx} {CX : CXT} {k : Nat} {f C : Addr} {fd : FuncData} {ps : List Str} {sp : Sp} {E : XK}
theorem op_ownNe (O : Own X.K C) (hne : PySem.W.findIn X.K (.ref C) "__ne__" = some (some (.builtin "object.__ne__"))) (ho : PySem.W.subIn X.K (.ref C) (.type "object") = some true) (M : Has X.K C "__eq__" f) (F : FnOk X.prog X.w X.K X.mg X.base CX k f fd ps sp) (hr : Room (k + 1) X.A) (hb : Binds X.K fd ps []) (hx : Passes CX X E) :
    OpR X (compareOp .NotEq) (fun x y H Q => Ins C H x ∧ Ins C H y ∧ sp [x, y] H (fun v H' => ∃ b, v = .bl b ∧ Q (.bl (!b)) H') E) := by
  intro pins s σ H x y v u Q I rx ry ⟨hX, hY, q⟩
  obtain ⟨a, dx, od, rfl, rfl, J⟩ := inst_of I hX rx
  obtain ⟨b, dy, od2, rfl, rfl, J2⟩ := inst_of I hY ry
  show wpAny (model X.prog X.w) X.A (richCompare .NotEq (.ref a) (.ref b)) (EP X pins σ Q) X.xe s
  refine PySem.W.ne_K (tb := .ref C) hr.in1.units0 I.kIn J J2.type (by simp [PySem.W.notFirst]) hne ho M.at_ M.fn ?_
  refine wpAny_mono (run_at F hr.in1 I.env0.in1 hb hx I (.cons rx (.cons ry .nil)) q) (fun v s' h => ?_) fun _ _ z => z
  obtain ⟨v1, H', I', r1, b1, rfl, q1⟩ := h
  obtain rfl : v = Value.bool b1 := r1
  exact ⟨b1, rfl, .bl (!b1), H', I', rfl, q1⟩
end
end SK
namespace SK
open PySem PySem.Spec PyProof.Rows L2 LamX NdefX
open K0 (De DeAll XCl spX withX)
/-! ### the pen -/
def pen (l : Addr) (k lf : Int) : List (Key × V) := [(Sum.inr "cells", V.ref l), (Sum.inr "opened", V.int k), (Sum.inr "left", V.int lf)]
theorem pen_cells (l : Addr) (k lf : Int) : valV (pen l k lf) (Sum.inr "cells") = some (.ref l) := by kernel_rfl
theorem pen_opened (l : Addr) (k lf : Int) : valV (pen l k lf) (Sum.inr "opened") = some (.int k) := by kernel_rfl
theorem pen_left (l : Addr) (k lf : Int) : valV (pen l k lf) (Sum.inr "left") = some (.int lf) := by kernel_rfl
theorem pen_put_opened (l : Addr) (k lf j : Int) : putK (pen l k lf) (Sum.inr "opened") (.int j) = pen l j lf := by kernel_rfl
theorem pen_put_left (l : Addr) (k lf j : Int) : putK (pen l k lf) (Sum.inr "left") (.int j) = pen l k j := by kernel_rfl
theorem pen_merge (l : Addr) (k lf : Int) : mergeK [] (pen l k lf) = pen l k lf := by kernel_rfl
structure PenAt (H : Hp) (p l : Addr) (ns : List Int) (k lf : Int) : Prop where
  dc : H p = some (.dK (pen l k lf))
  ls : H l = some (.lst (ns.map V.int))
/-- all but p is as it was -/
def SameBut (p : Addr) (H H' : Hp) : Prop := ∀ b o, b ≠ p → H b = some o → H' b = some o
theorem SameBut.trans {p : Addr} {H H1 H2 : Hp} (a : SameBut p H H1) (b : SameBut p H1 H2) : SameBut p H H2 := fun c o n h => b c o n (a c o n h)
theorem SameBut.of {p : Addr} {H H' : Hp} (a : Same H H') : SameBut p H H' := fun c o _ h => a c o h
theorem cut63 {ns : List Int} (h : ns.length ≤ 63) : cutV (ns.map V.int) none (some 63) = ns.map V.int := by
  unfold cutV
  rw [HT.sIx_none, show ((63 : Int)) = ((63 : Nat) : Int) from rfl, HT.sIx_nat, List.drop_zero, List.length_map, Nat.min_eq_right h, Nat.sub_zero, List.take_of_length_le (by rw [List.length_map]; exact Nat.le_refl _)]
def spPen (K : PySem.W.Frag) : Sp := fun vs H Q _ => ∃ (a : Addr) (ns : List Int), vs = [.ref a] ∧ SqL K H a (ns.map V.int) ∧ ns.length ≤ 63 ∧ ∀ (H' : Hp) (p l : Addr), Same H H' → PenAt H' p l ns 0 0 → Q (.ref p) H'
section
variable {P : Program} {w : World} {K : PySem.W.Frag} {mg : Str → Option Value} {base : Heap} {f : Addr} {fd : FuncData}
theorem scPen : FnScope ["script"] ["script"] (defScope (top 51)) := ⟨rfl, rfl, rfl, by decide +kernel, rfl, by decide +kernel, by decide +kernel⟩
theorem ok_pen (F : Fun K "_law_pen" "_law_pen" (top 51) f fd) (gL : mg "list" = none) : FnOk P w K mg base CX0 1 f fd ["script"] (spPen K) := by
  refine F.ok scPen (fun vs H Q E h => ?_) (fun cdv A outer s H vs Q E hr h => ?_)
  · obtain ⟨a, ns, rfl, _⟩ := h
    rfl
  · obtain ⟨a, ns, rfl, hS, hn, k⟩ := h
    refine ⟨_, pss_one (ps_ret (pe_disp (pps_cons pe_str (pe_callTy call_list_of (by rfl) gL PyProof.Rows.boot_list (pa_cons (pe_slice sl_list (pv 0) po_none (po_some pe_int)) pa_nil)) (pps_cons pe_str pe_int (pps_cons pe_str pe_int pps_nil))) rfl rfl (by simp) (by decide))), ?_⟩
    intro p hp
    refine ⟨_, rfl, 63, rfl, a, ns.map V.int, rfl, ?_, fun q hq => ?_⟩
    · exact Same.seq (fun b o e => by rw [upd_ne (ne_of_none e hp)]; exact e) hS
    rw [cut63 hn]
    refine ⟨q, ns.map V.int, rfl, .inl (.inl (.inl upd_same)), fun l hl => ?_⟩
    have npq : p ≠ q := ne_of_none (H := upd H p (.dK [])) upd_same hq
    have npl : p ≠ l := ne_of_none (H := upd (upd H p (.dK [])) q (.lst (ns.map V.int))) (by rw [upd_ne npq, upd_same]) hl
    refine ⟨by rw [upd_ne npl, upd_ne npq, upd_same], pen l 0 0, rfl, (by show 3 ≤ 15; decide), ?_⟩
    rw [pen_merge]
    refine k _ p l (fun b o e => ?_) ⟨upd_same, ?_⟩
    · have n1 : b ≠ p := ne_of_none e hp
      have e1 : upd H p (.dK []) b = some o := by rw [upd_ne n1]; exact e
      have n2 : b ≠ q := ne_of_none e1 hq
      have e2 : upd (upd H p (.dK [])) q (.lst (ns.map V.int)) b = some o := by rw [upd_ne n2]; exact e1
      have n3 : b ≠ l := ne_of_none e2 hl
      rw [upd_ne n1, upd_ne n3]
      exact e2
    · rw [upd_ne npl.symm, upd_same]
theorem upd_but {p : Addr} {o : HO} (H : Hp) : SameBut p H (upd H p o) := fun c u n h => by
  rw [upd_ne n]
  exact h
/-- the draw: a number below the base; the pen's numbers may change -/
def spDraw : Sp := fun vs H Q _ => ∃ (p l : Addr) (ns : List Int) (k lf b : Int), vs = [.ref p, .int b] ∧ PenAt H p l ns k lf ∧ ns.length ≤ 63 ∧ 0 ≤ k ∧ k ≤ 100000 ∧ 0 ≤ lf ∧ 0 < b ∧ b ≤ 1000 ∧
  ∀ (H' : Hp) (k' lf' d : Int), k' ≤ k + 1 → 0 ≤ k' → 0 ≤ lf' → 0 ≤ d → d < b → SameBut p H H' → PenAt H' p l ns k' lf' → Q (.int d) H'
theorem scD : FnScope ["pen", "many", "digit", "k", "told_cells", "cell", "mix"] ["pen", "many"] (defScope (top 52)) := ⟨rfl, rfl, rfl, by decide +kernel, rfl, by decide +kernel, by decide +kernel⟩
theorem ok_draw (F : Fun K "_law_draw" "_law_draw" (top 52) f fd) (gI : mg "int" = none) (gN : mg "len" = none) (gA : mg "abs" = none) : FnOk P w K mg base CX0 1 f fd ["pen", "many"] spDraw := by
  refine F.ok scD (fun vs H Q E h => ?_) (fun cdv A outer s H vs Q E hr h => ?_)
  · obtain ⟨p, l, ns, k, lf, b, rfl, _⟩ := h
    rfl
  · obtain ⟨p, l, ns, k, lf, b, rfl, ⟨hd, hl⟩, hn, hk0, hk1, hf, hb0, hb1, kk⟩ := h
    have hu := hu_of hr
    have hu64 := hr.units
    have hu1 : _ < cLine := Nat.lt_of_le_of_lt (Nat.le_add_right _ 64) hr.units
    refine ⟨_, (pss_cons (ps_if (pt_cmpR op_gt (pe_dget hu (pv 0) pe_str (fun _ _ => rfl)) pe_int (nomark _)) (pss_cons (ps_set (i := 2) scD.nd rfl (Or.inl rfl) (pe_op op_mod (pe_callTy call_int1 (by rfl) gI PyProof.Rows.boot_int (pa_cons (pe_dget hu (pv 0) pe_str (fun _ _ => rfl)) pa_nil)) (pv 1)))
        (pss_cons (ps_dput hu (pv 0) pe_str (pe_op op_fdiv (pe_dget hu (pv 0) pe_str (fun _ _ => rfl)) (pv 1)) rfl)
        (pss_one (ps_ret (pv 2))))) pss_nil)
        (pss_cons (ps_par (i := 3) (j := 4) rfl scD.nd rfl rfl (by decide) rfl rfl (pa_cons (pe_dget hu (pv 0) pe_str (fun _ _ => rfl)) (pa_cons (pe_dget hu (pv 0) pe_str (fun _ _ => rfl)) pa_nil)) rfl)
        (pss_cons (ps_dput hu (pv 0) pe_str (pe_op op_add (pv 3) pe_int) rfl)
        (pss_cons (ps_if (pt_cmpR (op_eqE hu1) (pv 4) (pe_lst pa_nil) (nomark _)) (pss_one (ps_ret (pe_op op_mod (pe_callTy call_int1 (by rfl) gI PyProof.Rows.boot_int (pa_cons (pe_op op_add (pe_op op_mul pe_int (pv 3)) pe_int) pa_nil)) (pv 1)))) pss_nil)
        (pss_cons (ps_set (i := 5) scD.nd rfl (Or.inl rfl) (pe_ix ix_list (pv 4) (pe_op op_mod (pe_callTy call_int1 (by rfl) gI PyProof.Rows.boot_int (pa_cons (pv 3) pa_nil)) (pe_callB call_len_seq (by rfl) gN PySem.boot_len (pa_cons (pv 4) pa_nil))) (fun _ _ => rfl)))
        (pss_cons (ps_if (PW.pt (pw_and (pt_cmpR op_lt (pv 3) (pe_callB call_len_seq (by rfl) gN PySem.boot_len (pa_cons (pv 4) pa_nil)) (nomark _)) (pw_and1 (pt_cmpR op_ge (pe_callB call_abs (by rfl) gA PyProof.Rows.boot_abs (pa_cons (pv 5) pa_nil)) (pe_op op_pow pe_int pe_int) (nomark _))))) (pss_cons (ps_dput hu (pv 0) pe_str (pe_op op_fdiv (pe_op op_sub (pe_callB call_abs (by rfl) gA PyProof.Rows.boot_abs (pa_cons (pv 5) pa_nil)) (pe_op op_pow pe_int pe_int)) (pv 1)) rfl)
        (pss_one (ps_ret (pe_op op_mod (pe_callTy call_int1 (by rfl) gI PyProof.Rows.boot_int (pa_cons (pe_op op_sub (pe_callB call_abs (by rfl) gA PyProof.Rows.boot_abs (pa_cons (pv 5) pa_nil)) (pe_op op_pow pe_int pe_int)) pa_nil)) (pv 1))))) pss_nil)
        (pss_cons (ps_set (i := 6) scD.nd rfl (Or.inl rfl) (pe_op op_mod (pe_callTy call_int1 (by rfl) gI PyProof.Rows.boot_int (pa_cons (pe_op op_add (pe_op op_add (pe_op op_add (pe_op op_mul (pe_op op_mod (pe_callTy call_int1 (by rfl) gI PyProof.Rows.boot_int (pa_cons (pv 5) pa_nil)) pe_int) pe_int) (pe_op op_mul (pe_op op_mul pe_int (pv 3)) (pv 3))) (pe_op op_mul pe_int (pv 3))) pe_int) pa_nil)) pe_int))
        (pss_cons (ps_set (i := 6) scD.nd rfl (Or.inl rfl) (pe_op op_mod (pe_callTy call_int1 (by rfl) gI PyProof.Rows.boot_int (pa_cons (pe_op op_add (pe_op op_add (pe_op op_mul (pv 6) (pv 6)) (pe_op op_mul pe_int (pv 6))) (pe_op op_mul pe_int (pv 3))) pa_nil)) pe_int))
        (pss_one (ps_ret (pe_op op_mod (pe_callTy call_int1 (by rfl) gI PyProof.Rows.boot_int (pa_cons (pe_op op_fdiv (pe_op op_mod (pe_callTy call_int1 (by rfl) gI PyProof.Rows.boot_int (pa_cons (pe_op op_mul (pv 6) (pe_op op_add (pv 6) pe_int)) pa_nil)) pe_int) pe_int) pa_nil)) (pv 1)))))))))))), ?_⟩
    have npl : p ≠ l := ne_of hd hl (by intro z; cases z)
    have gL : DGet H p (.str "left") (some (.int lf)) := by
      have z := DGet.k (k := Sum.inr "left") hd
      rw [pen_left] at z
      exact z
    have gO : DGet H p (.str "opened") (some (.int k)) := by
      have z := DGet.k (k := Sum.inr "opened") hd
      rw [pen_opened] at z
      exact z
    have gC : DGet H p (.str "cells") (some (.ref l)) := by
      have z := DGet.k (k := Sum.inr "cells") hd
      rw [pen_cells] at z
      exact z
    have hlen : (ns.map V.int).length = ns.length := List.length_map _
    refine ⟨V.ref p, rfl, p, V.int lf, rfl, gL, lf, 0, rfl, rfl, _, rfl, ?_⟩
    refine ite2 (fun c => ?_) (fun c => ?_)
    · have c' : 0 < lf := of_decide_eq_true c
      refine ⟨V.ref p, rfl, p, V.int lf, rfl, gL, .inl ⟨lf, rfl, V.int b, rfl, lf, b, rfl, rfl, hb0, ?_⟩⟩
      refine ⟨V.ref p, rfl, p, V.int lf, rfl, gL, V.int b, rfl, lf, b, rfl, rfl, ⟨hb0, by omega⟩, V.ref p, rfl, p, _, rfl, DPut.k (k := Sum.inr "left") hd (by show 3 < sizeLine; decide), V.int (lf % b), rfl, ?_⟩
      rw [pen_put_left]
      exact kk _ k (lf / b) (lf % b) (by omega) hk0 (Int.ediv_nonneg hf (Int.le_of_lt hb0)) (Int.emod_nonneg _ (by omega)) (Int.emod_lt_of_pos _ hb0) (upd_but H) ⟨upd_same, by rw [upd_ne npl.symm]; exact hl⟩
    · refine ⟨V.ref p, rfl, p, V.int k, rfl, gO, V.ref p, rfl, p, V.ref l, rfl, gC, V.int k, V.ref l, rfl, ?_⟩
      refine ⟨V.int k, rfl, k, 1, rfl, rfl, V.ref p, rfl, p, _, rfl, DPut.k (k := Sum.inr "opened") hd (by show 3 < sizeLine; decide), ?_⟩
      rw [pen_put_opened]
      have s1 : SameBut p H (upd H p (.dK (pen l (k + 1) lf))) := upd_but H
      have hd1 : upd H p (.dK (pen l (k + 1) lf)) p = some (.dK (pen l (k + 1) lf)) := upd_same
      have hl1 : upd H p (.dK (pen l (k + 1) lf)) l = some (.lst (ns.map V.int)) := by
        rw [upd_ne npl.symm]
        exact hl
      generalize upd H p (.dK (pen l (k + 1) lf)) = H2 at s1 hd1 hl1
      refine ⟨V.ref l, rfl, Nat.zero_le _, fun q nq => ?_⟩
      have sq := upd_new (o := .lst []) nq
      have hq : upd H2 q (.lst []) q = some (.lst []) := upd_same
      have npq : q ≠ p := fun z => by rw [z, hd1] at nq; cases nq
      have s1 := s1.trans (SameBut.of (p := p) sq)
      have hd1 := sq _ _ hd1
      have hl1 := sq _ _ hl1
      generalize upd H2 q (.lst []) = H2 at s1 hd1 hl1 hq
      have S2 : SqL K H2 l (ns.map V.int) := .inl (.inl hl1)
      refine ⟨l, q, ns.map V.int, rfl, rfl, S2, .inl (.inl hq), _, rfl, ?_⟩
      cases hns : (ns.map V.int).isEmpty with
      | true =>
        refine iteT ⟨V.int k, rfl, 7, k, rfl, rfl, .inl ⟨by decide, by decide⟩, _, 3, rfl, rfl, .inl ⟨_, rfl, V.int b, rfl, _, b, rfl, rfl, hb0, ?_⟩⟩
        exact kk H2 (k + 1) lf _ (Int.le_refl _) (by omega) hf (Int.emod_nonneg _ (by omega)) (Int.emod_lt_of_pos _ hb0) s1 ⟨hd1, hl1⟩
      | false =>
      refine iteF ?_
      have hne : 0 < ns.length := by
        cases ns with
        | nil => cases hns
        | cons a b => exact Nat.succ_pos _
      have hne2 : 0 < (ns.map V.int).length := by rw [hlen]; exact hne
      have hi0 : 0 ≤ k % ((ns.map V.int).length : Int) := Int.emod_nonneg _ (by omega)
      have hi1 : k % ((ns.map V.int).length : Int) < ((ns.map V.int).length : Int) := Int.emod_lt_of_pos _ (by omega)
      obtain ⟨j, hj⟩ : ∃ j : Nat, k % ((ns.map V.int).length : Int) = (j : Int) := ⟨(k % ((ns.map V.int).length : Int)).toNat, (Int.toNat_of_nonneg hi0).symm⟩
      obtain ⟨c, hc⟩ : ∃ c, ns[j]? = some c := ⟨_, List.getElem?_eq_getElem (by omega)⟩
      have hcV : (ns.map V.int)[j]? = some (.int c) := by
        rw [List.getElem?_map, hc]
        all_goals rfl
      refine ⟨V.ref l, rfl, V.int k, rfl, .inl ⟨k, rfl, V.ref l, rfl, l, ns.map V.int, rfl, .inl (.inl (.inl hl1)), k, _, rfl, rfl, (by omega), l, ns.map V.int, _, .int c, rfl, rfl, S2, at_of hj hcV, ?_⟩⟩
      refine ⟨V.int k, rfl, V.ref l, rfl, l, ns.map V.int, rfl, .inl (.inl (.inl hl1)), k, _, rfl, rfl, _, rfl, ?_⟩
      refine ite2 (fun c3 => ?_) (fun c3 => iteF ?_)
      refine ⟨V.int c, rfl, c, rfl, 10, 18, rfl, rfl, ⟨by decide, by decide, by decide⟩, _, _, rfl, rfl, _, rfl, ?_⟩
      refine ite2 (fun c4 => ?_) (fun c4 => ?_)
      · have c4' := of_decide_eq_true c4
        refine ⟨V.int c, rfl, c, rfl, 10, 18, rfl, rfl, ⟨by decide, by decide, by decide⟩, _, _, rfl, rfl, V.int b, rfl, _, b, rfl, rfl, ⟨hb0, by omega⟩, V.ref p, rfl, p, _, rfl, DPut.k (k := Sum.inr "left") hd1 (by show 3 < sizeLine; decide), ?_⟩
        rw [pen_put_left]
        refine ⟨V.int c, rfl, c, rfl, 10, 18, rfl, rfl, ⟨by decide, by decide, by decide⟩, _, _, rfl, rfl, .inl ⟨_, rfl, V.int b, rfl, _, b, rfl, rfl, hb0, ?_⟩⟩
        exact kk _ (k + 1) _ _ (Int.le_refl _) (by omega) (Int.ediv_nonneg (by omega) (Int.le_of_lt hb0)) (Int.emod_nonneg _ (by omega)) (Int.emod_lt_of_pos _ hb0) (s1.trans (upd_but H2)) ⟨upd_same, by rw [upd_ne npl.symm]; exact hl1⟩
      all_goals
        refine ⟨V.int c, rfl, .inl ⟨c, rfl, c, 4294965361, rfl, rfl, (by show (0 : Int) < 4294965361; decide), _, 41903, rfl, rfl, .inr ⟨by decide, by decide⟩, ?_⟩⟩
        refine ⟨V.int k, rfl, 27011, k, rfl, rfl, .inl ⟨by decide, by decide⟩, V.int k, rfl, _, k, rfl, rfl, .inr ⟨by omega, by omega⟩, _, _, rfl, rfl, V.int k, rfl, 853, k, rfl, rfl, .inl ⟨by decide, by decide⟩, _, _, rfl, rfl, _, 71, rfl, rfl, .inl ⟨_, rfl, _, 4294965383, rfl, rfl, (by show (0 : Int) < 4294965383; decide), ?_⟩⟩
        dsimp only
        have a0 : 0 ≤ (c % 4294965361 * 41903 + 27011 * k * k + 853 * k + 71) % 4294965383 := Int.emod_nonneg _ (by decide)
        have a1 : (c % 4294965361 * 41903 + 27011 * k * k + 853 * k + 71) % 4294965383 < 4294965383 := Int.emod_lt_of_pos _ (by decide)
        generalize (c % 4294965361 * 41903 + 27011 * k * k + 853 * k + 71) % 4294965383 = m at a0 a1
        refine ⟨V.int m, rfl, V.int m, rfl, m, m, rfl, rfl, .inl ⟨by omega, by omega⟩, V.int m, rfl, 40213, m, rfl, rfl, .inl ⟨by decide, by decide⟩, _, _, rfl, rfl, V.int k, rfl, 37, k, rfl, rfl, .inl ⟨by decide, by decide⟩, _, _, rfl, rfl, .inl ⟨_, rfl, _, 4294965337, rfl, rfl, (by show (0 : Int) < 4294965337; decide), ?_⟩⟩
        dsimp only
        have b0' : 0 ≤ (m * m + 40213 * m + 37 * k) % 4294965337 := Int.emod_nonneg _ (by decide)
        have b1' : (m * m + 40213 * m + 37 * k) % 4294965337 < 4294965337 := Int.emod_lt_of_pos _ (by decide)
        generalize (m * m + 40213 * m + 37 * k) % 4294965337 = u at b0' b1'
        refine ⟨V.int u, rfl, V.int u, rfl, u, 60317, rfl, rfl, u, _, rfl, rfl, .inl ⟨by omega, by omega⟩, .inl ⟨_, rfl, _, 4294965313, rfl, rfl, (by show (0 : Int) < 4294965313; decide), _, 128, rfl, rfl, ⟨by decide, by decide⟩, .inl ⟨_, rfl, V.int b, rfl, _, b, rfl, rfl, hb0, ?_⟩⟩⟩
        exact kk H2 (k + 1) lf _ (Int.le_refl _) (by omega) hf (Int.emod_nonneg _ (by omega)) (Int.emod_lt_of_pos _ hb0) s1 ⟨hd1, hl1⟩
end
def spPick : Sp := fun vs H Q _ => ∃ (p l : Addr) (v : V) (ns : List Int) (k lf : Int) (xs : List V), vs = [.ref p, v] ∧ PenAt H p l ns k lf ∧ ns.length ≤ 63 ∧ 0 ≤ k ∧ k ≤ 100000 ∧ 0 ≤ lf ∧ Items H v xs ∧ 0 < xs.length ∧ xs.length ≤ 1000 ∧
  ∀ (H' : Hp) (k' lf' : Int) (y : V), k' ≤ k + 1 → 0 ≤ k' → 0 ≤ lf' → y ∈ xs → SameBut p H H' → PenAt H' p l ns k' lf' → Q y H'
section
variable {P : Program} {w : World} {K : PySem.W.Frag} {mg : Str → Option Value} {base : Heap} {f fD fP : Addr} {fd fdD fdP : FuncData}
theorem sc28 : FnScope ["pen", "some"] ["pen", "some"] (defScope (top 53)) := ⟨rfl, rfl, rfl, by decide +kernel, rfl, by decide +kernel, by decide +kernel⟩
theorem ok_pick (F : Fun K "_law_pick" "_law_pick" (top 53) f fd) (gN : mg "len" = none) (gD : mg "_law_draw" = some (.ref fD)) (kD : PySem.W.keepIn K (.ref fD) = true) (GD : FnOk P w K mg base CX0 1 fD fdD ["pen", "many"] spDraw)
    (bD : Binds K fdD ["pen", "many"] []) : FnOk P w K mg base CX0 2 f fd ["pen", "some"] spPick := by
  refine F.ok sc28 (fun vs H Q E h => ?_) (fun cdv A outer s H vs Q E hr h => ?_)
  · obtain ⟨p, l, v, ns, k, lf, xs, rfl, _⟩ := h
    rfl
  · obtain ⟨p, l, v, ns, k, lf, xs, rfl, hp, hn, hk0, hk1, hf, hv, h0, h1, kk⟩ := h
    refine ⟨_, pss_one (ps_ret (pe_ix (IxR.or ix_list ix_str) (pv 1) (pe_call GD hr (by rfl) gD kD bD .nil pass0 (pa_cons (pv 0) (pa_cons (pe_callB (CallR.or call_len_seq call_len_str) (by rfl) gN PySem.boot_len (pa_cons (pv 1) pa_nil)) pa_nil))) (fun _ _ => rfl))), ?_⟩
    rcases hv with ⟨a, rfl, ha⟩ | ⟨z, rfl, rfl⟩
    · have nap : a ≠ p := ne_of ha hp.dc (by intro z; cases z)
      refine ⟨V.ref a, rfl, V.ref p, rfl, V.ref a, rfl, .inl ⟨a, xs, rfl, .inl (.inl (.inl ha)), p, l, ns, k, lf, _, rfl, hp, hn, hk0, hk1, hf, by omega, by omega, fun H' k' lf' d e1 e2 e3 e4 e5 s5 P5 => ?_⟩⟩
      obtain ⟨j, hj⟩ : ∃ j : Nat, d = (j : Int) := ⟨d.toNat, (Int.toNat_of_nonneg e4).symm⟩
      obtain ⟨v, hv⟩ : ∃ v, xs[j]? = some v := ⟨_, List.getElem?_eq_getElem (by omega)⟩
      exact .inl ⟨a, xs, d, v, rfl, rfl, .inl (.inl (s5 _ _ nap ha)), at_of hj hv, kk H' k' lf' v e1 e2 e3 (List.mem_of_getElem? hv) s5 P5⟩
    · rw [List.length_map] at h0 h1
      have ez : z.length = z.cps.toList.length := by rw [Array.length_toList]; rfl
      have hz : z.length ≤ sizeLine := by
        have t : (1000 : Nat) < sizeLine := by decide
        omega
      refine ⟨V.str z, rfl, V.ref p, rfl, V.str z, rfl, .inr ⟨z, rfl, hz, p, l, ns, k, lf, _, rfl, hp, hn, hk0, hk1, hf, by omega, by omega, fun H' k' lf' d e1 e2 e3 e4 e5 s5 P5 => ?_⟩⟩
      obtain ⟨j, hj⟩ : ∃ j : Nat, d = (j : Int) := ⟨d.toNat, (Int.toNat_of_nonneg e4).symm⟩
      obtain ⟨c, hc⟩ : ∃ c, z.cps.toList[j]? = some c := ⟨_, List.getElem?_eq_getElem (by omega)⟩
      exact .inr ⟨z, d, c, rfl, rfl, hz, (by rw [hj]; exact atI_nat hc), kk H' k' lf' _ e1 e2 e3 (List.mem_map.mpr ⟨c, List.mem_of_getElem? hc, rfl⟩) s5 P5⟩
end
end SK
namespace SK
open PySem PySem.Spec PyProof.Rows L2 LamX NdefX
open K0 (De DeAll XCl spX withX)
/-! ### is_list, is_count, is_test -/
def nm : PyData → Option Str
  | .str x => some x
  | _ => none
theorem eqv_sl (x : Str) (d : PyData) : PyData.eqv (.str x) d = decide (nm d = some x) := by
  cases d with
  | str y =>
    show (x == y) = decide (some y = some x)
    by_cases h : x = y
    · subst h
      simp
    · have h2 : ¬ some y = some x := fun z => h (Option.some.inj z).symm
      rw [decide_eq_false h2]
      exact beq_eq_false_iff_ne.mpr h
  | _ => simp [PyData.eqv, nm]
theorem eqv_sr (x : Str) (d : PyData) : PyData.eqv d (.str x) = decide (nm d = some x) := by
  cases d with
  | str y =>
    show (y == x) = decide (some y = some x)
    rw [Bool.eq_iff_iff]
    simp
  | _ => simp [PyData.eqv, nm]
def inS (xs : List Str) (d : PyData) : Bool := xs.any fun x => decide (nm d = some x)
theorem any_strs (xs : List Str) (d : PyData) : ((xs.map PyData.str).any fun e => PyData.eqv e d) = inS xs d := by
  rw [List.any_map]
  unfold inS
  congr 1
  funext x
  exact eqv_sl x d
def plain10 : List Str := ["mark", "f", "x", "y", "root", "ends", "next", "p", "here", "true"]
/-- heads that can be looked at -/
inductive HdOk : PyData → Prop
  | non : HdOk .none
  | bl (b : Bool) : HdOk (.bool b)
  | int (i : Int) : HdOk (.int i)
  | str (x : Str) : PyData.strOk x = true → HdOk (.str x)
  | tup0 : HdOk (.tuple [])
  | lst0 : HdOk (.list [])
  | one (x : Str) : PyData.strOk x = true → HdOk (.tuple [.str x])
  | onel (x : Str) : PyData.strOk x = true → HdOk (.list [.str x])
theorem HdOk.shaped {h : PyData} (k : HdOk h) : SeqAt.shaped h = true := by
  cases k with
  | str x e => simp [SeqAt.shaped, PyData.canLay0, PyData.depth, e]
  | one x e => simp [SeqAt.shaped, PyData.canLay0, PyData.canLayAll0, PyData.depth, PyData.depthAll, e]
  | onel x e => simp [SeqAt.shaped, PyData.canLay0, PyData.canLayAll0, PyData.depth, PyData.depthAll, e]
  | _ => simp [SeqAt.shaped, PyData.canLay0, PyData.canLayAll0, PyData.depth, PyData.depthAll]
theorem HdOk.lay {h : PyData} (k : HdOk h) : h.canLay0 = true ∧ h.depth ≤ 32 := by
  cases k with
  | str x e => simp [PyData.canLay0, PyData.depth, e]
  | one x e => simp [PyData.canLay0, PyData.canLayAll0, PyData.depth, PyData.depthAll, e]
  | onel x e => simp [PyData.canLay0, PyData.canLayAll0, PyData.depth, PyData.depthAll, e]
  | _ => simp [PyData.canLay0, PyData.canLayAll0, PyData.depth, PyData.depthAll]
theorem HdOk.dp {K : PySem.W.Frag} {H : Hp} {v : V} {h : PyData} (k : HdOk h) (d : De K H v h) : Dp K H v h := by
  cases k with
  | non => cases d; exact .non
  | bl b => cases d; exact .bl b
  | int i => cases d; exact .int i
  | str x e => cases d; exact .str x
  | tup0 =>
    cases d with
    | tup ha hd => cases hd; exact .tup (.inl (.inl ha)) .nil
  | lst0 =>
    cases d with
    | lst ha hd => cases hd; exact .lst (.inl (.inl ha)) .nil
  | one x e =>
    cases d with
    | tup ha hd =>
      cases hd with
      | cons h1 h2 =>
        cases h1
        cases h2
        exact .tup (.inl (.inl ha)) (.cons (.str x) .nil)
  | onel x e =>
    cases d with
    | lst ha hd =>
      cases hd with
      | cons h1 h2 =>
        cases h1
        cases h2
        exact .lst (.inl (.inl ha)) (.cons (.str x) .nil)
theorem plain_lay : PyData.canLayAll0 (plain10.map PyData.str) = true := by decide +kernel
def two (f : PyData → Bool) (e : PyData) : List PyData → Bool
  | [g] => f e && f g
  | _ => false
def okT2 (f : PyData → Bool) (h e : PyData) (r : List PyData) : Bool :=
  if nm h = some (Str.ofString "others") then (r.isEmpty && okC e) else if nm h = some (Str.ofString "not") then (r.isEmpty && f e) else
  if inS ["and", "or"] h = true then two f e r else false
def okTL (f : PyData → Bool) : List PyData → Bool
  | [] => false
  | [h] => inS plain10 h
  | h :: e :: r => okT2 f h e r
def okT : Nat → PyData → Bool
  | 0, _ => false
  | n + 1, d => isTL d && okTL (okT n) (elems d)
def hdT : Nat → PyData → Prop
  | 0, _ => True
  | n + 1, d => (∀ h r, isTL d = true → elems d = h :: r → HdOk h ∧ ∀ e ∈ r, hdT n e)
def spIsL (K : PySem.W.Frag) : Sp := fun vs H Q _ => ∃ (v : V) (d : PyData), vs = [v] ∧ De K H v d ∧ ∀ H', Same H H' → Q (.bl (isTL d)) H'
def spIsC (K : PySem.W.Frag) : Sp := fun vs H Q _ => ∃ (v : V) (d : PyData), vs = [v] ∧ De K H v d ∧ Q (.bl (okC d)) H
def spTst (K : PySem.W.Frag) (n : Nat) : Sp := fun vs H Q _ => ∃ (v : V) (d : PyData) (m : Nat), vs = [v, .int (m : Nat)] ∧ m < n ∧ De K H v d ∧ hdT m d ∧ ∀ H', Same H H' → Q (.bl (okT m d)) H'
theorem tl_shape {K : PySem.W.Frag} {H : Hp} {v : V} {d : PyData} (h : De K H v d) : isTL d = false ∨ ∃ (p : Addr) (xs : List V), v = .ref p ∧ DeAll K H xs (elems d) ∧ (SqL K H p xs ∨ SqT K H p xs) ∧ isTL d = true := by
  cases h with
  | @lst a vs ds ha hds => exact .inr ⟨a, vs, rfl, hds, .inl (.inl (.inl ha)), rfl⟩
  | @tup a vs ds ha hds => exact .inr ⟨a, vs, rfl, hds, .inr (.inl (.inl ha)), rfl⟩
  | _ => exact .inl rfl
section
variable {P : Program} {w : World} {K : PySem.W.Frag} {mg : Str → Option Value} {base : Heap} {f fL fC bP : Addr} {fd fdL fdC : FuncData}
theorem ok_isL (F : Fun K "is_list" "is_list" (top 11) f fd) (gI : mg "isinstance" = none) (gT : mg "tuple" = none) (gL : mg "list" = none) : FnOk P w K mg base CX0 1 f fd ["value"] (spIsL K) := by
  have S0 : FnScope ["value"] ["value"] (defScope (top 11)) := ⟨rfl, rfl, rfl, by decide +kernel, rfl, by decide +kernel, by decide +kernel⟩
  refine F.ok S0 (fun vs H Q E h => ?_) (fun cdv A outer s H vs Q E hr h => ?_)
  · obtain ⟨v, d, rfl, _⟩ := h
    rfl
  · obtain ⟨v, d, rfl, hd, kk⟩ := h
    refine ⟨_, (pss_one (ps_ret (pe_callB (r := rIsiT K) call_isiT (by rfl) gI PyProof.Rows.boot_isinstance (pa_cons (pv 0) (pa_cons (pe_tup (pa_cons (pe_bltn (v := .ty "tuple") (by rfl) gT PyProof.Rows.boot_tuple rfl) (pa_cons (pe_bltn (v := .ty "list") (by rfl) gL PyProof.Rows.boot_list rfl) pa_nil))) pa_nil))))), ?_⟩
    refine ⟨v, rfl, (by show 2 ≤ sizeLine; decide), fun tp hp => ?_⟩
    have s1 := upd_new (o := .tup [.ty "tuple", .ty "list"]) hp
    have t1 : upd H tp (.tup [.ty "tuple", .ty "list"]) tp = some (.tup [.ty "tuple", .ty "list"]) := upd_same
    generalize upd H tp (.tup [.ty "tuple", .ty "list"]) = H1 at s1 t1
    obtain ⟨Ty, tx, _, _, b1, b2, k1, k2, kt⟩ := ty_of (de_mono s1 d v hd)
    exact ⟨v, tp, [.ty "tuple", .ty "list"], .type Ty, [.type "tuple", .type "list"], isTL d, rfl, t1, .cons (.ty _) (.cons (.ty _) .nil), tx, (by rw [← kt]; exact kit_two k1 k2), kk H1 s1⟩
theorem ok_isC (F : Fun K "is_count" "is_count" (top 12) f fd) (gI : mg "isinstance" = none) (gB : mg "bool" = none) (gIn : mg "int" = none) : FnOk P w K mg base CX0 1 f fd ["value"] (spIsC K) := by
  have S0 : FnScope ["value"] ["value"] (defScope (top 12)) := ⟨rfl, rfl, rfl, by decide +kernel, rfl, by decide +kernel, by decide +kernel⟩
  refine F.ok S0 (fun vs H Q E h => ?_) (fun cdv A outer s H vs Q E hr h => ?_)
  · obtain ⟨v, d, rfl, _⟩ := h
    rfl
  · obtain ⟨v, d, rfl, hd, kk⟩ := h
    refine ⟨_, (pss_one (ps_ret (pe_and (pe_callB (r := rIsi K) call_isi (by rfl) gI PyProof.Rows.boot_isinstance (pa_cons (pv 0) (pa_cons (pe_bltn (v := .ty "int") (by rfl) gIn PyProof.Rows.boot_int rfl) pa_nil))) (pe_and (pe_not (pe_callB (r := rIsi K) call_isi (by rfl) gI PyProof.Rows.boot_isinstance (pa_cons (pv 0) (pa_cons (pe_bltn (v := .ty "bool") (by rfl) gB PyProof.Rows.boot_bool rfl) pa_nil)))) (pe_one (pe_chain op_le op_le pe_int (pv 0) pe_int)))))), ?_⟩
    obtain ⟨T3, x3, kb3, ki3⟩ := ty_bi hd
    refine ⟨v, rfl, v, .ty "int", .type T3, .type "int", (isB d || isI d), rfl, .ty _, x3, kit_ty ki3, _, rfl, ?_⟩
    cases d with
    | int i =>
      cases hd
      refine iteT ⟨V.int i, rfl, .int i, .ty "bool", .type T3, .type "bool", false, rfl, .ty _, x3, kit_ty kb3, _, rfl, true, rfl, iteT ?_⟩
      refine ⟨V.int i, rfl, 0, i, rfl, rfl, _, rfl, ?_⟩
      refine ite2 (fun c1 => ?_) (fun c1 => ?_)
      · have c1 := of_decide_eq_true c1
        have kk : Q (.bl (decide (0 ≤ i) && decide (i ≤ 2))) H := kk
        rw [decide_eq_true c1, Bool.true_and] at kk
        exact ⟨i, 2, rfl, rfl, kk⟩
      · have kk : Q (.bl (decide (0 ≤ i) && decide (i ≤ 2))) H := kk
        have c1 : ¬ (0 : Int) ≤ i := fun z => c1 (decide_eq_true z)
        rw [decide_eq_false c1, Bool.false_and] at kk
        exact kk
    | bool b => exact iteT ⟨v, rfl, v, .ty "bool", .type T3, .type "bool", true, rfl, .ty _, x3, kit_ty kb3, _, rfl, false, rfl, iteF kk⟩
    | _ => exact iteF kk
abbrev NTs : List Str := ["test", "most", "name"]
theorem ok_tst (F : Fun K "is_test" "is_test" (top 13) f fd) (gN : mg "len" = none) (gP : mg "PLAIN_TESTS_statements" = some (.ref bP)) (hP : ∀ H, SqT K H bP (plain10.map V.str))
    (gL : mg "is_list" = some (.ref fL)) (kL : PySem.W.keepIn K (.ref fL) = true) (GL : FnOk P w K mg base CX0 1 fL fdL ["value"] (spIsL K)) (bL : Binds K fdL ["value"] [])
    (gC : mg "is_count" = some (.ref fC)) (kC : PySem.W.keepIn K (.ref fC) = true) (GC : FnOk P w K mg base CX0 1 fC fdC ["value"] (spIsC K)) (bC : Binds K fdC ["value"] [])
    (gS : mg "is_test" = some (.ref f)) (bS : Binds K fd ["test", "most"] []) : ∀ n : Nat, FnOk P w K mg base CX0 (n + 2) f fd ["test", "most"] (spTst K n) := by
  have S0 : FnScope NTs ["test", "most"] (defScope (top 13)) := ⟨rfl, rfl, rfl, by decide +kernel, rfl, by decide +kernel, by decide +kernel⟩
  have nd := S0.nd
  have kS := F.kp
  intro n
  induction n with
  | zero =>
    refine F.ok S0 (fun vs H Q E h => ?_) (fun cdv A outer s H vs Q E hr h => ?_)
    · obtain ⟨v, d, m, rfl, hm, _⟩ := h
      omega
    · obtain ⟨v, d, m, rfl, hm, _⟩ := h
      omega
  | succ n GS =>
  refine F.ok S0 (fun vs H Q E h => ?_) (fun cdv A outer s H vs Q E hr h => ?_)
  · obtain ⟨v, d, m, rfl, _⟩ := h
    rfl
  · obtain ⟨v, d, m, rfl, hm, hd, hh, kk⟩ := h
    have hu64 := hr.units
    have hr1 : Room 1 _ := hr.mono (by omega)
    refine ⟨_, (pss_cons (ps_if (PW.pt (pw_or (pt_cmpR op_eq (pv 1) pe_int (nomark _)) (pw_or (pt_not (pt_val (pe_call GL hr1 (by rfl) gL kL bL .nil pass0 (pa_cons (pv 0) pa_nil)))) (pw_or1 (pt_cmpR op_eq (pe_callB call_len_seq (by rfl) gN PySem.boot_len (pa_cons (pv 0) pa_nil)) pe_int (nomark _)))))) (pss_one (ps_ret pe_bl)) pss_nil)
        (pss_cons (ps_set (i := 2) nd rfl (Or.inl rfl) (pe_ix (r := rIx K) ix_seq (pv 0) pe_int (fun _ _ => rfl)))
        (pss_cons (ps_if (pt_cmpR op_eq (pe_callB call_len_seq (by rfl) gN PySem.boot_len (pa_cons (pv 0) pa_nil)) pe_int (nomark _)) (pss_one (ps_ret (pe_cmpR (r := rInD K false) (op_inD hu64) (pv 2) (pe_glob (v := V.ref bP) (by rfl) gP rfl) (by rfl)))) pss_nil)
        (pss_cons (ps_if (pt_cmpR (r := rEqD K) (op_eqD hu64) (pv 2) pe_str (nomark _)) (pss_one (ps_ret (pe_and (pe_cmpR op_eq (pe_callB call_len_seq (by rfl) gN PySem.boot_len (pa_cons (pv 0) pa_nil)) pe_int (nomark _)) (pe_one (pe_call GC hr1 (by rfl) gC kC bC .nil pass0 (pa_cons (pe_ix (r := rIx K) ix_seq (pv 0) pe_int (fun _ _ => rfl)) pa_nil)))))) pss_nil)
        (pss_cons (ps_if (pt_cmpR (r := rEqD K) (op_eqD hu64) (pv 2) pe_str (nomark _)) (pss_one (ps_ret (pe_and (pe_cmpR op_eq (pe_callB call_len_seq (by rfl) gN PySem.boot_len (pa_cons (pv 0) pa_nil)) pe_int (nomark _)) (pe_one (pe_call GS hr (by rfl) gS kS bS .nil pass0 (pa_cons (pe_ix (r := rIx K) ix_seq (pv 0) pe_int (fun _ _ => rfl)) (pa_cons (pe_op op_sub (pv 1) pe_int) pa_nil))))))) pss_nil)
        (pss_cons (ps_if (pt_cmpR (r := rInD K false) (op_inD hu64) (pv 2) (pe_tup (pa_cons pe_str (pa_cons pe_str pa_nil))) (by rfl)) (pss_one (ps_ret (pe_and (pe_cmpR op_eq (pe_callB call_len_seq (by rfl) gN PySem.boot_len (pa_cons (pv 0) pa_nil)) pe_int (nomark _)) (pe_and (pe_call GS hr (by rfl) gS kS bS .nil pass0 (pa_cons (pe_ix (r := rIx K) ix_seq (pv 0) pe_int (fun _ _ => rfl)) (pa_cons (pe_op op_sub (pv 1) pe_int) pa_nil))) (pe_one (pe_call GS hr (by rfl) gS kS bS .nil pass0 (pa_cons (pe_ix (r := rIx K) ix_seq (pv 0) pe_int (fun _ _ => rfl)) (pa_cons (pe_op op_sub (pv 1) pe_int) pa_nil)))))))) pss_nil)
        (pss_one (ps_ret pe_bl)))))))), ?_⟩
    refine ⟨V.int (m : Nat), rfl, rfl, _, rfl, ?_⟩
    match m, hm, hh, kk with
    | 0, _, _, kk => exact iteT (kk H (Same.refl _))
    | m + 1, hm, hh, kk =>
    have ne0 : ¬ V.int ((m + 1 : Nat) : Int) = V.int 0 := fun z => by
      injection z with z
      omega
    rw [decide_eq_false ne0]
    refine iteF ⟨v, rfl, v, d, rfl, hd, fun H1 s1 => ⟨isTL d, rfl, ?_⟩⟩
    rcases tl_shape hd with e | ⟨p, xs, rfl, hds, hsq, e⟩
    · rw [e]
      refine iteT ?_
      have z := kk H1 s1
      unfold okT at z
      rw [e, Bool.false_and] at z
      exact z
    rw [e]
    have kk : ∀ b, okTL (okT m) (elems d) = b → ∀ H', Same H H' → Q (.bl b) H' := fun b eb H' s => by
      have z := kk H' s
      unfold okT at z
      rw [e, Bool.true_and, eb] at z
      exact z
    have hh : ∀ h r, elems d = h :: r → HdOk h ∧ ∀ e ∈ r, hdT m e := fun h r eh => hh h r e eh
    generalize elems d = ds at hds kk hh
    have sq : ∀ {H' : Hp}, Same H H' → (SqL K H' p xs ∨ SqT K H' p xs) := fun {H'} s => hsq.elim (fun h => .inl (Same.seq s h)) (fun h => .inr (Same.seqT s h))
    have ixF : ∀ {H' : Hp} (j : Nat) (v' : V) (R : VK), Same H H' → xs[j]? = some v' → R v' H' → rIx K (.ref p) (.int (j : Nat)) H' R := fun {H'} j v' R s hj hR => by
      rcases sq s with h | h
      · exact .inl ⟨p, xs, (j : Int), v', rfl, rfl, h, atI_nat hj, hR⟩
      · exact .inr (.inl ⟨p, xs, (j : Int), v', rfl, rfl, h, atI_nat hj, hR⟩)
    have lnF : ∀ n : Nat, xs.length = n → ∀ {H' : Hp} (R : VK), Same H H' → R (.int (n : Nat)) H' → ∃ q ys, ([V.ref p] : List V) = [.ref q] ∧ (SqL K H' q ys ∨ SqT K H' q ys) ∧ R (.int (ys.length : Nat)) H' := fun n hn {H'} R s hR => ⟨p, xs, rfl, sq s, by rw [hn]; exact hR⟩
    cases hds with
    | nil =>
      refine iteF ⟨V.ref p, rfl, p, [], rfl, sq s1, rfl, _, rfl, iteT ?_⟩
      exact kk false rfl H1 s1
    | @cons v1 vr h r hd1 hdr =>
    have hlr := deAll_len hdr
    obtain ⟨hh1, hhr⟩ := hh h r rfl
    refine iteF ⟨V.ref p, rfl, p, _, rfl, sq s1, rfl, _, rfl, ?_⟩
    rw [decide_eq_false (fun z : V.int _ = V.int 0 => by injection z with z; simp at z; omega)]
    refine iteF ⟨V.ref p, rfl, ixF 0 v1 _ s1 rfl ?_⟩
    have dp1 : ∀ {H' : Hp}, Same H H' → Dp K H' v1 h := fun {H'} s => hh1.dp (de_mono s _ _ hd1)
    have subE : ((m + 1 : Nat) : Int) - 1 = (m : Int) := by omega
    refine ⟨V.ref p, rfl, p, _, rfl, sq s1, rfl, _, rfl, ?_⟩
    cases hdr with
    | nil =>
      refine iteT ⟨v1, rfl, bP, plain10.map V.str, plain10.map PyData.str, h, rfl, .inr (hP _), dp_strs _, dp1 s1, hh1.lay.1, plain_lay, hh1.lay.2, ?_⟩
      rw [if_neg Bool.false_ne_true, any_strs]
      exact kk _ rfl _ s1
    | @cons v2 vr2 e2 r2 hd2 hdr2 =>
      rw [decide_eq_false (fun z : V.int _ = V.int 1 => by injection z with z; simp at z; omega)]
      refine iteF ⟨v1, rfl, h, .str "others", dp1 s1, .str _, hh1.shaped, by decide +kernel, _, rfl, ?_⟩
      rw [eqv_sr]
      have kk : ∀ b, okT2 (okT m) h e2 r2 = b → ∀ H', Same H H' → Q (.bl b) H' := kk
      have slf : ∀ (j : Nat) (v' : V) (e' : PyData) (H' : Hp) (R : VK), (v1 :: v2 :: vr2)[j]? = some v' → De K H v' e' → hdT m e' → Same H H' → (∀ H2, Same H' H2 → R (.bl (okT m e')) H2) → rIx K (.ref p) (.int (j : Nat)) H' fun x H2 => ∃ y, some (some (V.int ((m + 1 : Nat) : Int))) = some (some y) ∧ ∃ i i2, y = .int i ∧ V.int 1 = .int i2 ∧ spTst K n [x, .int (i - i2)] H2 R (fun _ _ _ => False) := fun j v' e' H' R hj hd' hh' s k =>
        ixF j v' _ s hj ⟨V.int ((m + 1 : Nat) : Int), rfl, ((m + 1 : Nat) : Int), 1, rfl, rfl, v', e', m, by rw [subE], by omega, de_mono s _ _ hd', hh', k⟩
      by_cases c1 : nm h = some (Str.ofString "others")
      · rw [decide_eq_true c1]
        refine iteT ⟨V.ref p, rfl, p, _, rfl, sq s1, rfl, _, rfl, ?_⟩
        have e0 : okT2 (okT m) h e2 r2 = (r2.isEmpty && okC e2) := if_pos c1
        cases hdr2 with
        | nil => exact iteT ⟨V.ref p, rfl, ixF 1 v2 _ s1 rfl ⟨v2, e2, rfl, de_mono s1 _ _ hd2, kk _ (by rw [e0]; rfl) _ s1⟩⟩
        | cons h3 h4 =>
          rw [decide_eq_false (fun z : V.int _ = V.int 2 => by injection z with z; simp at z; omega)]
          exact iteF (kk _ (by rw [e0]; rfl) _ s1)
      rw [decide_eq_false c1]
      refine iteF ⟨v1, rfl, h, .str "not", dp1 s1, .str _, hh1.shaped, by decide +kernel, _, rfl, ?_⟩
      rw [eqv_sr]
      by_cases c2 : nm h = some (Str.ofString "not")
      · rw [decide_eq_true c2]
        refine iteT ⟨V.ref p, rfl, p, _, rfl, sq s1, rfl, _, rfl, ?_⟩
        have e0 : okT2 (okT m) h e2 r2 = (r2.isEmpty && okT m e2) := (if_neg c1).trans (if_pos c2)
        cases hdr2 with
        | nil => exact iteT ⟨V.ref p, rfl, slf 1 v2 e2 _ _ rfl hd2 (hhr e2 (by simp)) s1 fun H2 s2 => kk _ (by rw [e0]; rfl) _ (s1.trans s2)⟩
        | cons h3 h4 =>
          rw [decide_eq_false (fun z : V.int _ = V.int 2 => by injection z with z; simp at z; omega)]
          exact iteF (kk _ (by rw [e0]; rfl) _ s1)
      rw [decide_eq_false c2]
      refine iteF ⟨v1, rfl, (by show 2 ≤ sizeLine; decide), fun q nq => ?_⟩
      have s2 := upd_new (o := .tup [.str "and", .str "or"]) nq
      have hq2 : upd H1 q (.tup [.str "and", .str "or"]) q = some (.tup [.str "and", .str "or"]) := upd_same
      generalize upd H1 q (.tup [.str "and", .str "or"]) = H2 at s2 hq2
      have s12 := s1.trans s2
      refine ⟨q, _, (["and", "or"] : List Str).map PyData.str, h, rfl, .inr (.inl (.inl hq2)), dp_strs ["and", "or"], dp1 s12, hh1.lay.1, by decide +kernel, hh1.lay.2, _, rfl, ?_⟩
      rw [if_neg Bool.false_ne_true, any_strs]
      cases c3 : inS ["and", "or"] h with
      | false => exact iteF (kk _ (by unfold okT2; rw [if_neg c1, if_neg c2, c3]; rfl) _ s12)
      | true =>
        refine iteT ⟨V.ref p, rfl, p, _, rfl, sq s12, rfl, _, rfl, ?_⟩
        have e0 : okT2 (okT m) h e2 r2 = two (okT m) e2 r2 := by
          unfold okT2
          rw [if_neg c1, if_neg c2, c3]
          rfl
        cases hdr2 with
        | nil => exact iteF (kk _ (by rw [e0]; rfl) _ s12)
        | @cons v3 vr3 e3 r3 hd3 hdr3 =>
          cases hdr3 with
          | cons h3 h4 =>
            rw [decide_eq_false (fun z : V.int _ = V.int 3 => by injection z with z; simp at z; omega)]
            exact iteF (kk _ (by rw [e0]; rfl) _ s12)
          | nil =>
            refine iteT ⟨V.ref p, rfl, ixF 1 v2 _ s12 rfl ⟨V.int ((m + 1 : Nat) : Int), rfl, ((m + 1 : Nat) : Int), 1, rfl, rfl, v2, e2, m, (by show [v2, V.int (((m + 1 : Nat) : Int) - 1)] = _; rw [subE]), by omega, de_mono s12 _ _ hd2, hhr e2 (by simp), fun H3 s3 => ⟨_, rfl, ?_⟩⟩⟩
            cases c4 : okT m e2 with
            | false => exact iteF (kk _ (by rw [e0]; show (okT m e2 && okT m e3) = _; rw [c4]; rfl) _ (s12.trans s3))
            | true => exact iteT ⟨V.ref p, rfl, slf 2 v3 e3 _ _ rfl hd3 (hhr e3 (by simp)) (s12.trans s3) fun H4 s4 => kk _ (by rw [e0]; show (okT m e2 && okT m e3) = _; rw [c4]; rfl) _ ((s12.trans s3).trans s4)⟩
end
end SK
namespace SK
open PySem PySem.Spec PyProof.Rows L2 LamX NdefX
open K0 (De DeAll XCl spX withX)
/-! ### statements -/
def letK : List Str := ["mark", "unmark", "make", "cut", "keep", "stop"]
def letD (z : Str) : List Str := if z = "mark" then ["down", "turn", "up"] else if z = "unmark" then ["down", "turn", "up"] else if z = "make" then ["down"] else if z = "cut" then ["turn", "up"] else
  if z = "keep" then ["down", "turn"] else if z = "stop" then ["down", "up"] else []
def blk3 : List Str := ["down", "turn", "up"]
structure LetIn (K : PySem.W.Frag) (w : World) (d : Addr) : Prop where
  D : ∃ es n, KDict K w d es n
  no : ∀ z, z ∉ letK → PySem.W.nsIn K d z = some none
  yes : ∀ z ∈ letK, ∃ a, PySem.W.nsIn K d z = some (some (.ref a)) ∧ ∀ H, SqT K H a ((letD z).map V.str)
theorem letD_no {z : Str} (h : z ∉ letK) : letD z = [] := by
  unfold letK at h
  simp only [List.mem_cons, List.mem_nil_iff, or_false, not_or] at h
  obtain ⟨h1, h2, h3, h4, h5, h6⟩ := h
  unfold letD
  rw [if_neg h1, if_neg h2, if_neg h3, if_neg h4, if_neg h5, if_neg h6]
theorem letD_lay : ∀ z ∈ letK, PyData.canLayAll0 ((letD z).map PyData.str) = true := by decide +kernel
theorem blk_ok : ∀ z ∈ blk3, HdOk (.str z) := fun z hz => .str z (by
  have q : ∀ z ∈ blk3, PyData.strOk z = true := by decide +kernel
  exact q z hz)
theorem inS_str (xs : List Str) (y : Str) : inS xs (.str y) = decide (y ∈ xs) := by
  unfold inS
  rw [Bool.eq_iff_iff, List.any_eq_true, decide_eq_true_eq]
  constructor
  · rintro ⟨x, hx, e⟩
    have e := Option.some.inj (of_decide_eq_true e)
    exact e ▸ hx
  · intro h
    exact ⟨y, h, decide_eq_true rfl⟩
def wordLet (d : PyData) (blk : Str) : Bool := match nm d with
  | some z => decide (blk ∈ letD z)
  | none => false
def okSet : List PyData → Bool
  | [_, a, b] => inS ["f", "x", "y"] a && isB b
  | _ => false
def spWl (K : PySem.W.Frag) : Sp := fun vs H Q _ => ∃ (v : V) (d : PyData) (blk : Str), vs = [v, .str blk] ∧ De K H v d ∧ blk ∈ blk3 ∧ Q (.bl (wordLet d blk)) H
def spSet (K : PySem.W.Frag) : Sp := fun vs H Q _ => ∃ (p : Addr) (xs : List V) (ds : List PyData), vs = [.ref p] ∧ (SqL K H p xs ∨ SqT K H p xs) ∧ DeAll K H xs ds ∧ (∀ h a r, ds = h :: a :: r → HdOk a) ∧ ∀ H', Same H H' → Q (.bl (okSet ds)) H'
section
variable {P : Program} {w : World} {K : PySem.W.Frag} {mg : Str → Option Value} {base : Heap} {f dL : Addr} {fd : FuncData}
theorem ok_wl (F : Fun K "is_word_let" "is_word_let" (top 14) f fd) (gI : mg "isinstance" = none) (gSt : mg "str" = none) (gD : mg "LET_IN" = some (.ref dL)) (LI : LetIn K w dL) : FnOk P w K mg base CX0 1 f fd ["name", "block"] (spWl K) := by
  have S0 : FnScope ["name", "block"] ["name", "block"] (defScope (top 14)) := ⟨rfl, rfl, rfl, by decide +kernel, rfl, by decide +kernel, by decide +kernel⟩
  refine F.ok S0 (fun vs H Q E h => ?_) (fun cdv A outer s H vs Q E hr h => ?_)
  · obtain ⟨v, d, blk, rfl, _⟩ := h
    rfl
  · obtain ⟨v, d, blk, rfl, hd, hb, kk⟩ := h
    have hu64 := hr.units
    obtain ⟨es, n, D⟩ := LI.D
    refine ⟨_, (pss_one (ps_ret (pe_and (pe_callB (r := rIsi K) call_isi (by rfl) gI PyProof.Rows.boot_isinstance (pa_cons (pv 0) (pa_cons (pe_bltn (v := .ty "str") (by rfl) gSt PyProof.Rows.boot_str rfl) pa_nil))) (pe_and (pe_cmpR (op_in_kd D) (pv 0) (pe_glob (v := V.ref dL) (by rfl) gD rfl) (by rfl)) (pe_one (pe_cmpR (r := rInD K false) (op_inD hu64) (pv 1) (pe_ix (r := rIxD K w) ix_kdict (pe_glob (v := V.ref dL) (by rfl) gD rfl) (pv 0) (fun _ _ => rfl)) (by rfl))))))), ?_⟩
    obtain ⟨Ty, tx, ks, _⟩ := ty_of hd
    refine ⟨v, rfl, v, .ty "str", .type Ty, .type "str", isS d, rfl, .ty _, tx, kit_ty ks, _, rfl, ?_⟩
    cases d with
    | str z =>
      cases hd
      have e0 : wordLet (.str z) blk = decide (blk ∈ letD z) := rfl
      rw [e0] at kk
      by_cases hz : z ∈ letK
      · obtain ⟨a, e1, e2⟩ := LI.yes z hz
        refine iteT ⟨V.str z, rfl, z, some (.ref a), rfl, rfl, e1, _, rfl, iteT ?_⟩
        refine ⟨V.str blk, rfl, V.str z, rfl, dL, z, V.ref a, rfl, rfl, ⟨es, n, .ref a, D.at_, D.lit, e1, rfl⟩, a, _, (letD z).map PyData.str, .str blk, rfl, .inr (e2 H), dp_strs _, .str _, (blk_ok blk hb).lay.1, letD_lay z hz, (blk_ok blk hb).lay.2, ?_⟩
        rw [if_neg Bool.false_ne_true, any_strs, inS_str]
        exact kk
      · rw [letD_no hz] at kk
        refine iteT ⟨V.str z, rfl, z, none, rfl, rfl, LI.no z hz, _, rfl, iteF ?_⟩
        exact kk
    | _ => exact iteF kk
theorem ok_set (F : Fun K "is_set" "is_set" (top 15) f fd) (gN : mg "len" = none) (gI : mg "isinstance" = none) (gB : mg "bool" = none) : FnOk P w K mg base CX0 1 f fd ["statement"] (spSet K) := by
  have S0 : FnScope ["statement"] ["statement"] (defScope (top 15)) := ⟨rfl, rfl, rfl, by decide +kernel, rfl, by decide +kernel, by decide +kernel⟩
  refine F.ok S0 (fun vs H Q E h => ?_) (fun cdv A outer s H vs Q E hr h => ?_)
  · obtain ⟨p, xs, ds, rfl, _⟩ := h
    rfl
  · obtain ⟨p, xs, ds, rfl, hsq, hds, hh, kk⟩ := h
    have hu64 := hr.units
    refine ⟨_, (pss_one (ps_ret (pe_and (pe_cmpR op_eq (pe_callB call_len_seq (by rfl) gN PySem.boot_len (pa_cons (pv 0) pa_nil)) pe_int (nomark _)) (pe_and (pe_cmpR (r := rInD K false) (op_inD hu64) (pe_ix (r := rIx K) ix_seq (pv 0) pe_int (fun _ _ => rfl)) (pe_tup (pa_cons pe_str (pa_cons pe_str (pa_cons pe_str pa_nil)))) (by rfl)) (pe_one (pe_callB (r := rIsi K) call_isi (by rfl) gI PyProof.Rows.boot_isinstance (pa_cons (pe_ix (r := rIx K) ix_seq (pv 0) pe_int (fun _ _ => rfl)) (pa_cons (pe_bltn (v := .ty "bool") (by rfl) gB PyProof.Rows.boot_bool rfl) pa_nil)))))))), ?_⟩
    have sq : ∀ {H' : Hp}, Same H H' → (SqL K H' p xs ∨ SqT K H' p xs) := fun {H'} s => hsq.elim (fun h => .inl (Same.seq s h)) (fun h => .inr (Same.seqT s h))
    have ixF : ∀ {H' : Hp} (j : Nat) (v' : V) (R : VK), Same H H' → xs[j]? = some v' → R v' H' → rIx K (.ref p) (.int (j : Nat)) H' R := fun {H'} j v' R s hj hR => by
      rcases sq s with h | h
      · exact .inl ⟨p, xs, (j : Int), v', rfl, rfl, h, atI_nat hj, hR⟩
      · exact .inr (.inl ⟨p, xs, (j : Int), v', rfl, rfl, h, atI_nat hj, hR⟩)
    have hxl := deAll_len hds
    refine ⟨V.ref p, rfl, p, xs, rfl, hsq, rfl, _, rfl, ?_⟩
    by_cases hl : xs.length = 3
    · rw [decide_eq_true (show V.int (xs.length : Nat) = V.int 3 by rw [hl]; rfl)]
      obtain ⟨h, a, b, rfl⟩ : ∃ h a b, ds = [h, a, b] := by
        match ds, hxl.symm.trans hl with
        | [h, a, b], _ => exact ⟨h, a, b, rfl⟩
      cases hds with
      | @cons v1 _ _ _ d1 hds =>
      cases hds with
      | @cons v2 _ _ _ d2 hds =>
      cases hds with
      | @cons v3 _ _ _ d3 hds =>
      cases hds
      have ha := hh h a [b] rfl
      refine iteT ⟨V.ref p, rfl, ixF 1 v2 _ (Same.refl _) rfl ⟨(by show 3 ≤ sizeLine; decide), fun q nq => ?_⟩⟩
      have s2 := upd_new (o := .tup [.str "f", .str "x", .str "y"]) nq
      have hq2 : upd H q (.tup [.str "f", .str "x", .str "y"]) q = some (.tup [.str "f", .str "x", .str "y"]) := upd_same
      generalize upd H q (.tup [.str "f", .str "x", .str "y"]) = H2 at s2 hq2
      refine ⟨q, _, (["f", "x", "y"] : List Str).map PyData.str, a, rfl, .inr (.inl (.inl hq2)), dp_strs ["f", "x", "y"], ha.dp (de_mono s2 _ _ d2), ha.lay.1, by decide +kernel, ha.lay.2, _, rfl, ?_⟩
      rw [if_neg Bool.false_ne_true, any_strs]
      have kk := kk H2 s2
      have e0 : okSet [h, a, b] = (inS ["f", "x", "y"] a && isB b) := rfl
      rw [e0] at kk
      cases e1 : inS ["f", "x", "y"] a with
      | false =>
        rw [e1, Bool.false_and] at kk
        exact iteF kk
      | true =>
        rw [e1, Bool.true_and] at kk
        obtain ⟨T3, x3, kb3, _⟩ := ty_bi (de_mono s2 _ _ d3)
        exact iteT ⟨V.ref p, rfl, ixF 2 v3 _ s2 rfl ⟨v3, .ty "bool", .type T3, .type "bool", isB b, rfl, .ty _, x3, kit_ty kb3, kk⟩⟩
    · rw [decide_eq_false (fun z : V.int (xs.length : Nat) = V.int 3 => hl (by injection z with z; omega))]
      refine iteF ?_
      have e0 : okSet ds = false := by
        unfold okSet
        split
        · simp at hxl
          omega
        · rfl
      rw [← e0]
      exact kk H (Same.refl _)
end
end SK
namespace SK
open PySem PySem.Spec PyProof.Rows L2 LamX NdefX
open K0 (De DeAll XCl spX withX)
/-! ### returns, ifs, statements -/
def ans4 : List Str := ["yes", "no", "node", "p"]
def okRc (blk : Str) : List PyData → Bool
  | [] => true
  | [c] => decide (nm c = some (Str.ofString "cut")) && decide (blk = Str.ofString "turn")
  | _ => false
def okRet (blk : Str) : List PyData → Bool
  | _ :: a :: r => inS ans4 a && okRc blk r
  | _ => false
def okIf : List PyData → Bool
  | [_, t, b1, b2] => okT 6 t && (isTL b1 && (!(elems b1).isEmpty && isTL b2))
  | _ => false
def okS2 (blk : Str) (h : PyData) (ds : List PyData) : Bool :=
  if nm h = some (Str.ofString "set") then okSet ds else if nm h = some (Str.ofString "return") then okRet blk ds else decide (nm h = some (Str.ofString "if")) && okIf ds
def okSL (blk : Str) : List PyData → Bool
  | [] => false
  | [h] => wordLet h blk
  | h :: a :: r => okS2 blk h (h :: a :: r)
def okS (blk : Str) (d : PyData) : Bool := isTL d && okSL blk (elems d)
/-- what can be looked at in a statement -/
def hdS (d : PyData) : Prop := ∀ h r, isTL d = true → elems d = h :: r → HdOk h ∧ ∀ a r', r = a :: r' → (nm h = some (Str.ofString "set") ∨ nm h = some (Str.ofString "return") → HdOk a ∧ ∀ c, r' = [c] → nm h = some (Str.ofString "return") → HdOk c) ∧ (nm h = some (Str.ofString "if") → hdT 6 a)
def spRet (K : PySem.W.Frag) : Sp := fun vs H Q _ => ∃ (p : Addr) (xs : List V) (ds : List PyData) (blk : Str), vs = [.ref p, .str blk] ∧ (SqL K H p xs ∨ SqT K H p xs) ∧ DeAll K H xs ds ∧ 2 ≤ ds.length ∧ (∀ h a r, ds = h :: a :: r → HdOk a ∧ ∀ c, r = [c] → HdOk c) ∧ ∀ H', Same H H' → Q (.bl (okRet blk ds)) H'
def spIf (K : PySem.W.Frag) : Sp := fun vs H Q _ => ∃ (p : Addr) (xs : List V) (ds : List PyData), vs = [.ref p] ∧ (SqL K H p xs ∨ SqT K H p xs) ∧ DeAll K H xs ds ∧ (∀ h a r, ds = h :: a :: r → hdT 6 a) ∧ ∀ H', Same H H' → Q (.bl (okIf ds)) H'
def spSt (K : PySem.W.Frag) : Sp := fun vs H Q _ => ∃ (v : V) (d : PyData) (blk : Str), vs = [v, .str blk] ∧ De K H v d ∧ blk ∈ blk3 ∧ hdS d ∧ ∀ H', Same H H' → Q (.bl (okS blk d)) H'
section
variable {P : Program} {w : World} {K : PySem.W.Frag} {mg : Str → Option Value} {base : Heap} {f fL fT fW fS fR fI aD : Addr} {fd fdL fdT fdW fdS fdR fdI : FuncData}
theorem ok_ret (F : Fun K "is_return" "is_return" (top 16) f fd) (gN : mg "len" = none) (gA : mg "ANSWERS" = some (.ref aD)) (hA : ∀ H, SqT K H aD (ans4.map V.str)) : FnOk P w K mg base CX0 1 f fd ["statement", "block"] (spRet K) := by
  have S0 : FnScope ["statement", "block"] ["statement", "block"] (defScope (top 16)) := ⟨rfl, rfl, rfl, by decide +kernel, rfl, by decide +kernel, by decide +kernel⟩
  refine F.ok S0 (fun vs H Q E h => ?_) (fun cdv A outer s H vs Q E hr h => ?_)
  · obtain ⟨p, xs, ds, blk, rfl, _⟩ := h
    rfl
  · obtain ⟨p, xs, ds, blk, rfl, hsq, hds, h2, hh, kk⟩ := h
    have hu64 := hr.units
    refine ⟨_, (pss_cons (ps_if (pt_cmpR (r := rInD K true) (op_notInD hu64) (pe_ix (r := rIx K) ix_seq (pv 0) pe_int (fun _ _ => rfl)) (pe_glob (v := V.ref aD) (by rfl) gA rfl) (by rfl)) (pss_one (ps_ret pe_bl)) pss_nil)
        (pss_one (ps_ret (pe_or (pe_cmpR op_eq (pe_callB call_len_seq (by rfl) gN PySem.boot_len (pa_cons (pv 0) pa_nil)) pe_int (nomark _)) (pe_one (pe_and (pe_cmpR op_eq (pe_callB call_len_seq (by rfl) gN PySem.boot_len (pa_cons (pv 0) pa_nil)) pe_int (nomark _)) (pe_and (pe_cmpR (r := rEqD K) (op_eqD hu64) (pe_ix (r := rIx K) ix_seq (pv 0) pe_int (fun _ _ => rfl)) pe_str (nomark _)) (pe_one (pe_cmpR op_eq (pv 1) pe_str (nomark _)))))))))), ?_⟩
    have sq : ∀ {H' : Hp}, Same H H' → (SqL K H' p xs ∨ SqT K H' p xs) := fun {H'} s => hsq.elim (fun h => .inl (Same.seq s h)) (fun h => .inr (Same.seqT s h))
    have ixF : ∀ {H' : Hp} (j : Nat) (v' : V) (R : VK), Same H H' → xs[j]? = some v' → R v' H' → rIx K (.ref p) (.int (j : Nat)) H' R := fun {H'} j v' R s hj hR => by
      rcases sq s with h | h
      · exact .inl ⟨p, xs, (j : Int), v', rfl, rfl, h, atI_nat hj, hR⟩
      · exact .inr (.inl ⟨p, xs, (j : Int), v', rfl, rfl, h, atI_nat hj, hR⟩)
    have hxl := deAll_len hds
    have s0 := Same.refl H
    have kk := kk H s0
    match ds, h2, hds, hh, kk, hxl with
    | h :: a :: r, h2, hds, hh, kk, hxl =>
    obtain ⟨ha, hc⟩ := hh h a r rfl
    cases hds with
    | @cons v1 _ _ _ d1 hds1 =>
    cases hds1 with
    | @cons v2 vr _ _ d2 hds2 =>
    have hlr := deAll_len hds2
    have e0 : okRet blk (h :: a :: r) = (inS ans4 a && okRc blk r) := rfl
    rw [e0] at kk
    refine ⟨V.ref p, rfl, ixF 1 v2 _ s0 rfl ⟨aD, _, ans4.map PyData.str, a, rfl, .inr (hA _), dp_strs ans4, ha.dp d2, ha.lay.1, by decide +kernel, ha.lay.2, _, rfl, ?_⟩⟩
    rw [if_pos rfl, any_strs]
    cases e1 : inS ans4 a with
    | false =>
      rw [e1, Bool.false_and] at kk
      exact iteT kk
    | true =>
      rw [e1, Bool.true_and] at kk
      refine iteF ⟨V.ref p, rfl, p, _, rfl, sq s0, rfl, _, rfl, ?_⟩
      cases hds2 with
      | nil => exact iteT kk
      | @cons v3 vr3 c r3 d3 hds3 =>
        rw [decide_eq_false (fun z : V.int _ = V.int 2 => by injection z with z; simp at z; omega)]
        refine iteF ⟨V.ref p, rfl, p, _, rfl, sq s0, rfl, _, rfl, ?_⟩
        cases hds3 with
        | cons y1 y2 =>
          rw [decide_eq_false (fun z : V.int _ = V.int 3 => by injection z with z; simp at z; omega)]
          exact iteF kk
        | nil =>
          have hc := hc c rfl
          refine iteT ⟨V.ref p, rfl, ixF 2 v3 _ s0 rfl ⟨c, .str "cut", hc.dp d3, .str _, hc.shaped, by decide +kernel, _, rfl, ?_⟩⟩
          rw [eqv_sr]
          have e2 : okRc blk [c] = (decide (nm c = some (Str.ofString "cut")) && decide (blk = Str.ofString "turn")) := rfl
          rw [e2] at kk
          by_cases c1 : nm c = some (Str.ofString "cut")
          · rw [decide_eq_true c1]
            rw [decide_eq_true c1, Bool.true_and] at kk
            refine iteT ⟨V.str blk, rfl, rfl, ?_⟩
            have e3 : decide (V.str blk = V.str (Str.ofString "turn")) = decide (blk = Str.ofString "turn") := decide_eq_decide.mpr ⟨fun z => V.str.inj z, fun z => by rw [z]⟩
            rw [e3]
            exact kk
          · rw [decide_eq_false c1]
            rw [decide_eq_false c1, Bool.false_and] at kk
            exact iteF kk
theorem ok_if (F : Fun K "is_if" "is_if" (top 17) f fd) (gN : mg "len" = none) {tM : Tok} (gM : mg "MOST_TESTS" = some (.int 6 tM))
    (gL : mg "is_list" = some (.ref fL)) (kL : PySem.W.keepIn K (.ref fL) = true) (GL : FnOk P w K mg base CX0 1 fL fdL ["value"] (spIsL K)) (bL : Binds K fdL ["value"] [])
    (gT : mg "is_test" = some (.ref fT)) (kT : PySem.W.keepIn K (.ref fT) = true) (GT : FnOk P w K mg base CX0 9 fT fdT ["test", "most"] (spTst K 7)) (bT : Binds K fdT ["test", "most"] []) : FnOk P w K mg base CX0 10 f fd ["statement"] (spIf K) := by
  have S0 : FnScope ["statement"] ["statement"] (defScope (top 17)) := ⟨rfl, rfl, rfl, by decide +kernel, rfl, by decide +kernel, by decide +kernel⟩
  refine F.ok S0 (fun vs H Q E h => ?_) (fun cdv A outer s H vs Q E hr h => ?_)
  · obtain ⟨p, xs, ds, rfl, _⟩ := h
    rfl
  · obtain ⟨p, xs, ds, rfl, hsq, hds, hh, kk⟩ := h
    have hu64 := hr.units
    have hr1 : Room 1 _ := hr.mono (by decide)
    refine ⟨_, (pss_cons (ps_if (PW.pt (pw_or (pt_cmpR op_ne (pe_callB call_len_seq (by rfl) gN PySem.boot_len (pa_cons (pv 0) pa_nil)) pe_int (nomark _)) (pw_or1 (pt_not (pt_val (pe_call GT hr (by rfl) gT kT bT .nil pass0 (pa_cons (pe_ix (r := rIx K) ix_seq (pv 0) pe_int (fun _ _ => rfl)) (pa_cons (pe_glob (v := V.int 6) (by rfl) gM ⟨_, rfl⟩) pa_nil)))))))) (pss_one (ps_ret pe_bl)) pss_nil)
        (pss_one (ps_ret (pe_and (pe_call GL hr1 (by rfl) gL kL bL .nil pass0 (pa_cons (pe_ix (r := rIx K) ix_seq (pv 0) pe_int (fun _ _ => rfl)) pa_nil)) (pe_and (pe_cmpR op_gt (pe_callB call_len_seq (by rfl) gN PySem.boot_len (pa_cons (pe_ix (r := rIx K) ix_seq (pv 0) pe_int (fun _ _ => rfl)) pa_nil)) pe_int (nomark _)) (pe_one (pe_call GL hr1 (by rfl) gL kL bL .nil pass0 (pa_cons (pe_ix (r := rIx K) ix_seq (pv 0) pe_int (fun _ _ => rfl)) pa_nil)))))))), ?_⟩
    have sq : ∀ {H' : Hp}, Same H H' → (SqL K H' p xs ∨ SqT K H' p xs) := fun {H'} s => hsq.elim (fun h => .inl (Same.seq s h)) (fun h => .inr (Same.seqT s h))
    have ixF : ∀ {H' : Hp} (j : Nat) (v' : V) (R : VK), Same H H' → xs[j]? = some v' → R v' H' → rIx K (.ref p) (.int (j : Nat)) H' R := fun {H'} j v' R s hj hR => by
      rcases sq s with h | h
      · exact .inl ⟨p, xs, (j : Int), v', rfl, rfl, h, atI_nat hj, hR⟩
      · exact .inr (.inl ⟨p, xs, (j : Int), v', rfl, rfl, h, atI_nat hj, hR⟩)
    have hxl := deAll_len hds
    have s0 := Same.refl H
    refine ⟨V.ref p, rfl, p, xs, rfl, sq s0, rfl, _, rfl, ?_⟩
    by_cases hl : xs.length = 4
    · rw [decide_eq_true (show V.int (xs.length : Nat) = V.int 4 by rw [hl]; rfl)]
      obtain ⟨h, t, b1, b2, rfl⟩ : ∃ h t b1 b2, ds = [h, t, b1, b2] := by
        match ds, hxl.symm.trans hl with
        | [h, t, b1, b2], _ => exact ⟨h, t, b1, b2, rfl⟩
      cases hds with
      | @cons v1 _ _ _ d1 hds =>
      cases hds with
      | @cons v2 _ _ _ d2 hds =>
      cases hds with
      | @cons v3 _ _ _ d3 hds =>
      cases hds with
      | @cons v4 _ _ _ d4 hds =>
      cases hds
      have ht := hh h t _ rfl
      have e0 : okIf [h, t, b1, b2] = (okT 6 t && (isTL b1 && (!(elems b1).isEmpty && isTL b2))) := rfl
      rw [e0] at kk
      refine iteF ⟨V.ref p, rfl, ixF 1 v2 _ s0 rfl ⟨v2, t, 6, rfl, by decide, d2, ht, fun H1 s1 => ⟨_, rfl, ?_⟩⟩⟩
      cases e1 : okT 6 t with
      | false =>
        rw [e1] at kk
        exact iteT (kk H1 s1)
      | true =>
        rw [e1] at kk
        have kk : ∀ H', Same H H' → Q (.bl (isTL b1 && (!(elems b1).isEmpty && isTL b2))) H' := kk
        refine iteF ⟨V.ref p, rfl, ixF 2 v3 _ s1 rfl ⟨v3, b1, rfl, de_mono s1 _ _ d3, fun H2 s2 => ⟨_, rfl, ?_⟩⟩⟩
        have s12 := s1.trans s2
        rcases tl_shape (de_mono s12 _ _ d3) with e | ⟨q, ys, rfl, hys, hsy, e⟩
        · rw [e] at kk ⊢
          exact iteF (kk H2 s12)
        · rw [e] at kk ⊢
          have kk : ∀ H', Same H H' → Q (.bl (!(elems b1).isEmpty && isTL b2)) H' := kk
          refine iteT ⟨V.ref p, rfl, ixF 2 (.ref q) _ s12 rfl ⟨q, ys, rfl, hsy, _, _, rfl, rfl, _, rfl, ?_⟩⟩
          have hyl := deAll_len hys
          refine ite2 (fun c => ?_) (fun c => ?_)
          · have c : (0 : Int) < (ys.length : Nat) := of_decide_eq_true c
            have e3 : (!(elems b1).isEmpty) = true := by
              cases hel : elems b1 with
              | nil =>
                rw [hel] at hyl
                simp only [List.length_nil] at hyl
                omega
              | cons y yr => rfl
            rw [e3] at kk
            exact ⟨V.ref p, rfl, ixF 3 v4 _ s12 rfl ⟨v4, b2, rfl, de_mono s12 _ _ d4, fun H3 s3 => kk H3 (s12.trans s3)⟩⟩
          · have e3 : (!(elems b1).isEmpty) = false := by
              cases hel : elems b1 with
              | nil => rfl
              | cons y yr =>
                rw [hel] at hyl
                simp only [List.length_cons] at hyl
                exact absurd (decide_eq_true (by show (0 : Int) < (ys.length : Nat); omega)) c
            rw [e3] at kk
            exact kk H2 s12
    · rw [decide_eq_false (fun z : V.int (xs.length : Nat) = V.int 4 => hl (by injection z with z; omega))]
      refine iteT ?_
      have e0 : okIf ds = false := by
        unfold okIf
        split
        · simp at hxl
          omega
        · rfl
      rw [← e0]
      exact kk H s0
end
end SK
namespace SK
open PySem PySem.Spec PyProof.Rows L2 LamX NdefX
open K0 (De DeAll XCl spX withX)
section
variable {P : Program} {w : World} {K : PySem.W.Frag} {mg : Str → Option Value} {base : Heap} {f fL fW fS fR fI : Addr} {fd fdL fdW fdS fdR fdI : FuncData}
theorem ok_st (F : Fun K "is_statement" "is_statement" (top 18) f fd) (gN : mg "len" = none)
    (gL : mg "is_list" = some (.ref fL)) (kL : PySem.W.keepIn K (.ref fL) = true) (GL : FnOk P w K mg base CX0 1 fL fdL ["value"] (spIsL K)) (bL : Binds K fdL ["value"] [])
    (gW : mg "is_word_let" = some (.ref fW)) (kW : PySem.W.keepIn K (.ref fW) = true) (GW : FnOk P w K mg base CX0 1 fW fdW ["name", "block"] (spWl K)) (bW : Binds K fdW ["name", "block"] [])
    (gS : mg "is_set" = some (.ref fS)) (kS : PySem.W.keepIn K (.ref fS) = true) (GS : FnOk P w K mg base CX0 1 fS fdS ["statement"] (spSet K)) (bS : Binds K fdS ["statement"] [])
    (gR : mg "is_return" = some (.ref fR)) (kR : PySem.W.keepIn K (.ref fR) = true) (GR : FnOk P w K mg base CX0 1 fR fdR ["statement", "block"] (spRet K)) (bR : Binds K fdR ["statement", "block"] [])
    (gI : mg "is_if" = some (.ref fI)) (kI : PySem.W.keepIn K (.ref fI) = true) (GI : FnOk P w K mg base CX0 10 fI fdI ["statement"] (spIf K)) (bI : Binds K fdI ["statement"] []) : FnOk P w K mg base CX0 11 f fd ["statement", "block"] (spSt K) := by
  have S0 : FnScope ["statement", "block", "name"] ["statement", "block"] (defScope (top 18)) := ⟨rfl, rfl, rfl, by decide +kernel, rfl, by decide +kernel, by decide +kernel⟩
  have nd := S0.nd
  refine F.ok S0 (fun vs H Q E h => ?_) (fun cdv A outer s H vs Q E hr h => ?_)
  · obtain ⟨v, d, blk, rfl, _⟩ := h
    rfl
  · obtain ⟨v, d, blk, rfl, hd, hb, hh, kk⟩ := h
    have hu64 := hr.units
    have hr1 : Room 1 _ := hr.mono (by decide)
    refine ⟨_, (pss_cons (ps_if (PW.pt (pw_or (pt_not (pt_val (pe_call GL hr1 (by rfl) gL kL bL .nil pass0 (pa_cons (pv 0) pa_nil)))) (pw_or1 (pt_cmpR op_eq (pe_callB call_len_seq (by rfl) gN PySem.boot_len (pa_cons (pv 0) pa_nil)) pe_int (nomark _))))) (pss_one (ps_ret pe_bl)) pss_nil)
        (pss_cons (ps_set (i := 2) nd rfl (Or.inl rfl) (pe_ix (r := rIx K) ix_seq (pv 0) pe_int (fun _ _ => rfl)))
        (pss_cons (ps_if (pt_cmpR op_eq (pe_callB call_len_seq (by rfl) gN PySem.boot_len (pa_cons (pv 0) pa_nil)) pe_int (nomark _)) (pss_one (ps_ret (pe_call GW hr1 (by rfl) gW kW bW .nil pass0 (pa_cons (pv 2) (pa_cons (pv 1) pa_nil))))) pss_nil)
        (pss_cons (ps_if (pt_cmpR (r := rEqD K) (op_eqD hu64) (pv 2) pe_str (nomark _)) (pss_one (ps_ret (pe_call GS hr1 (by rfl) gS kS bS .nil pass0 (pa_cons (pv 0) pa_nil)))) pss_nil)
        (pss_cons (ps_if (pt_cmpR (r := rEqD K) (op_eqD hu64) (pv 2) pe_str (nomark _)) (pss_one (ps_ret (pe_call GR hr1 (by rfl) gR kR bR .nil pass0 (pa_cons (pv 0) (pa_cons (pv 1) pa_nil))))) pss_nil)
        (pss_one (ps_ret (pe_and (pe_cmpR (r := rEqD K) (op_eqD hu64) (pv 2) pe_str (nomark _)) (pe_one (pe_call GI hr (by rfl) gI kI bI .nil pass0 (pa_cons (pv 0) pa_nil))))))))))), ?_⟩
    refine ⟨v, rfl, v, d, rfl, hd, fun H1 s1 => ⟨isTL d, rfl, ?_⟩⟩
    rcases tl_shape hd with e | ⟨p, xs, rfl, hds, hsq, e⟩
    · rw [e]
      refine iteT ?_
      have z := kk H1 s1
      unfold okS at z
      rw [e, Bool.false_and] at z
      exact z
    rw [e]
    have kk : ∀ b, okSL blk (elems d) = b → ∀ H', Same H H' → Q (.bl b) H' := fun b eb H' s => by
      have z := kk H' s
      unfold okS at z
      rw [e, Bool.true_and, eb] at z
      exact z
    have hh := fun h r => hh h r e
    generalize elems d = ds at hds kk hh
    have hds0 := hds
    have sq : ∀ {H' : Hp}, Same H H' → (SqL K H' p xs ∨ SqT K H' p xs) := fun {H'} s => hsq.elim (fun h => .inl (Same.seq s h)) (fun h => .inr (Same.seqT s h))
    have ixF : ∀ {H' : Hp} (j : Nat) (v' : V) (R : VK), Same H H' → xs[j]? = some v' → R v' H' → rIx K (.ref p) (.int (j : Nat)) H' R := fun {H'} j v' R s hj hR => by
      rcases sq s with h | h
      · exact .inl ⟨p, xs, (j : Int), v', rfl, rfl, h, atI_nat hj, hR⟩
      · exact .inr (.inl ⟨p, xs, (j : Int), v', rfl, rfl, h, atI_nat hj, hR⟩)
    cases hds with
    | nil => exact iteF ⟨V.ref p, rfl, p, [], rfl, sq s1, rfl, _, rfl, iteT (kk false rfl H1 s1)⟩
    | @cons v1 vr h r hd1 hdr =>
    have hlr := deAll_len hdr
    obtain ⟨hh1, hhr⟩ := hh h r rfl
    refine iteF ⟨V.ref p, rfl, p, _, rfl, sq s1, rfl, _, rfl, ?_⟩
    rw [decide_eq_false (fun z : V.int _ = V.int 0 => by injection z with z; simp at z; omega)]
    refine iteF ⟨V.ref p, rfl, ixF 0 v1 _ s1 rfl ?_⟩
    have dp1 : Dp K H1 v1 h := hh1.dp (de_mono s1 _ _ hd1)
    refine ⟨V.ref p, rfl, p, _, rfl, sq s1, rfl, _, rfl, ?_⟩
    cases hdr with
    | nil => exact iteT ⟨v1, rfl, V.str blk, rfl, v1, h, blk, rfl, de_mono s1 _ _ hd1, hb, kk _ rfl H1 s1⟩
    | @cons v2 vr2 e2 r2 hd2 hdr2 =>
      rw [decide_eq_false (fun z : V.int _ = V.int 1 => by injection z with z; simp at z; omega)]
      obtain ⟨hA, hI⟩ := hhr e2 r2 rfl
      have kk : ∀ b, okS2 blk h (h :: e2 :: r2) = b → ∀ H', Same H H' → Q (.bl b) H' := kk
      have hds1 := de_monoAll s1 _ _ hds0
      refine iteF ⟨v1, rfl, h, .str "set", dp1, .str _, hh1.shaped, by decide +kernel, _, rfl, ?_⟩
      rw [eqv_sr]
      by_cases c1 : nm h = some (Str.ofString "set")
      · rw [decide_eq_true c1]
        refine iteT ⟨V.ref p, rfl, p, _, _, rfl, sq s1, hds1, fun h' a' r' e' => ?_, fun H2 s2 => kk _ (if_pos c1) H2 (s1.trans s2)⟩
        injection e' with e1 e'
        injection e' with e1 e'
        rw [← e1]
        exact (hA (.inl c1)).1
      rw [decide_eq_false c1]
      refine iteF ⟨v1, rfl, h, .str "return", dp1, .str _, hh1.shaped, by decide +kernel, _, rfl, ?_⟩
      rw [eqv_sr]
      by_cases c2 : nm h = some (Str.ofString "return")
      · rw [decide_eq_true c2]
        refine iteT ⟨V.ref p, rfl, V.str blk, rfl, p, _, _, blk, rfl, sq s1, hds1, by simp, fun h' a' r' e' => ?_, fun H2 s2 => kk _ ((if_neg c1).trans (if_pos c2)) H2 (s1.trans s2)⟩
        injection e' with e1 e'
        injection e' with e1 e'
        rw [← e1]
        obtain ⟨q1, q2⟩ := hA (.inr c2)
        exact ⟨q1, fun c hc => q2 c (e'.trans hc) c2⟩
      rw [decide_eq_false c2]
      have e0 : okS2 blk h (h :: e2 :: r2) = (decide (nm h = some (Str.ofString "if")) && okIf (h :: e2 :: r2)) := (if_neg c1).trans (if_neg c2)
      refine iteF ⟨v1, rfl, h, .str "if", dp1, .str _, hh1.shaped, by decide +kernel, _, rfl, ?_⟩
      rw [eqv_sr]
      by_cases c3 : nm h = some (Str.ofString "if")
      · rw [decide_eq_true c3]
        refine iteT ⟨V.ref p, rfl, p, _, _, rfl, sq s1, hds1, fun h' a' r' e' => ?_, fun H2 s2 => kk _ (by rw [e0, decide_eq_true c3]; rfl) H2 (s1.trans s2)⟩
        injection e' with e1 e'
        injection e' with e1 e'
        rw [← e1]
        exact hI c3
      · rw [decide_eq_false c3]
        exact iteF (kk _ (by rw [e0, decide_eq_false c3]; rfl) H1 s1)
end
end SK
namespace SK
open PySem PySem.Spec PyProof.Rows L2 LamX NdefX HT
open K0 (De DeAll XCl spX withX)
/-! ### tuple[::-1], list.extend(tuple) -/
theorem rv_places (n : Nat) : Builtin.Slice.slicePlaces ((n : Int) - 1) (-1) (-1) = n := by
  unfold Builtin.Slice.slicePlaces
  rw [if_neg (by decide)]
  by_cases h : (n : Int) - 1 > -1
  · rw [if_pos h]
    have e : ((n : Int) - 1 - -1 - 1) / (- -1) + 1 = n := by
      rw [show (- -1 : Int) = 1 from rfl, Int.ediv_one]
      omega
    rw [e]
    rfl
  · rw [if_neg h]
    omega
theorem rv_adj (n : Nat) : Builtin.Slice.sliceAdjust none none (-1) (n : Int) = ((n : Int) - 1, -1) := rfl
theorem rv_list {α : Type} (l : List α) : ((List.range l.length).filterMap fun k => l[l.length - 1 - k]?) = l.reverse := by
  have h : ((List.range l.length).map fun k => l[l.length - 1 - k]?) = l.reverse.map some := by
    apply List.ext_getElem
    · simp
    · intro i h1 h2
      simp only [List.length_map, List.length_range] at h1
      simp only [List.getElem_map, List.getElem_range, List.getElem_reverse]
      exact List.getElem?_eq_getElem (by omega)
  have e : ((List.range l.length).filterMap fun k => l[l.length - 1 - k]?) = ((List.range l.length).map fun k => l[l.length - 1 - k]?).filterMap id := by
    rw [List.filterMap_map]
    rfl
  rw [e, h, List.filterMap_map]
  show l.reverse.filterMap some = l.reverse
  exact List.filterMap_some
theorem fm_congr {α β : Type} {f g : α → Option β} : ∀ {l : List α}, (∀ x ∈ l, f x = g x) → l.filterMap f = l.filterMap g
  | [], _ => rfl
  | a :: l, h => by
    rw [List.filterMap_cons, List.filterMap_cons, h a (by simp), fm_congr fun x hx => h x (List.mem_cons_of_mem _ hx)]
theorem rv_pick (xs : Array Value) : ((List.range xs.size).filterMap fun k : Nat => xs[(((xs.size : Int) - 1) + (k : Int) * (-1)).toNat]?).toArray = xs.toList.reverse.toArray := by
  rw [← rv_list, Array.length_toList]
  congr 1
  refine fm_congr fun k hk => ?_
  have hk := List.mem_range.mp hk
  have e : (((xs.size : Int) - 1) + (k : Int) * (-1)).toNat = xs.size - 1 - k := by omega
  rw [e, Array.getElem?_toList]
section
variable {prog : Program} {w : World} {A : Around} {E : Value → Shared → Prop} {s : Shared}
theorem rv_applied {sl : Addr} {vs : Value} {n : Nat} {Q : Int × Int × Nat → Shared → Prop} (hs : s.heap.IsSliceOf sl .none .none vs) (pv : IsPart vs (some (-1))) (h : Q ((n : Int) - 1, -1, n) s) : wpAny (model prog w) A (Builtin.Slice.sliceApplied (.ref sl) (pure (n : Int))) Q E s := by
  obtain ⟨os, h1, h2, h3⟩ := id hs
  unfold Builtin.Slice.sliceApplied; unfold Builtin.Slice.sliceFields
  refine wpAny_bind (wpAny_bind (wpAny_field h1 h3 (x := .none) rfl (wpAny_bind (wpAny_field h1 h3 (x := .none) rfl (wpAny_bind (wpAny_field h1 h3 (x := vs) rfl (wpAny_pure ?_)))))))
  refine wpAny_bind (slicePart_ pv ?_)
  show wpAny _ _ (if ((-1 : Int) == 0) = true then _ else _) _ _ s
  rw [if_neg (by decide)]
  refine wpAny_bind (slicePart_none (wpAny_bind (slicePart_none (wpAny_bind (wpAny_pure ?_)))))
  show wpAny _ _ (pure ((n : Int) - 1, (-1 : Int), Builtin.Slice.slicePlaces ((n : Int) - 1) (-1) (-1))) _ _ s
  rw [rv_places]
  exact wpAny_pure h
theorem item_tupRev {t sl : Addr} {items : Array Value} {vs : Value} {Q : Value → Shared → Prop} (ht : IsTup s.heap t items) (hs : s.heap.IsSliceOf sl .none .none vs) (pv : IsPart vs (some (-1)))
    (h : Q (.ref s.heap.objs.size) { s with heap := s.heap.push { cls := .type "tuple", data := .seq items.toList.reverse.toArray } }) (hz : items.size ≤ sizeLine) : wpAny (model prog w) A (getItem (.ref t) (.ref sl)) Q E s := by
  have hsz : sizeOk (.seq items.toList.reverse.toArray) := by
    show items.toList.reverse.toArray.size ≤ sizeLine
    rw [List.size_toArray, List.length_reverse, Array.length_toList]
    exact hz
  obtain ⟨os, h1, h2, h3⟩ := id hs
  have hT : s.TypeIs (.ref sl) "slice" := ⟨os, h1, h2⟩
  unfold getItem
  try (with_reducible refine wpAny_holding ?_)
  try refine wpAny_bind (wpAny_pure ?_)
  refine wpAny_bind (wpAny_sequenceKey ht.typeIs (by decide) (wpAny_bind (wpAny_callSpecial?_slot (name := Str.ofString "__getitem__") ht.typeIs PyProof.Rows.slot_tuple_getitem (wpAny_call_entry PyProof.Rows.slot_tuple_getitem ht.typeIs entry_tuple_getitem ?_ (args_tuple_getitem _ _)))))
  show wpAny _ _ (Builtin.Tuple.tupleItemsOf (.ref t) >>= _) _ _ s
  refine wpAny_bind (tupleItemsOf_ ht (wpAny_bind (wpAny_typeOf hT ?_)))
  rw [if_pos (by decide)]
  refine wpAny_bind (rv_applied hs pv ?_)
  have hno : ¬ ((((items.size : Int) - 1) == 0 && (-1 : Int) == 1 && items.size == items.size) = true) := by
    intro q
    rw [Bool.and_eq_true, Bool.and_eq_true] at q
    exact absurd q.1.2 (by decide)
  show wpAny _ _ (if (((items.size : Int) - 1) == 0 && (-1 : Int) == 1 && items.size == items.size) = true then _ else _) _ _ s
  rw [if_neg hno, rv_pick]
  exact wpAny_bind (m := Builtin.Tuple.tupleExact _) (wpAny_newObj_type (wpAny_pure ⟨_, rfl, wpAny_pure h⟩) hsz)
end
def tRevT (K : PySem.W.Frag) (te : TE) : TE := fun σ H Q => te σ H fun x H1 => ∃ a xs, x = .ref a ∧ SqT K H1 a xs ∧ ∀ p, H1 p = none → Q (.ref p) (upd H1 p (.tup xs.reverse))
theorem pe_revT {X : Cx} {e : Expr} {te : TE} {k : Nat} {p1 p2 p3 pos : Pos} (he : PE X e te) : PE X (.Subscript e (.Slice none none (some (.UnaryOp .USub (.Constant (.int 1) k p1) p2)) p3) pos) (tRevT X.K te) := by
  refine ⟨fun pins s σ H Q I h => Subscript_ (thn (he.run pins s σ H _ I h) fun v s1 ⟨x, H1, I1, r1, a, xs, ex, hx, q⟩ => ?_)⟩
  subst ex
  cases r1
  have st : PO X (some (.UnaryOp .USub (.Constant (.int 1) k p1) p2)) (tPart (tUn (rU fun i => .int (-i)) (tC (.int 1)))) := po_some (pe_un un_neg pe_int)
  refine wpAny_Slice (thn (po_none.run pins s1 σ H1 (fun o H2 => o = none ∧ H2 = H1) I1 ⟨rfl, rfl⟩) fun lo s2 ⟨l, H2, I2, pl, el, e2⟩ => ?_); subst el e2
  refine thn (po_none.run pins s2 σ H2 (fun o H3 => o = none ∧ H3 = H2) I2 ⟨rfl, rfl⟩) fun hi s3 ⟨u, H3, I3, pu, eu, e3⟩ => ?_; subst eu e3
  refine thn (st.run pins s3 σ H3 (fun o H4 => o = some (-1) ∧ H4 = H3) I3 ⟨1, rfl, -1, rfl, rfl, rfl⟩) fun vs s4 ⟨o, H4, I4, ps, eo, e4⟩ => ?_; subst eo e4
  have I5 : Inv X pins σ H4 { s4 with heap := s4.heap.push { cls := .type "slice", data := .fields #[lo, hi, vs] } } := I4.kept (t' := s4.toks) fun b ob q => Heap.get?_push_of_some _ q
  obtain ⟨its, r, ht, hz⟩ := I5.tuple hx
  show wpAny (model X.prog X.w) X.A (subscriptTail e (.Slice none none (some (.UnaryOp .USub (.Constant (.int 1) k p1) p2)) p3) (.ref a) (.ref s4.heap.objs.size)) (EP X pins σ Q) X.xe { s4 with heap := s4.heap.push { cls := .type "slice", data := .fields #[lo, hi, vs] } }
  cases pl
  cases pu
  refine tail_any (ops := [.ref a, .ref s4.heap.objs.size]) ht.typeIs (PyProof.Rows.slot_tuple_getitem.lookup) ?_ (by with_unfolding_all rfl)
  refine item_tupRev ht (Heap.IsSliceOf.new _ .none .none vs) ps ?_ (by rw [List.size_toArray, ← r.length]; exact hz)
  refine ⟨.ref _, _, I5.laid (t' := s4.toks) (o := .tup xs.reverse) (fun b ob q => Heap.get?_push_of_some _ q) (Nat.le_refl _) ?_, rfl, q _ (I5.hok.fresh (Nat.le_refl _))⟩
  exact ⟨by rw [List.length_reverse]; exact hz, _, r.reverse, IsTup.new _ _⟩
theorem pe_either {X : Cx} {e : Expr} {t1 t2 : TE} (h1 : PE X e t1) (h2 : PE X e t2) : PE X e (fun σ H Q => t1 σ H Q ∨ t2 σ H Q) := ⟨fun pins s σ H Q I h => h.elim (h1.run pins s σ H Q I) (h2.run pins s σ H Q I)⟩
end SK
namespace PySem.SeqAt
open PySem
theorem ext_tup (l b : Addr) (xs ys : Array Value) (n m : Nat) (dd : Option Addr) (sl : Array (Option Value)) (h0 : ¬ (!xs.isEmpty && Builtin.List.listTooLong (xs.size + ys.size)) = true) (h1 : xs.size ≤ sizeLine) (h2 : xs.size + ys.size ≤ sizeLine + 1) :
    Meets (Builtin.«list.extend» ⟨[.ref l, .ref b], []⟩) (fun _ R s => s.heap.get? l = some { cls := .type "list", dict := none, data := .seq xs n, slots := #[] } ∧ s.heap.get? b = some { cls := .type "tuple", dict := dd, data := .seq ys m, slots := sl } ∧ R (.ok (.ret Value.none)) { s with heap := s.heap.update l (Obj.mapSeq fun x => x ++ ys), toks := s.toks }) :=
  .of_wp fun prog w A R s h => by
    obtain ⟨hp, g, d, tk, os⟩ := s
    obtain ⟨hl, hb, h⟩ := h
    have f1 := PySem.F.sub_tuple_tuple
    have f2 := PySem.F.sub_list_list
    have f3 := PySem.F.sub_tuple_list
    have f4 := PySem.F.sub_list_tuple
    have hz' : (xs ++ ys).size ≤ sizeLine + 1 := by rw [Array.size_append]; exact h2
    wp_walk using (wpAny_updateSeq hl rfl (hz := h1) (_hz' := hz')), wpAny_loadPart' hl, wpAny_loadPart' hb
    exact ⟨_, rfl, h⟩
end PySem.SeqAt
namespace SK
open PySem PySem.Spec PyProof.Rows L2 LamX NdefX
open K0 (De DeAll XCl spX withX)
section
variable {X : Cx}
def rExtT (K : PySem.W.Frag) : V → List V → Hp → VK → Prop := fun x vs H Q => ∃ l b xs zs, x = .ref l ∧ vs = [.ref b] ∧ H l = some (.lst xs) ∧ SqT K H b zs ∧ xs.length + zs.length ≤ sizeLine ∧ Q .non (upd H l (.lst (xs ++ zs)))
theorem mt_extT : MtM X "list.extend" (rExtT X.K) := by
  intro pins s σ H x vs v us Q I rx rv h
  obtain ⟨l, b, xs, zs, rfl, rfl, h1, h2, hz, q⟩ := h
  cases rx
  obtain ⟨u, rfl, ru⟩ := rv.one
  cases ru
  obtain ⟨z, its, n, r, hl, e⟩ := I.lstM h1
  obtain ⟨jts, r2, ht, z2⟩ := I.tuple h2
  obtain ⟨⟨cls, dd, data, sl⟩, ho, hc, m, hd⟩ := id ht
  simp only at hc hd
  subst hc hd
  have l1 := r.length
  have l2 := r2.length
  have hs : its.toArray.size + jts.toArray.size ≤ sizeLine := by simp only [List.size_toArray]; omega
  have hno : ¬ (!its.toArray.isEmpty && Builtin.List.listTooLong (its.toArray.size + jts.toArray.size)) = true := by rw [notLongL hs, Bool.and_false]; simp
  refine call_meets F.slot_list_extend ⟨_, e, rfl⟩ F.entry_list_extend (F.args_list_extend_2 _ _) (SeqAt.ext_tup l b its.toArray jts.toArray n m dd sl hno (by simp only [List.size_toArray] at hs ⊢; omega) (by omega)) ⟨e, ho, ?_⟩
  exact ⟨.non, _, I.lset (its' := its ++ jts) h1 e (by simp) (r.append r2) (by rw [List.length_append]; omega), rfl, q⟩
theorem mtm_or {id : String} {r r' : V → List V → Hp → VK → Prop} (h : MtM X id r) (h' : MtM X id r') : MtM X id (fun x xs H Q => r x xs H Q ∨ r' x xs H Q) := fun pins s σ H x xs v us Q I rx rv q =>
  q.elim (h pins s σ H x xs v us Q I rx rv) (h' pins s σ H x xs v us Q I rx rv)
end
end SK
namespace SK
open PySem PySem.Spec PyProof.Rows L2 LamX NdefX
open K0 (De DeAll XCl spX withX)
/-! ### how many statements -/
def inner (d : PyData) : List PyData := match elems d with
  | [h, _, b1, b2] => if nm h = some (Str.ofString "if") then elems b1 ++ elems b2 else []
  | _ => []
/-- the number of statements, or the number of the first wrong one -/
def scanF (blk : Str) : Nat → List PyData → Nat → Option (Nat ⊕ Nat)
  | _, [], n => some (.inr n)
  | 0, _ :: _, _ => none
  | F + 1, d :: r, n => if okS blk d = true then scanF blk F (inner d ++ r) (n + 1) else some (.inl n)
def scanH (blk : Str) : Nat → List PyData → Prop
  | 0, _ => True
  | F + 1, ws => ws.length ≤ 5000 ∧ ∀ d r, ws = d :: r → hdS d ∧ (okS blk d = true → (elems d).length ≤ 5000 ∧ scanH blk F (inner d ++ r))
def spNum (K : PySem.W.Frag) (C : Addr) : Sp := fun vs H Q E => ∃ (v : V) (d : PyData) (blk : Str), vs = [.str blk, v] ∧ De K H v d ∧ blk ∈ blk3 ∧
  (isTL d = false → Thrown E C H [("number", .int 0), ("block", .str blk)]) ∧
  (isTL d = true → ∃ F res, scanF blk F (elems d) 0 = some res ∧ scanH blk (F + 1) (elems d) ∧ (∀ n : Nat, res = .inr n → ∀ H', Same H H' → Q (.int (n : Nat)) H') ∧ (∀ n : Nat, res = .inl n → Thrown E C H [("number", .int (n : Nat)), ("block", .str blk)]))
theorem none_of {H H1 : Hp} {a : Addr} (s : Same H H1) (n : H1 a = none) : H a = none := by
  cases e : H a with
  | none => rfl
  | some o =>
    rw [s _ _ e] at n
    cases n
theorem rev_go {K : PySem.W.Frag} {te : TE} {σ : St} {H1 : Hp} {p : Addr} {xs : List V} {Q : VK} (ht : ∀ Q' : VK, Q' (.ref p) H1 → te σ H1 Q') (hs : SqL K H1 p xs ∨ SqT K H1 p xs)
    (k : ∀ (G : Hp) (r : Addr), Same H1 G → H1 r = none → (G r = some (.lst xs.reverse) ∨ G r = some (.tup xs.reverse)) → Q (.ref r) G) : tRevL K te σ H1 Q ∨ tRevT K te σ H1 Q := by
  rcases hs with h | h
  · exact .inl (ht _ ⟨p, xs, rfl, h, fun r nr => k _ r (upd_new nr) nr (.inl upd_same)⟩)
  · exact .inr (ht _ ⟨p, xs, rfl, h, fun r nr => k _ r (upd_new nr) nr (.inr upd_same)⟩)
theorem ext_go {K : PySem.W.Frag} {G : Hp} {q r : Addr} {cur zs : List V} {R : VK} (h : G r = some (.lst zs) ∨ G r = some (.tup zs)) (hq : G q = some (.lst cur)) (hz : cur.length + zs.length ≤ sizeLine) (k : R .non (upd G q (.lst (cur ++ zs)))) :
    rExtend (.ref q) [.ref r] G R ∨ rExtT K (.ref q) [.ref r] G R := h.elim (fun h => .inl ⟨q, r, cur, zs, rfl, rfl, hq, h, hz, k⟩) (fun h => .inr ⟨q, r, cur, zs, rfl, rfl, hq, .inl (.inl h), hz, k⟩)
/-- what a statement that is right is made of -/
theorem okS_shape {blk : Str} {d : PyData} (h : okS blk d = true) : isTL d = true ∧ ∃ h' r, elems d = h' :: r ∧ (nm h' = some (Str.ofString "if") → ∃ t b1 b2, r = [t, b1, b2] ∧ isTL b1 = true ∧ isTL b2 = true) := by
  unfold okS at h
  rw [Bool.and_eq_true] at h
  refine ⟨h.1, ?_⟩
  have h2 := h.2
  generalize elems d = ds at h2
  match ds, h2 with
  | [x], h2 =>
    refine ⟨x, [], rfl, fun e => ?_⟩
    have z : wordLet x blk = true := h2
    unfold wordLet at z
    rw [e] at z
    have e2 : letD (Str.ofString "if") = [] := by decide +kernel
    have z : decide (blk ∈ letD (Str.ofString "if")) = true := z
    rw [e2] at z
    cases z
  | x :: a :: r, h2 =>
    refine ⟨x, a :: r, rfl, fun e => ?_⟩
    have z : okS2 blk x (x :: a :: r) = true := h2
    unfold okS2 at z
    rw [if_neg (fun q => by rw [e] at q; exact absurd q (by decide)), if_neg (fun q => by rw [e] at q; exact absurd q (by decide)), Bool.and_eq_true] at z
    have z := z.2
    match r, z with
    | [b1, b2], z =>
      have z : (okT 6 a && (isTL b1 && (!(elems b1).isEmpty && isTL b2))) = true := z
      simp only [Bool.and_eq_true] at z
      exact ⟨a, b1, b2, rfl, z.2.1, z.2.2.2⟩
section
variable {P : Program} {w : World} {K : PySem.W.Frag} {mg : Str → Option Value} {base : Heap} {f fL fSt C : Addr} {fd fdL fdSt : FuncData}
abbrev NNu : List Str := ["name", "block", "number", "ahead", "statement"]
theorem ok_num (F : Fun K "number_of_statements" "number_of_statements" (top 19) f fd) (D : XR P w K mg base "BadStatement" C ["block", "number"]) (gLi : mg "list" = none)
    (gL : mg "is_list" = some (.ref fL)) (kL : PySem.W.keepIn K (.ref fL) = true) (GL : FnOk P w K mg base CX0 1 fL fdL ["value"] (spIsL K)) (bL : Binds K fdL ["value"] [])
    (gSt : mg "is_statement" = some (.ref fSt)) (kSt : PySem.W.keepIn K (.ref fSt) = true) (GSt : FnOk P w K mg base CX0 11 fSt fdSt ["statement", "block"] (spSt K)) (bSt : Binds K fdSt ["statement", "block"] []) :
    FnOk P w K mg base (L2.CX P w) 12 f fd ["name", "block"] (spNum K C) := by
  have S0 : FnScope NNu ["name", "block"] (defScope (top 19)) := ⟨rfl, rfl, rfl, by decide +kernel, rfl, by decide +kernel, by decide +kernel⟩
  have nd := S0.nd
  refine F.okX S0 (fun vs H Q E h => ?_) (fun cdv A outer s H vs Q E hr h => ?_)
  · obtain ⟨v, d, blk, rfl, _⟩ := h
    rfl
  · obtain ⟨v, d, blk, rfl, hd, hb, k1, k2⟩ := h
    obtain ⟨fi, fdi, iC, tI, F1, b1⟩ := D.ini
    have hu64 := hr.units
    have hr1 : Room 1 _ := hr.mono (by decide)
    have hr2 : Room 2 _ := hr.mono (by decide)
    refine ⟨_, (pss_cons (ps_if (pt_not (pt_val (pe_call GL hr1 (by rfl) gL kL bL .nil pass0 (pa_cons (pv 1) pa_nil)))) (pss_one (ps_raise rfl (takes_of rfl rfl rfl rfl) (pmk_oex D.cl.T iC tI F1 hr2 b1 .nil pass0 (by rfl) D.gC (pa_cons (pv 0) (pa_cons pe_int pa_nil))))) pss_nil)
        (pss_cons (ps_set (i := 2) nd rfl (Or.inl rfl) pe_int)
        (pss_cons (ps_set (i := 3) nd rfl (Or.inl rfl) (pe_callTy call_list_of (by rfl) gLi PyProof.Rows.boot_list (pa_cons (pe_either (pe_revL (pv 1)) (pe_revT (pv 1))) pa_nil)))
        (pss_cons (ps_while (passes_of rfl) (pt_truth (pv 3) (fun _ => rfl)) (pss_cons (ps_set (i := 4) nd rfl (Or.inl rfl) (pe_bm0 PySem.F.plainAttrs_list PySem.F.slot_list_pop PySem.F.type_list_pop mt_pop (pv 3)))
        (pss_cons (ps_if (pt_not (pt_val (pe_call GSt hr (by rfl) gSt kSt bSt .nil pass0 (pa_cons (pv 4) (pa_cons (pv 0) pa_nil))))) (pss_one (ps_raise rfl (takes_of rfl rfl rfl rfl) (pmk_oex D.cl.T iC tI F1 hr2 b1 .nil pass0 (by rfl) D.gC (pa_cons (pv 0) (pa_cons (pv 2) pa_nil))))) pss_nil)
        (pss_cons (ps_aug (i := 2) nd rfl (Or.inl rfl) pe_int ip_add)
        (pss_one (ps_if (pt_cmpR (r := rEqD K) (op_eqD hu64) (pe_ix (r := rIx K) ix_seq (pv 4) pe_int (fun _ _ => rfl)) pe_str (nomark _)) (pss_cons (ps_expr (pe_bm PySem.F.plainAttrs_list PySem.F.slot_list_extend PySem.F.type_list_extend (mtm_or mt_extend mt_extT) (pv 3) (pa_cons (pe_either (pe_revL (pe_ix (r := rIx K) ix_seq (pv 4) pe_int (fun _ _ => rfl))) (pe_revT (pe_ix (r := rIx K) ix_seq (pv 4) pe_int (fun _ _ => rfl)))) pa_nil)))
        (pss_one (ps_expr (pe_bm PySem.F.plainAttrs_list PySem.F.slot_list_extend PySem.F.type_list_extend (mtm_or mt_extend mt_extT) (pv 3) (pa_cons (pe_either (pe_revL (pe_ix (r := rIx K) ix_seq (pv 4) pe_int (fun _ _ => rfl))) (pe_revT (pe_ix (r := rIx K) ix_seq (pv 4) pe_int (fun _ _ => rfl)))) pa_nil))))) pss_nil))))))
        (pss_one (ps_ret (pv 2))))))), ?_⟩
    refine ⟨v, rfl, v, d, rfl, hd, fun H1 s1 => ⟨isTL d, rfl, ?_⟩⟩
    rcases tl_shape hd with e | ⟨p, xs, rfl, hds, hsq, e⟩
    · rw [e]
      exact iteT ⟨V.str blk, rfl, rd_mk rfl (by show 2 ≤ 1000; decide) fun dx H' s' n' q => k1 e H' dx (s1.trans s') (none_of s1 n') q⟩
    rw [e]
    refine iteF ?_
    obtain ⟨F0, res, hsc, hsh, r1, r2⟩ := k2 e
    generalize elems d = ds at hds hsc hsh
    have sq : ∀ {H' : Hp}, Same H H' → (SqL K H' p xs ∨ SqT K H' p xs) := fun {H'} s => hsq.elim (fun h => .inl (Same.seq s h)) (fun h => .inr (Same.seqT s h))
    refine rev_go (p := p) (xs := xs) (fun Q' h => ⟨V.ref p, rfl, h⟩) (sq s1) fun G0 r0 s0 nr0 hr0 => ⟨r0, _, rfl, hr0.elim (fun h => .inl (.inl (.inl h))) (fun h => .inr (.inl (.inl h))), fun q nq => ?_⟩
    have s2 := upd_new (o := .lst xs.reverse) nq
    have hq2 : upd G0 q (.lst xs.reverse) q = some (.lst xs.reverse) := upd_same
    have s02 := (s1.trans s0).trans s2
    have nqH : H q = none := none_of (s1.trans s0) nq
    generalize upd G0 q (.lst xs.reverse) = G2 at s2 hq2 s02
    refine ⟨fun m σ G => ∃ (ws : List PyData) (ys : List V) (n : Nat) (x4 : Option V), σ = [some (.str blk), some (.ref p), some (.int (n : Nat)), some (.ref q), x4] ∧ G q = some (.lst ys.reverse) ∧ DeAll K H ys ws ∧ scanF blk m ws n = some res ∧ scanH blk (m + 1) ws ∧ Same H G, ⟨F0, ds, xs, 0, none, rfl, hq2, hds, hsc, hsh, s02⟩, ?_⟩
    rintro m σ G ⟨ws, ys, n, x4, rfl, hq, hdw, hsc, hsh, sG⟩
    refine ⟨V.ref q, rfl, !ys.reverse.isEmpty, .inl ⟨ys.reverse, .inl (.inl hq), rfl⟩, ?_⟩
    cases hdw with
    | nil =>
      have er : res = .inr n := by
        have z : scanF blk m [] n = some (.inr n) := by cases m <;> rfl
        rw [z] at hsc
        exact (Option.some.inj hsc).symm
      exact iteF ⟨V.int n, rfl, r1 n er G sG⟩
    | @cons v1 vr dd r hd1 hdr =>
      cases m with
      | zero => cases hsc
      | succ m =>
      have hsc : (if okS blk dd = true then scanF blk m (inner dd ++ r) (n + 1) else some (.inl n)) = some res := hsc
      obtain ⟨hwl, hsh⟩ := hsh
      obtain ⟨hdd, hnx⟩ := hsh dd r rfl
      rw [List.reverse_cons] at hq ⊢
      have hne : (!(vr.reverse ++ [v1]).isEmpty) = true := by simp
      rw [hne]
      refine iteT ⟨fun σ G => ∃ (ws : List PyData) (ys : List V) (n : Nat) (x4 : Option V), σ = [some (.str blk), some (.ref p), some (.int (n : Nat)), some (.ref q), x4] ∧ G q = some (.lst ys.reverse) ∧ DeAll K H ys ws ∧ scanF blk m ws n = some res ∧ scanH blk (m + 1) ws ∧ Same H G, fun σ' H' h => ⟨m, by omega, h⟩, ?_⟩
      refine ⟨V.ref q, rfl, .inl ⟨rfl, _, .inl (.inl hq)⟩, q, _, v1, rfl, rfl, hq, by simp, ?_⟩
      rw [List.dropLast_concat]
      have sU : ∀ {G' : Hp} {o : HO}, Same H G' → Same H (upd G' q o) := fun {G' o} s c u h => by
        rw [upd_ne (ne_of_none h nqH)]
        exact s _ _ h
      have s3 : Same H (upd G q (.lst vr.reverse)) := sU sG
      have hq3 : upd G q (.lst vr.reverse) q = some (.lst vr.reverse) := upd_same
      generalize upd G q (.lst vr.reverse) = G3 at s3 hq3
      refine ⟨v1, rfl, V.str blk, rfl, v1, dd, blk, rfl, de_mono s3 _ _ hd1, hb, hdd, fun G4 s4 => ⟨okS blk dd, rfl, ?_⟩⟩
      have s34 := s3.trans s4
      have hq4 := s4 _ _ hq3
      cases eo : okS blk dd with
      | false =>
        rw [eo, if_neg Bool.false_ne_true] at hsc
        exact iteT ⟨V.str blk, rfl, V.int n, rfl, rd_mk rfl (by show 2 ≤ 1000; decide) fun dx H' s' n' q => r2 n (Option.some.inj hsc).symm H' dx (s34.trans s') (none_of s34 n') q⟩
      | true =>
        rw [eo, if_pos rfl] at hsc
        obtain ⟨hel, hnx⟩ := hnx eo
        obtain ⟨ht, h', r', ee, hif⟩ := okS_shape eo
        rcases tl_shape hd1 with z | ⟨p1, us, rfl, hus, hsu, _⟩
        · rw [z] at ht
          cases ht
        have squ : ∀ {H' : Hp}, Same H H' → (SqL K H' p1 us ∨ SqT K H' p1 us) := fun {H'} s => hsu.elim (fun h => .inl (Same.seq s h)) (fun h => .inr (Same.seqT s h))
        have ixF : ∀ {H' : Hp} (j : Nat) (v' : V) (R : VK), Same H H' → us[j]? = some v' → R v' H' → rIx K (.ref p1) (.int (j : Nat)) H' R := fun {H'} j v' R s hj hR => by
          rcases squ s with h | h
          · exact .inl ⟨p1, us, (j : Int), v', rfl, rfl, h, atI_nat hj, hR⟩
          · exact .inr (.inl ⟨p1, us, (j : Int), v', rfl, rfl, h, atI_nat hj, hR⟩)
        have hh' : HdOk h' := (hdd h' r' ht ee).1
        rw [ee] at hus
        have hus0 := hus
        cases hus with
        | @cons u0 ur _ _ hu0 hur =>
        refine iteF ⟨V.int n, rfl, (n : Int), 1, rfl, rfl, ?_⟩
        refine ⟨V.ref p1, rfl, ixF 0 u0 _ s34 rfl ⟨h', .str "if", hh'.dp (de_mono s34 _ _ hu0), .str _, hh'.shaped, by decide +kernel, _, rfl, ?_⟩⟩
        rw [eqv_sr]
        by_cases c1 : nm h' = some (Str.ofString "if")
        · rw [decide_eq_true c1]
          obtain ⟨t, b1', b2', rfl, hT1, hT2⟩ := hif c1
          cases hur with
          | @cons u1 _ _ _ hu1 hur =>
          cases hur with
          | @cons u2 _ _ _ hu2 hur =>
          cases hur with
          | @cons u3 _ _ _ hu3 hur =>
          cases hur
          rcases tl_shape hu2 with z | ⟨p2, ys1, rfl, hy1, hs2, _⟩
          · rw [z] at hT1
            cases hT1
          rcases tl_shape hu3 with z | ⟨p3, ys2, rfl, hy2, hs3, _⟩
          · rw [z] at hT2
            cases hT2
          have ei : inner dd = elems b1' ++ elems b2' := by
            unfold inner
            rw [ee]
            exact if_pos c1
          have hz5 := hnx.1
          rw [ei] at hsc hnx hz5
          have l1 := deAll_len hy1
          have l2 := deAll_len hy2
          have l3 := deAll_len hdr
          rw [List.length_append, List.length_append] at hz5
          have b5 : (5000 : Nat) < sizeLine := by decide
          refine iteT ⟨V.ref q, rfl, .inl ⟨rfl, _, .inl (.inl hq4)⟩, rev_go (p := p3) (xs := ys2) (fun Q' h => ⟨V.ref p1, rfl, ixF 3 (.ref p3) _ s34 rfl h⟩) (hs3.elim (fun h => .inl (Same.seq s34 h)) (fun h => .inr (Same.seqT s34 h))) fun G5 r5 s5 nr5 hr5 => ext_go hr5 (s5 _ _ hq4) (by rw [List.length_reverse, List.length_reverse]; omega) ?_⟩
          have s6 : Same H (upd G5 q (.lst (vr.reverse ++ ys2.reverse))) := sU (s34.trans s5)
          have hq6 : upd G5 q (.lst (vr.reverse ++ ys2.reverse)) q = some (.lst (vr.reverse ++ ys2.reverse)) := upd_same
          generalize upd G5 q (.lst (vr.reverse ++ ys2.reverse)) = G6 at s6 hq6
          refine ⟨V.ref q, rfl, .inl ⟨rfl, _, .inl (.inl hq6)⟩, rev_go (p := p2) (xs := ys1) (fun Q' h => ⟨V.ref p1, rfl, ixF 2 (.ref p2) _ s6 rfl h⟩) (hs2.elim (fun h => .inl (Same.seq s6 h)) (fun h => .inr (Same.seqT s6 h))) fun G7 r7 s7 nr7 hr7 => ext_go hr7 (s7 _ _ hq6) (by rw [List.length_append, List.length_reverse, List.length_reverse, List.length_reverse]; omega) ?_⟩
          refine ⟨elems b1' ++ elems b2' ++ r, ys1 ++ ys2 ++ vr, n + 1, _, rfl, ?_, deAll_app (deAll_app hy1 hy2) hdr, hsc, hnx, sU (s6.trans s7)⟩
          rw [upd_same, List.reverse_append, List.reverse_append, List.append_assoc]
        · rw [decide_eq_false c1]
          have ei : inner dd = [] := by
            unfold inner
            rw [ee]
            split
            · rename_i e
              injection e with e1 e2
              rw [← e1, if_neg c1]
            · rfl
          rw [ei, List.nil_append] at hsc hnx
          exact iteF ⟨r, vr, n + 1, _, rfl, hq4, hdr, hsc, hnx, s34⟩
end
end SK
namespace SK
open PySem PySem.Spec PyProof.Rows L2 LamX NdefX
open K0 (De DeAll XCl spX withX)
/-! ### three blocks -/
section
variable {K : PySem.W.Frag} {a : Addr} {xs : List V} {g : TG} {tt : TT} {te : TE} {vs : List Nat} {σ : St} {H1 : Hp} {D : Addr} {Qd : Hp → Prop}
theorem lcS_tup {α : Type} {ws : List α} (enc : α → V) (nD : H1 D = none) (f : α → V) (c : α → Bool) (hS : SqT K H1 a (ws.map enc)) (hz : ws.length < sizeLine) (step : ∀ (i : Nat) (x : α) (H : Hp), ws[i]? = some x → Same H1 H → TurnS g tt te vs σ (enc x) (f x) (c x) H)
    (fin : ∀ H, Same H1 H → H D = some (.lst ((ws.filter c).map f)) → Qd H) :
    ∃ W : Nat → Nat → Hp → Prop, (∃ m, W 0 m (upd H1 D (.lst []))) ∧ ∀ i m H, W i m H →
      ((Itt K a).stop i H ∧ Qd H) ∨ ((Itt K a).go i H ∧ ∃ Nx : Hp → Prop, (∀ H', Nx H' → ∃ m', m' < m ∧ W (i + 1) m' H') ∧ ∀ x H', (Itt K a).yld i H x H' → g x (wipe σ vs) H' fun σ2 H2 => wipe σ2 vs = wipe σ vs ∧ tt σ2 H2 fun b H3 =>
        if b = true then te σ2 H3 fun y H4 => ∃ acc, H4 D = some (.lst acc) ∧ acc.length < sizeLine ∧ Nx (upd H4 D (.lst (acc ++ [y]))) else Nx H3) := by
  refine lc_tup (K := K) (a := a) (xs := ws.map enc) (fun i H => Same H1 H ∧ H D = some (.lst (((ws.take i).filter c).map f))) ⟨same_new nD, upd_same⟩ (fun i H _ p => SK.Same.seqT p.1 hS) (fun i x H hx p => ?_) fun H p => fin H p.1 (by rw [List.length_map, List.take_length] at p; exact p.2)
  obtain ⟨s, hD⟩ := p
  obtain ⟨y, hy, rfl⟩ := map_at hx
  refine step i y H hy s _ _ (fun hc H' s' => ⟨_, s' _ _ hD, Nat.lt_of_le_of_lt filt_len hz, same_upd nD (s.trans s'), ?_⟩) fun hc H' s' => ⟨s.trans s', ?_⟩
  · rw [filt_snoc hy, if_pos hc]
    exact upd_same
  · rw [filt_snoc hy, if_neg (by rw [hc]; simp), List.append_nil]
    exact s' _ _ hD
end
/-- a block that is right, of so many statements -/
def BlkR (K : PySem.W.Frag) (H : Hp) (blk : Str) (v : V) (n : Nat) : Prop := ∃ (d : PyData) (F : Nat), De K H v d ∧ isTL d = true ∧ scanF blk F (elems d) 0 = some (.inr n) ∧ scanH blk (F + 1) (elems d)
theorem BlkR.mono {K : PySem.W.Frag} {H H' : Hp} {blk : Str} {v : V} {n : Nat} (b : BlkR K H blk v n) (s : Same H H') : BlkR K H' blk v n := by
  obtain ⟨d, F, h1, h2⟩ := b
  exact ⟨d, F, de_mono s _ _ h1, h2⟩
def spCbR (K : PySem.W.Frag) : Sp := fun vs H Q _ => ∃ (v1 v2 v3 : V) (n1 n2 n3 : Nat), vs = [v1, v2, v3] ∧ BlkR K H (Str.ofString "down") v1 n1 ∧ BlkR K H (Str.ofString "turn") v2 n2 ∧ BlkR K H (Str.ofString "up") v3 n3 ∧ n1 + n2 + n3 ≤ 40 ∧ ∀ H', Same H H' → Q .non H'
section
variable {P : Program} {w : World} {K : PySem.W.Frag} {mg : Str → Option Value} {base : Heap} {f fN C CM : Addr} {fd fdN : FuncData}
abbrev NCb : List Str := ["down", "turn", "up", "many", "name", "block"]
theorem ok_cb (F : Fun K "check_blocks" "check_blocks" (top 20) f fd) (D : XR P w K mg base "TooMany" CM ["what", "many", "most"]) (gSu : mg "sum" = none) {tM : Tok} (gMo : mg "MOST_STATEMENTS" = some (.int 40 tM))
    (gN : mg "number_of_statements" = some (.ref fN)) (kN : PySem.W.keepIn K (.ref fN) = true) (GN : FnOk P w K mg base (L2.CX P w) 12 fN fdN ["name", "block"] (spNum K C)) (bN : Binds K fdN ["name", "block"] []) :
    FnOk P w K mg base (L2.CX P w) 13 f fd ["down", "turn", "up"] (spCbR K) := by
  have S0 : FnScope NCb ["down", "turn", "up"] (defScope (top 20)) := ⟨rfl, rfl, rfl, by decide +kernel, rfl, by decide +kernel, by decide +kernel⟩
  have nd := S0.nd
  refine F.okX S0 (fun vs H Q E h => ?_) (fun cdv A outer s H vs Q E hr h => ?_)
  · obtain ⟨v1, v2, v3, n1, n2, n3, rfl, _⟩ := h
    rfl
  · obtain ⟨v1, v2, v3, n1, n2, n3, rfl, B1, B2, B3, hz, kk⟩ := h
    obtain ⟨fi, fdi, iC, tI, F1, b1⟩ := D.ini
    have hu64 := hr.units
    have hr2 : Room 2 _ := hr.mono (by decide)
    refine ⟨_, (pss_cons (ps_set (i := 3) nd rfl (Or.inl rfl) (pe_callB (cr_sum rfl) (by rfl) gSu PyProof.Rows.boot_sum (pa_cons (pe_lc (own := [("name", 4), ("block", 5)]) (g := gTup K 2 (gCons (gName 4) (gCons (gName 5) gNil))) (tt := tYes) rfl nd (pi_tup (pe_tup (pa_cons (pe_tup (pa_cons pe_str (pa_cons (pv 0) pa_nil))) (pa_cons (pe_tup (pa_cons pe_str (pa_cons (pv 1) pa_nil))) (pa_cons (pe_tup (pa_cons pe_str (pa_cons (pv 2) pa_nil))) pa_nil))))) (blkOk_by (N := NCb) (sc := defScope (top 20)) (by decide +kernel)) (fun _ _ _ _ _ => (pg_tup rfl (pgs_cons (pg_name (i := 4) nd rfl (Or.inl rfl)) (pgs_cons (pg_name (i := 5) nd rfl (Or.inl rfl)) pgs_nil)))) (fun _ _ _ _ _ => pts_nil) (fun _ _ _ _ _ => (pe_call GN hr (by rfl) gN kN bN .nil (passes_call LamX.takes0 (fun _ _ _ _ h => h)) (pa_cons (pv 4) (pa_cons (pv 5) pa_nil))))) pa_nil)))
        (pss_one (ps_if (pt_cmpR op_gt (pv 3) (pe_glob (v := V.int 40) (by rfl) gMo ⟨_, rfl⟩) (nomark _)) (pss_one (ps_raise rfl (takes_of rfl rfl rfl rfl) (pmk_oex D.cl.T iC tI F1 hr2 b1 .nil pass0 (by rfl) D.gC (pa_cons pe_str (pa_cons (pv 3) (pa_cons (pe_glob (v := V.int 40) (by rfl) gMo ⟨_, rfl⟩) pa_nil)))))) pss_nil))), ?_⟩
    refine ⟨v1, rfl, (by show 2 ≤ sizeLine; decide), fun a1 na1 => ?_⟩
    have s1 := upd_new (o := .tup [.str "down", v1]) na1
    have h1 : upd H a1 (.tup [.str "down", v1]) a1 = some (.tup [.str "down", v1]) := upd_same
    generalize upd H a1 (.tup [.str "down", v1]) = G1 at s1 h1
    refine ⟨v2, rfl, (by show 2 ≤ sizeLine; decide), fun a2 na2 => ?_⟩
    have s2 := upd_new (o := .tup [.str "turn", v2]) na2
    have h2 : upd G1 a2 (.tup [.str "turn", v2]) a2 = some (.tup [.str "turn", v2]) := upd_same
    generalize upd G1 a2 (.tup [.str "turn", v2]) = G2 at s2 h2
    refine ⟨v3, rfl, (by show 2 ≤ sizeLine; decide), fun a3 na3 => ?_⟩
    have s3 := upd_new (o := .tup [.str "up", v3]) na3
    have h3 : upd G2 a3 (.tup [.str "up", v3]) a3 = some (.tup [.str "up", v3]) := upd_same
    generalize upd G2 a3 (.tup [.str "up", v3]) = G3 at s3 h3
    refine ⟨(by show 3 ≤ sizeLine; decide), fun t nt => ?_⟩
    have s4 := upd_new (o := .tup [.ref a1, .ref a2, .ref a3]) nt
    have h4 : upd G3 t (.tup [.ref a1, .ref a2, .ref a3]) t = some (.tup [.ref a1, .ref a2, .ref a3]) := upd_same
    generalize upd G3 t (.tup [.ref a1, .ref a2, .ref a3]) = G4 at s4 h4
    have s04 : Same H G4 := s1.trans (s2.trans (s3.trans s4))
    have rows : ∀ (i : Nat) (x : Addr × Str × V × Nat), [(a1, Str.ofString "down", v1, n1), (a2, Str.ofString "turn", v2, n2), (a3, Str.ofString "up", v3, n3)][i]? = some x → G4 x.1 = some (.tup [.str x.2.1, x.2.2.1]) ∧ BlkR K H x.2.1 x.2.2.1 x.2.2.2 ∧ x.2.1 ∈ blk3 := fun i x hx => by
      have hm := List.mem_of_getElem? hx
      simp only [List.mem_cons, List.mem_nil_iff, or_false] at hm
      rcases hm with rfl | rfl | rfl
      · exact ⟨s4 _ _ (s3 _ _ (s2 _ _ h1)), B1, by show Str.ofString "down" ∈ blk3; decide +kernel⟩
      · exact ⟨s4 _ _ (s3 _ _ h2), B2, by show Str.ofString "turn" ∈ blk3; decide +kernel⟩
      · exact ⟨s4 _ _ h3, B3, by show Str.ofString "up" ∈ blk3; decide +kernel⟩
    refine ⟨t, rfl, ⟨_, .inl (.inl h4)⟩, fun D nD => lcS_tup (K := K) (ws := [(a1, Str.ofString "down", v1, n1), (a2, Str.ofString "turn", v2, n2), (a3, Str.ofString "up", v3, n3)]) (fun x => V.ref x.1) nD (fun x => V.int (x.2.2.2 : Nat)) (fun _ => true) (.inl (.inl h4)) (by show 3 < sizeLine; decide) (fun i x G hx sG A B kA kB => ?_) fun G sG hD => ?_⟩
    · obtain ⟨hrow, ⟨d, F0, hd, ht, hsc, hsh⟩, hbk⟩ := rows i x hx
      refine ⟨x.1, _, rfl, .inl (.inl (sG _ _ hrow)), rfl, _, _, rfl, _, _, rfl, rfl, rfl, V.str x.2.1, rfl, x.2.2.1, rfl, x.2.2.1, d, x.2.1, rfl, de_mono (s04.trans sG) _ _ hd, hbk, fun z => ?_, fun _ => ⟨F0, .inr x.2.2.2, hsc, hsh, fun n e H' s => ?_, fun n e => nomatch e⟩⟩
      · rw [ht] at z
        cases z
      · injection e with e
        subst e
        exact kA rfl H' s
    · have hD : G D = some (.lst ([(n1 : Int), (n2 : Int), (n3 : Int)].map V.int)) := hD
      refine ⟨D, [(n1 : Int), (n2 : Int), (n3 : Int)], rfl, .inl (.inl hD), ?_⟩
      refine ⟨V.int _, rfl, _, 40, rfl, rfl, _, rfl, ite2 (fun c => ?_) (fun c => ?_)⟩
      · have c : (40 : Int) < [(n1 : Int), (n2 : Int), (n3 : Int)].sum := of_decide_eq_true c
        simp only [List.sum_cons, List.sum_nil] at c
        omega
      · exact kk G (s04.trans sG)
end
end SK
namespace SK
open PySem PySem.Spec PyProof.Rows L2 LamX NdefX
open K0 (De DeAll XCl spX withX)
/-! ### lists as tuples -/
theorem pi_either {X : Cx} {tg iter : Expr} {w1 w2 : TI} (h1 : PI X tg iter w1) (h2 : PI X tg iter w2) : PI X tg iter (fun σ H R => w1 σ H R ∨ w2 σ H R) := ⟨fun pins s σ H R I h => h.elim (h1.run pins s σ H R I) (h2.run pins s σ H R I)⟩
mutual
def fz : PyData → PyData
  | .tuple ds => .tuple (fzAll ds)
  | .list ds => .tuple (fzAll ds)
  | .none => .none
  | .bool b => .bool b
  | .int i => .int i
  | .str x => .str x
  | d => d
def fzAll : List PyData → List PyData
  | [] => []
  | d :: ds => fz d :: fzAll ds
end
mutual
def lev : PyData → Nat
  | .tuple ds => levAll ds + 1
  | .list ds => levAll ds + 1
  | _ => 0
def levAll : List PyData → Nat
  | [] => 0
  | d :: ds => max (lev d) (levAll ds)
end
theorem fzAll_map : ∀ ds : List PyData, fzAll ds = ds.map fz
  | [] => by simp [fzAll]
  | d :: ds => by simp [fzAll, fzAll_map ds]
theorem lev_mem {d : PyData} : ∀ {ds : List PyData}, d ∈ ds → lev d ≤ levAll ds
  | e :: ds, h => by
    simp only [levAll]
    rcases List.mem_cons.mp h with rfl | h
    · exact Nat.le_max_left _ _
    · exact Nat.le_trans (lev_mem h) (Nat.le_max_right _ _)
theorem lev_tl {d : PyData} (h : isTL d = true) : lev d = levAll (elems d) + 1 := by
  cases d with
  | tuple ds => simp [lev, elems]
  | list ds => simp [lev, elems]
  | _ => cases h
theorem fz_tl {d : PyData} (h : isTL d = true) : fz d = .tuple ((elems d).map fz) := by
  cases d with
  | tuple ds => simp [fz, elems, fzAll_map]
  | list ds => simp [fz, elems, fzAll_map]
  | _ => cases h
/-- all but lists stays -/
def KeepN (G G' : Hp) : Prop := ∀ b o, (∀ xs, o ≠ .lst xs) → G b = some o → G' b = some o
mutual
theorem de_fz {K : PySem.W.Frag} {G G' : Hp} (m : KeepN G G') : ∀ (d : PyData) (v : V), De K G v (fz d) → De K G' v (fz d)
  | .tuple ds, v, h => by
    simp only [fz] at h ⊢
    cases h with
    | tup ha hd => exact .tup (m _ _ (fun _ z => nomatch z) ha) (de_fzAll m ds _ hd)
  | .list ds, v, h => by
    simp only [fz] at h ⊢
    cases h with
    | tup ha hd => exact .tup (m _ _ (fun _ z => nomatch z) ha) (de_fzAll m ds _ hd)
  | .none, v, h => by
    simp only [fz] at h ⊢
    cases h
    exact .non
  | .bool b, v, h => by
    simp only [fz] at h ⊢
    cases h
    exact .bl b
  | .int i, v, h => by
    simp only [fz] at h ⊢
    cases h
    exact .int i
  | .str x, v, h => by
    simp only [fz] at h ⊢
    cases h
    exact .str x
  | .dict ds, v, h => by
    simp only [fz] at h ⊢
    cases h with
    | dic ha hl => exact .dic (m _ _ (fun _ z => nomatch z) ha) hl
theorem de_fzAll {K : PySem.W.Frag} {G G' : Hp} (m : KeepN G G') : ∀ (ds : List PyData) (vs : List V), DeAll K G vs (fzAll ds) → DeAll K G' vs (fzAll ds)
  | [], vs, h => by
    simp only [fzAll] at h ⊢
    cases h
    exact .nil
  | d :: ds, vs, h => by
    simp only [fzAll] at h ⊢
    cases h with
    | cons h1 h2 => exact .cons (de_fz m d _ h1) (de_fzAll m ds _ h2)
end
/-- lists that are not too long -/
def hdW : Nat → PyData → Prop
  | 0, _ => True
  | n + 1, d => isTL d = true → (elems d).length ≤ 1000 ∧ ∀ e ∈ elems d, hdW n e
def spFz (K : PySem.W.Frag) (n : Nat) : Sp := fun vs H Q _ => ∃ (v : V) (d : PyData), vs = [v] ∧ De K H v d ∧ lev d < n ∧ hdW n d ∧ (∀ H' u, Same H H' → De K H' u (fz d) → Q u H')
section
variable {P : Program} {w : World} {K : PySem.W.Frag} {mg : Str → Option Value} {base : Heap} {f fL : Addr} {fd fdL : FuncData}
abbrev NFz : List Str := ["value", "part"]
theorem ok_fz (F : Fun K "frozen" "frozen" (top 21) f fd) (gTu : mg "tuple" = none)
    (gL : mg "is_list" = some (.ref fL)) (kL : PySem.W.keepIn K (.ref fL) = true) (GL : FnOk P w K mg base CX0 1 fL fdL ["value"] (spIsL K)) (bL : Binds K fdL ["value"] [])
    (gS : mg "frozen" = some (.ref f)) (bS : Binds K fd ["value"] []) : ∀ n : Nat, FnOk P w K mg base CX0 (n + 2) f fd ["value"] (spFz K n) := by
  have S0 : FnScope NFz ["value"] (defScope (top 21)) := ⟨rfl, rfl, rfl, by decide +kernel, rfl, by decide +kernel, by decide +kernel⟩
  have nd := S0.nd
  have kS := F.kp
  intro n
  induction n with
  | zero =>
    refine F.ok S0 (fun vs H Q E h => ?_) (fun cdv A outer s H vs Q E hr h => ?_)
    · obtain ⟨v, d, rfl, _⟩ := h
      rfl
    · obtain ⟨v, d, rfl, _, hm, _⟩ := h
      omega
  | succ n GS =>
  refine F.ok S0 (fun vs H Q E h => ?_) (fun cdv A outer s H vs Q E hr h => ?_)
  · obtain ⟨v, d, rfl, _⟩ := h
    rfl
  · obtain ⟨v, d, rfl, hd, hl, hw, kk⟩ := h
    have hr1 : Room 1 _ := hr.mono (by omega)
    refine ⟨_, (pss_one (ps_ret (pe_ifExp (pt_val (pe_call GL hr1 (by rfl) gL kL bL .nil pass0 (pa_cons (pv 0) pa_nil))) (pe_callTy call_tuple_of (by rfl) gTu PyProof.Rows.boot_tuple (pa_cons (pe_lc (own := [("part", 1)]) (g := gName 1) (tt := tYes) (te := tCall (spFz K n) [] E0 (tCons (tVar 1) tNil)) rfl nd (pi_either (pi_list (pv 0)) (pi_tup (pv 0))) (blkOk_by (N := NFz) (sc := defScope (top 21)) (by decide +kernel)) (fun _ _ _ _ _ => pg_name (i := 1) nd rfl (Or.inl rfl)) (fun _ _ _ _ _ => pts_nil) (fun _ _ _ _ _ => (pe_call GS hr (by rfl) gS kS bS .nil pass0 (pa_cons (pv 1) pa_nil)))) pa_nil)) (pv 0)))), ?_⟩
    refine ⟨v, rfl, v, d, rfl, hd, fun H1 s1 => ⟨isTL d, rfl, ?_⟩⟩
    rcases tl_shape hd with e | ⟨p, xs, rfl, hds, hsq, e⟩
    · rw [e]
      have ef : fz d = d := by
        cases d with
        | tuple ds => cases e
        | list ds => cases e
        | _ => simp [fz]
      exact iteF ⟨v, rfl, kk H1 v s1 (by rw [ef]; exact de_mono s1 _ _ hd)⟩
    rw [e]
    rw [fz_tl e] at kk
    rw [lev_tl e] at hl
    obtain ⟨hz, hw⟩ := hw e
    generalize elems d = ds at hds kk hl hz hw
    have hxl := deAll_len hds
    have b5 : (5000 : Nat) < sizeLine := by decide
    refine iteT ?_
    rcases hsq with hq | hq
    · refine .inl ⟨V.ref p, rfl, p, rfl, ⟨xs, Same.seq s1 hq⟩, fun D nD => lc_it (walk_list (K := K) (xs := xs)) (fun i G => Same H1 G ∧ ∃ acc : List V, G D = some (.lst acc) ∧ acc.length = i ∧ DeAll K G acc ((ds.take i).map fz)) ⟨upd_new nD, [], upd_same, rfl, .nil⟩ (fun i G _ q => Same.seq (s1.trans q.1) hq) ?_ ?_⟩
      · rintro i x G G' hi ⟨sG, acc, hD, hal, hacc⟩ ⟨rfl, hx⟩
        obtain ⟨dd, hdd, hde⟩ := deAll_at hds hx
        have hm := List.mem_of_getElem? hdd
        refine ⟨rfl, x, rfl, x, dd, rfl, de_mono (s1.trans sG) _ _ hde, by have := lev_mem hm; omega, hw dd hm, fun G2 u s2 hu => ?_⟩
        have hD2 := s2 _ _ hD
        have kp : KeepN G2 (upd G2 D (.lst (acc ++ [u]))) := fun b o nl hb => by
          rw [upd_ne (fun z => by rw [z, hD2] at hb; exact nl acc (Option.some.inj hb).symm)]
          exact hb
        refine ⟨acc, hD2, by omega, fun b o hb => ?_, acc ++ [u], upd_same, by rw [List.length_append, hal]; rfl, ?_⟩
        · rw [upd_ne (ne_of_none hb nD)]
          exact s2 _ _ (sG _ _ hb)
        · rw [take_snoc hdd, List.map_append]
          have z := deAll_app (de_monoAll s2 _ _ hacc) (DeAll.cons hu DeAll.nil)
          have e2 : (ds.take i).map fz ++ [fz dd] = fzAll (ds.take i ++ [dd]) := by rw [fzAll_map, List.map_append]; rfl
          rw [e2] at z
          have z := de_fzAll kp _ _ z
          rw [← e2] at z
          exact z
      · rintro G ⟨sG, acc, hD, hal, hacc⟩
        rw [hxl, List.take_length] at hacc
        refine ⟨D, acc, rfl, .inl ⟨.inl (.inl hD), fun r nr => ?_⟩⟩
        exact kk _ (.ref r) ((s1.trans sG).trans (upd_new nr)) (.tup upd_same (de_monoAll (upd_new nr) _ _ hacc))
    · refine .inr ⟨V.ref p, rfl, p, rfl, ⟨xs, Same.seqT s1 hq⟩, fun D nD => lc_it (walk_tup (K := K) (xs := xs)) (fun i G => Same H1 G ∧ ∃ acc : List V, G D = some (.lst acc) ∧ acc.length = i ∧ DeAll K G acc ((ds.take i).map fz)) ⟨upd_new nD, [], upd_same, rfl, .nil⟩ (fun i G _ q => Same.seqT (s1.trans q.1) hq) ?_ ?_⟩
      · rintro i x G G' hi ⟨sG, acc, hD, hal, hacc⟩ ⟨rfl, hx⟩
        obtain ⟨dd, hdd, hde⟩ := deAll_at hds hx
        have hm := List.mem_of_getElem? hdd
        refine ⟨rfl, x, rfl, x, dd, rfl, de_mono (s1.trans sG) _ _ hde, by have := lev_mem hm; omega, hw dd hm, fun G2 u s2 hu => ?_⟩
        have hD2 := s2 _ _ hD
        have kp : KeepN G2 (upd G2 D (.lst (acc ++ [u]))) := fun b o nl hb => by
          rw [upd_ne (fun z => by rw [z, hD2] at hb; exact nl acc (Option.some.inj hb).symm)]
          exact hb
        refine ⟨acc, hD2, by omega, fun b o hb => ?_, acc ++ [u], upd_same, by rw [List.length_append, hal]; rfl, ?_⟩
        · rw [upd_ne (ne_of_none hb nD)]
          exact s2 _ _ (sG _ _ hb)
        · rw [take_snoc hdd, List.map_append]
          have z := deAll_app (de_monoAll s2 _ _ hacc) (DeAll.cons hu DeAll.nil)
          have e2 : (ds.take i).map fz ++ [fz dd] = fzAll (ds.take i ++ [dd]) := by rw [fzAll_map, List.map_append]; rfl
          rw [e2] at z
          have z := de_fzAll kp _ _ z
          rw [← e2] at z
          exact z
      · rintro G ⟨sG, acc, hD, hal, hacc⟩
        rw [hxl, List.take_length] at hacc
        refine ⟨D, acc, rfl, .inl ⟨.inl (.inl hD), fun r nr => ?_⟩⟩
        exact kk _ (.ref r) ((s1.trans sG).trans (upd_new nr)) (.tup upd_same (de_monoAll (upd_new nr) _ _ hacc))
end
end SK
namespace SK
open PySem PySem.Spec PyProof.Rows L2 LamX NdefX
open K0 (De DeAll XCl spX withX)
/-! ### routines -/
abbrev ro (i : Nat) : Stmt := inClass (top 49) i
structure RoP (K : PySem.W.Frag) (H : Hp) (fs : List (Str × V)) (d1 d2 d3 : PyData) (u1 u2 u3 : V) : Prop where
  f1 : fs.lookup ("down" : Str) = some u1
  f2 : fs.lookup ("turn" : Str) = some u2
  f3 : fs.lookup ("up" : Str) = some u3
  no : ∀ g : Str, g ≠ "down" → g ≠ "turn" → g ≠ "up" → fs.lookup g = none
  e1 : De K H u1 (fz d1)
  e2 : De K H u2 (fz d2)
  e3 : De K H u3 (fz d3)
def RoF (K : PySem.W.Frag) (CR : Addr) (H : Hp) (x : V) (d1 d2 d3 : PyData) : Prop := ∃ (a dx : Addr) (fs : List (Str × V)) (u1 u2 u3 : V), x = .ref a ∧ H a = some (.ins CR dx fs) ∧ RoP K H fs d1 d2 d3 u1 u2 u3
def BlkQ (K : PySem.W.Frag) (H : Hp) (blk : Str) (v : V) (d : PyData) (n : Nat) : Prop := De K H v d ∧ isTL d = true ∧ lev d < 20 ∧ hdW 20 d ∧ ∃ F, scanF blk F (elems d) 0 = some (.inr n) ∧ scanH blk (F + 1) (elems d)
theorem BlkQ.r {K : PySem.W.Frag} {H : Hp} {blk : Str} {v : V} {d : PyData} {n : Nat} (b : BlkQ K H blk v d n) : BlkR K H blk v n := by
  obtain ⟨h1, h2, _, _, F, h3⟩ := b
  exact ⟨d, F, h1, h2, h3⟩
def spInitRo (K : PySem.W.Frag) (CR : Addr) : Sp := fun vs H Q _ => ∃ (x dx : Addr) (v1 v2 v3 : V) (d1 d2 d3 : PyData) (n1 n2 n3 : Nat), vs = [.ref x, v1, v2, v3] ∧ H x = some (.ins CR dx []) ∧ BlkQ K H (Str.ofString "down") v1 d1 n1 ∧ BlkQ K H (Str.ofString "turn") v2 d2 n2 ∧ BlkQ K H (Str.ofString "up") v3 d3 n3 ∧ n1 + n2 + n3 ≤ 40 ∧
  ∀ (H' : Hp) (fs : List (Str × V)) (u1 u2 u3 : V), (∀ b o, b ≠ x → H b = some o → H' b = some o) → H' x = some (.ins CR dx fs) → RoP K H' fs d1 d2 d3 u1 u2 u3 → Q .non H'
section
variable {P : Program} {w : World} {K : PySem.W.Frag} {mg : Str → Option Value} {base : Heap} {f fF fC CR : Addr} {fd fdF fdC : FuncData}
theorem ok_initRo (F : Fun K "__init__" "Routine.__init__" (ro 0) f fd) (cT : Cls K CR) (n1 : NoAttr K CR "down") (n2 : NoAttr K CR "turn") (n3 : NoAttr K CR "up")
    (gC : mg "check_blocks" = some (.ref fC)) (kC : PySem.W.keepIn K (.ref fC) = true) (GC : FnOk P w K mg base (L2.CX P w) 13 fC fdC ["down", "turn", "up"] (spCbR K)) (bC : Binds K fdC ["down", "turn", "up"] [])
    (gF : mg "frozen" = some (.ref fF)) (kF : PySem.W.keepIn K (.ref fF) = true) (GF : FnOk P w K mg base CX0 22 fF fdF ["value"] (spFz K 20)) (bF : Binds K fdF ["value"] []) : FnOk P w K mg base (L2.CX P w) 23 f fd ["self", "down", "turn", "up"] (spInitRo K CR) := by
  have S0 : FnScope ["self", "down", "turn", "up"] ["self", "down", "turn", "up"] (defScope (ro 0)) := ⟨rfl, rfl, rfl, by decide +kernel, rfl, by decide +kernel, by decide +kernel⟩
  have nd := S0.nd
  refine F.okX S0 (fun vs H Q E h => ?_) (fun cdv A outer s H vs Q E hr h => ?_)
  · obtain ⟨x, dx, v1, v2, v3, d1, d2, d3, m1, m2, m3, rfl, _⟩ := h
    rfl
  · obtain ⟨x, dx, v1, v2, v3, d1, d2, d3, m1, m2, m3, rfl, hx, B1, B2, B3, hz, kk⟩ := h
    have hrF : Room 22 _ := hr
    have hrC : Room 13 _ := hr.mono (by decide)
    refine ⟨_, (pss_cons (ps_expr (pe_call GC hrC (by rfl) gC kC bC .nil (passes_call LamX.takes0 (fun _ _ _ _ h => h)) (pa_cons (pv 1) (pa_cons (pv 2) (pa_cons (pv 3) pa_nil)))))
        (pss_cons (ps_fld (pv 0) (pe_call GF hrF (by rfl) gF kF bF .nil pass0 (pa_cons (pv 1) pa_nil)) rfl)
        (pss_cons (ps_fld (pv 0) (pe_call GF hrF (by rfl) gF kF bF .nil pass0 (pa_cons (pv 2) pa_nil)) rfl)
        (pss_one (ps_fld (pv 0) (pe_call GF hrF (by rfl) gF kF bF .nil pass0 (pa_cons (pv 3) pa_nil)) rfl))))), ?_⟩
    obtain ⟨a1, _, l1, w1, _⟩ := id B1
    obtain ⟨a2, _, l2, w2, _⟩ := id B2
    obtain ⟨a3, _, l3, w3, _⟩ := id B3
    refine ⟨v1, rfl, v2, rfl, v3, rfl, v1, v2, v3, m1, m2, m3, rfl, B1.r, B2.r, B3.r, hz, fun H1 s1 => ?_⟩
    refine ⟨v1, rfl, v1, d1, rfl, de_mono s1 _ _ a1, l1, w1, fun H2 u1 s2 hu1 => ⟨V.ref x, rfl, x, CR, dx, _, rfl, s2 _ _ (s1 _ _ hx), cT, n1, (by decide), ?_⟩⟩
    have s02 := s1.trans s2
    have hx2 := s02 _ _ hx
    have m23 : ∀ b o, b ≠ x → H2 b = some o → (∀ ps, o ≠ .tbl ps) → upd H2 x (.ins CR dx (putF "down" u1 [])) b = some o := fun b o hb e _ => by
      rw [upd_ne hb]
      exact e
    have c2 := de_insN hx2 m23 (de_mono s02 _ _ a2)
    have c3 := de_insN hx2 m23 (de_mono s02 _ _ a3)
    have cu := de_insN hx2 m23 hu1
    have sb : ∀ b o, b ≠ x → H b = some o → upd H2 x (.ins CR dx (putF "down" u1 [])) b = some o := fun b o hb e => by
      rw [upd_ne hb]
      exact s02 _ _ e
    have hx3 : upd H2 x (.ins CR dx (putF "down" u1 [])) x = some (.ins CR dx (putF "down" u1 [])) := upd_same
    generalize upd H2 x (.ins CR dx (putF "down" u1 [])) = H3 at c2 c3 cu sb hx3
    refine ⟨v2, rfl, v2, d2, rfl, c2, l2, w2, fun H4 u2 s4 hu2 => ⟨V.ref x, rfl, x, CR, dx, _, rfl, s4 _ _ hx3, cT, n2, (by show 1 < 1000; decide), ?_⟩⟩
    have hx4 := s4 _ _ hx3
    have m45 : ∀ b o, b ≠ x → H4 b = some o → (∀ ps, o ≠ .tbl ps) → upd H4 x (.ins CR dx (putF "turn" u2 (putF "down" u1 []))) b = some o := fun b o hb e _ => by
      rw [upd_ne hb]
      exact e
    have c3 := de_insN hx4 m45 (de_mono s4 _ _ c3)
    have cu := de_insN hx4 m45 (de_mono s4 _ _ cu)
    have cu2 := de_insN hx4 m45 hu2
    have sb : ∀ b o, b ≠ x → H b = some o → upd H4 x (.ins CR dx (putF "turn" u2 (putF "down" u1 []))) b = some o := fun b o hb e => by
      rw [upd_ne hb]
      exact s4 _ _ (sb _ _ hb e)
    have hx5 : upd H4 x (.ins CR dx (putF "turn" u2 (putF "down" u1 []))) x = some (.ins CR dx (putF "turn" u2 (putF "down" u1 []))) := upd_same
    generalize upd H4 x (.ins CR dx (putF "turn" u2 (putF "down" u1 []))) = H5 at c3 cu cu2 sb hx5
    refine ⟨v3, rfl, v3, d3, rfl, c3, l3, w3, fun H6 u3 s6 hu3 => ⟨V.ref x, rfl, x, CR, dx, _, rfl, s6 _ _ hx5, cT, n3, (by show 2 < 1000; decide), ?_⟩⟩
    have hx6 := s6 _ _ hx5
    have m67 : ∀ b o, b ≠ x → H6 b = some o → (∀ ps, o ≠ .tbl ps) → upd H6 x (.ins CR dx (putF "up" u3 (putF "turn" u2 (putF "down" u1 [])))) b = some o := fun b o hb e _ => by
      rw [upd_ne hb]
      exact e
    refine kk _ _ u1 u2 u3 (fun b o hb e => ?_) upd_same ⟨?_, ?_, ?_, fun g n1 n2 n3 => ?_, de_insN hx6 m67 (de_mono s6 _ _ cu), de_insN hx6 m67 (de_mono s6 _ _ cu2), de_insN hx6 m67 hu3⟩
    · rw [upd_ne hb]
      exact s6 _ _ (sb _ _ hb e)
    · rw [lookup_putF, if_neg (by decide), lookup_putF, if_neg (by decide), lookup_putF, if_pos rfl]
    · rw [lookup_putF, if_neg (by decide), lookup_putF, if_pos rfl]
    · rw [lookup_putF, if_pos rfl]
    · rw [lookup_putF, if_neg n3, lookup_putF, if_neg n2, lookup_putF, if_neg n1]
      rfl
end
end SK
namespace SK
open PySem PySem.Spec PyProof.Rows L2 LamX NdefX
open K0 (De DeAll XCl spX withX)
/-! ### the names in a test -/
def nmW (h : PyData) : List Str := if nm h = some (Str.ofString "here") then ["p"] else match nm h with
  | some z => if z ∈ (["p", "x", "y"] : List Str) then [z] else []
  | none => []
def nmT2 (f : PyData → List Str) (h : PyData) (r : List PyData) : List Str :=
  if nm h = some (Str.ofString "not") then (match r with | e :: _ => f e | [] => []) else if inS ["and", "or"] h = true then (match r with | e :: g :: _ => f e ++ f g | _ => []) else nmW h
def nmT : Nat → PyData → List Str
  | 0, _ => []
  | n + 1, d => match elems d with
    | [] => []
    | h :: r => nmT2 (nmT n) h r
theorem nmW_len (h : PyData) : (nmW h).length ≤ 1 := by
  unfold nmW
  split
  · simp
  · split
    · split <;> simp
    · simp
theorem nmT_len : ∀ (n : Nat) (d : PyData), (nmT n d).length ≤ 2 ^ n
  | 0, d => by simp [nmT]
  | n + 1, d => by
    have p0 : 1 ≤ 2 ^ n := Nat.one_le_two_pow
    have p1 : 2 ^ (n + 1) = 2 ^ n + 2 ^ n := by rw [Nat.pow_succ]; omega
    unfold nmT
    split
    · simp
    · rename_i h r _
      unfold nmT2
      split
      · split
        · have := nmT_len n ‹_›
          omega
        · simp
      · split
        · split
          · rename_i e g _ _
            have a := nmT_len n e
            have b := nmT_len n g
            rw [List.length_append]
            omega
          · simp
        · have := nmW_len h
          omega
theorem inS_nm {xs : List Str} {d : PyData} (h : inS xs d = true) : ∃ z, nm d = some z ∧ z ∈ xs := by
  unfold inS at h
  obtain ⟨x, hx, e⟩ := List.any_eq_true.mp h
  exact ⟨x, of_decide_eq_true e, hx⟩
theorem nm_str {d : PyData} {z : Str} (h : nm d = some z) : d = .str z := by
  cases d with
  | str y =>
    have h : some y = some z := h
    rw [Option.some.inj h]
  | _ => cases h
/-- what a test that is right is made of -/
theorem okT_shape {m : Nat} {d : PyData} (h : okT (m + 1) d = true) : isTL d = true ∧ ∃ h' r, elems d = h' :: r ∧ (∃ z, nm h' = some z) ∧ (nm h' = some (Str.ofString "not") → ∃ e, r = [e] ∧ okT m e = true) ∧ (inS ["and", "or"] h' = true → ∃ e g, r = [e, g] ∧ okT m e = true ∧ okT m g = true) := by
  unfold okT at h
  rw [Bool.and_eq_true] at h
  refine ⟨h.1, ?_⟩
  have h2 := h.2
  generalize elems d = ds at h2
  match ds, h2 with
  | [x], h2 =>
    obtain ⟨z, e1, e2⟩ := inS_nm (show inS plain10 x = true from h2)
    refine ⟨x, [], rfl, ⟨z, e1⟩, fun e => ?_, fun e => ?_⟩
    · rw [e] at e1
      rw [← Option.some.inj e1] at e2
      exact absurd e2 (by decide +kernel)
    · obtain ⟨y, q1, q2⟩ := inS_nm e
      rw [q1] at e1
      rw [← Option.some.inj e1] at e2
      have z : ∀ y ∈ (["and", "or"] : List Str), y ∉ plain10 := by decide +kernel
      exact absurd e2 (z y q2)
  | x :: a :: r, h2 =>
    have h2 : okT2 (okT m) x a r = true := h2
    unfold okT2 at h2
    refine ⟨x, a :: r, rfl, ?_⟩
    by_cases c1 : nm x = some (Str.ofString "others")
    · refine ⟨⟨_, c1⟩, fun e => ?_, fun e => ?_⟩
      · rw [c1] at e
        exact absurd (Option.some.inj e) (by decide)
      · obtain ⟨y, q1, q2⟩ := inS_nm e
        rw [c1] at q1
        rw [← Option.some.inj q1] at q2
        exact absurd q2 (by decide +kernel)
    · rw [if_neg c1] at h2
      by_cases c2 : nm x = some (Str.ofString "not")
      · rw [if_pos c2, Bool.and_eq_true] at h2
        refine ⟨⟨_, c2⟩, fun _ => ⟨a, by rw [List.isEmpty_iff.mp h2.1], h2.2⟩, fun e => ?_⟩
        obtain ⟨y, q1, q2⟩ := inS_nm e
        rw [c2] at q1
        rw [← Option.some.inj q1] at q2
        exact absurd q2 (by decide +kernel)
      · rw [if_neg c2] at h2
        cases c3 : inS ["and", "or"] x with
        | false =>
          rw [c3] at h2
          cases h2
        | true =>
          rw [c3, if_pos rfl] at h2
          obtain ⟨y, q1, q2⟩ := inS_nm c3
          refine ⟨⟨y, q1⟩, fun e => absurd e c2, fun _ => ?_⟩
          match r, h2 with
          | [g], h2 =>
            have h2 : (okT m a && okT m g) = true := h2
            rw [Bool.and_eq_true] at h2
            exact ⟨a, g, rfl, h2⟩
def spNt (K : PySem.W.Frag) (n : Nat) : Sp := fun vs H Q _ => ∃ (v : V) (d : PyData) (m : Nat), vs = [v] ∧ m < n ∧ m ≤ 10 ∧ De K H v d ∧ hdT m d ∧ okT m d = true ∧ ∀ (H' : Hp) (q : Addr), Same H H' → H' q = some (.lst ((nmT m d).map V.str)) → Q (.ref q) H'
section
variable {P : Program} {w : World} {K : PySem.W.Frag} {mg : Str → Option Value} {base : Heap} {f : Addr} {fd : FuncData}
abbrev NNt : List Str := ["test", "name"]
theorem ok_nt (F : Fun K "names_in_test" "names_in_test" (top 22) f fd) (gS : mg "names_in_test" = some (.ref f)) (bS : Binds K fd ["test"] []) : ∀ n : Nat, FnOk P w K mg base CX0 (n + 1) f fd ["test"] (spNt K n) := by
  have S0 : FnScope NNt ["test"] (defScope (top 22)) := ⟨rfl, rfl, rfl, by decide +kernel, rfl, by decide +kernel, by decide +kernel⟩
  have nd := S0.nd
  have kS := F.kp
  intro n
  induction n with
  | zero =>
    refine F.ok S0 (fun vs H Q E h => ?_) (fun cdv A outer s H vs Q E hr h => ?_)
    · obtain ⟨v, d, m, rfl, _⟩ := h
      rfl
    · obtain ⟨v, d, m, rfl, hm, _⟩ := h
      omega
  | succ n GS =>
  refine F.ok S0 (fun vs H Q E h => ?_) (fun cdv A outer s H vs Q E hr h => ?_)
  · obtain ⟨v, d, m, rfl, _⟩ := h
    rfl
  · obtain ⟨v, d, m, rfl, hm, hm10, hd, hh, ok, kk⟩ := h
    have hu64 := hr.units
    refine ⟨_, (pss_cons (ps_set (i := 1) nd rfl (Or.inl rfl) (pe_ix (r := rIx K) ix_seq (pv 0) pe_int (fun _ _ => rfl)))
        (pss_cons (ps_if (pt_cmpR (r := rEqD K) (op_eqD hu64) (pv 1) pe_str (nomark _)) (pss_one (ps_ret (pe_call GS hr (by rfl) gS kS bS .nil pass0 (pa_cons (pe_ix (r := rIx K) ix_seq (pv 0) pe_int (fun _ _ => rfl)) pa_nil)))) pss_nil)
        (pss_cons (ps_if (pt_cmpR (r := rInD K false) (op_inD hu64) (pv 1) (pe_tup (pa_cons pe_str (pa_cons pe_str pa_nil))) (by rfl)) (pss_one (ps_ret (pe_op op_cat (pe_call GS hr (by rfl) gS kS bS .nil pass0 (pa_cons (pe_ix (r := rIx K) ix_seq (pv 0) pe_int (fun _ _ => rfl)) pa_nil)) (pe_call GS hr (by rfl) gS kS bS .nil pass0 (pa_cons (pe_ix (r := rIx K) ix_seq (pv 0) pe_int (fun _ _ => rfl)) pa_nil))))) pss_nil)
        (pss_cons (ps_if (pt_cmpR (r := rEqD K) (op_eqD hu64) (pv 1) pe_str (nomark _)) (pss_one (ps_ret (pe_lst (pa_cons pe_str pa_nil)))) pss_nil)
        (pss_one (ps_ret (pe_ifExp (pt_cmpR (r := rInD K false) (op_inD hu64) (pv 1) (pe_tup (pa_cons pe_str (pa_cons pe_str (pa_cons pe_str pa_nil)))) (by rfl)) (pe_lst (pa_cons (pv 1) pa_nil)) (pe_lst pa_nil)))))))), ?_⟩
    cases m with
    | zero => cases ok
    | succ m =>
    obtain ⟨ht, h, r, ee, ⟨z0, hz0⟩, hnot, hand⟩ := okT_shape ok
    rcases tl_shape hd with e | ⟨p, xs, rfl, hds, hsq, _⟩
    · rw [e] at ht
      cases ht
    obtain ⟨hh1, hhr⟩ := hh h r ht ee
    have en : nmT (m + 1) d = nmT2 (nmT m) h r := by
      show (match elems d with | [] => [] | h :: r => nmT2 (nmT m) h r) = _
      rw [ee]
    rw [en] at kk
    rw [ee] at hds
    have sq : ∀ {H' : Hp}, Same H H' → (SqL K H' p xs ∨ SqT K H' p xs) := fun {H'} s => hsq.elim (fun h => .inl (Same.seq s h)) (fun h => .inr (Same.seqT s h))
    have ixF : ∀ {H' : Hp} (j : Nat) (v' : V) (R : VK), Same H H' → xs[j]? = some v' → R v' H' → rIx K (.ref p) (.int (j : Nat)) H' R := fun {H'} j v' R s hj hR => by
      rcases sq s with h | h
      · exact .inl ⟨p, xs, (j : Int), v', rfl, rfl, h, atI_nat hj, hR⟩
      · exact .inr (.inl ⟨p, xs, (j : Int), v', rfl, rfl, h, atI_nat hj, hR⟩)
    cases hds with
    | @cons v1 vr _ _ hd1 hdr =>
    have s0 := Same.refl H
    have kk : ∀ l, nmT2 (nmT m) h r = l → ∀ (H' : Hp) (q : Addr), Same H H' → H' q = some (.lst (l.map V.str)) → Q (.ref q) H' := fun l el H' q s hq => kk H' q s (by rw [el]; exact hq)
    refine ⟨V.ref p, rfl, ixF 0 v1 _ s0 rfl ?_⟩
    refine ⟨v1, rfl, h, .str "not", hh1.dp hd1, .str _, hh1.shaped, by decide +kernel, _, rfl, ?_⟩
    rw [eqv_sr]
    by_cases c1 : nm h = some (Str.ofString "not")
    · rw [decide_eq_true c1]
      obtain ⟨e, rfl, oke⟩ := hnot c1
      cases hdr with
      | @cons v2 _ _ _ hd2 hdr2 =>
      exact iteT ⟨V.ref p, rfl, ixF 1 v2 _ s0 rfl ⟨v2, e, m, rfl, by omega, by omega, hd2, hhr e (by simp), oke, fun H' q s hq => kk _ (if_pos c1) H' q s hq⟩⟩
    rw [decide_eq_false c1]
    refine iteF ⟨v1, rfl, (by show 2 ≤ sizeLine; decide), fun t nt => ?_⟩
    have s1 := upd_new (o := .tup [.str "and", .str "or"]) nt
    have ht1 : upd H t (.tup [.str "and", .str "or"]) t = some (.tup [.str "and", .str "or"]) := upd_same
    generalize upd H t (.tup [.str "and", .str "or"]) = H1 at s1 ht1
    refine ⟨t, _, (["and", "or"] : List Str).map PyData.str, h, rfl, .inr (.inl (.inl ht1)), dp_strs ["and", "or"], hh1.dp (de_mono s1 _ _ hd1), hh1.lay.1, by decide +kernel, hh1.lay.2, _, rfl, ?_⟩
    rw [if_neg Bool.false_ne_true, any_strs]
    cases c2 : inS ["and", "or"] h with
    | true =>
      obtain ⟨e, g, rfl, oke, okg⟩ := hand c2
      cases hdr with
      | @cons v2 _ _ _ hd2 hdr2 =>
      cases hdr2 with
      | @cons v3 _ _ _ hd3 hdr3 =>
      have el : nmT2 (nmT m) h [e, g] = nmT m e ++ nmT m g := (if_neg c1).trans (if_pos c2)
      have la := nmT_len m e
      have lb := nmT_len m g
      have p2 : 2 ^ m ≤ 2 ^ 10 := Nat.pow_le_pow_right (by decide) (by omega)
      have b5 : (5000 : Nat) < sizeLine := by decide
      refine iteT ⟨V.ref p, rfl, ixF 1 v2 _ s1 rfl ⟨v2, e, m, rfl, by omega, by omega, de_mono s1 _ _ hd2, hhr e (by simp), oke, fun H2 q s2 hq => ?_⟩⟩
      have s12 := s1.trans s2
      refine ⟨V.ref p, rfl, ixF 2 v3 _ s12 rfl ⟨v3, g, m, rfl, by omega, by omega, de_mono s12 _ _ hd3, hhr g (by simp), okg, fun H3 q3 s3 hq3 => ?_⟩⟩
      refine ⟨q, q3, _, _, rfl, rfl, s3 _ _ hq, hq3, (by rw [List.length_map, List.length_map]; omega), fun y ny => kk _ el _ y ((s12.trans s3).trans (upd_new ny)) (by rw [upd_same, List.map_append])⟩
    | false =>
      have el : nmT2 (nmT m) h r = nmW h := (if_neg c1).trans (if_neg (by rw [c2]; simp))
      refine iteF ⟨v1, rfl, h, .str "here", hh1.dp (de_mono s1 _ _ hd1), .str _, hh1.shaped, by decide +kernel, _, rfl, ?_⟩
      rw [eqv_sr]
      by_cases c3 : nm h = some (Str.ofString "here")
      · rw [decide_eq_true c3]
        exact iteT ⟨(by show 1 ≤ sizeLine; decide), fun q nq => kk ["p"] (el.trans (if_pos c3)) _ q (s1.trans (upd_new nq)) upd_same⟩
      rw [decide_eq_false c3]
      refine iteF ⟨v1, rfl, (by show 3 ≤ sizeLine; decide), fun t2 nt2 => ?_⟩
      have s2 := s1.trans (upd_new (o := .tup [.str "p", .str "x", .str "y"]) nt2)
      have ht2 : upd H1 t2 (.tup [.str "p", .str "x", .str "y"]) t2 = some (.tup [.str "p", .str "x", .str "y"]) := upd_same
      generalize upd H1 t2 (.tup [.str "p", .str "x", .str "y"]) = H2 at s2 ht2
      refine ⟨t2, _, (["p", "x", "y"] : List Str).map PyData.str, h, rfl, .inr (.inl (.inl ht2)), dp_strs ["p", "x", "y"], hh1.dp (de_mono s2 _ _ hd1), hh1.lay.1, by decide +kernel, hh1.lay.2, _, rfl, ?_⟩
      rw [if_neg Bool.false_ne_true, any_strs]
      obtain rfl := nm_str hz0
      cases hd1
      rw [inS_str]
      have ew : nmW (.str z0) = if z0 ∈ (["p", "x", "y"] : List Str) then [z0] else [] := (if_neg c3)
      by_cases c4 : z0 ∈ (["p", "x", "y"] : List Str)
      · rw [decide_eq_true c4]
        exact iteT ⟨V.str z0, rfl, (by show 1 ≤ sizeLine; decide), fun q nq => kk [z0] (by rw [el, ew, if_pos c4]) _ q (s2.trans (upd_new nq)) upd_same⟩
      · rw [decide_eq_false c4]
        exact iteF ⟨Nat.zero_le _, fun q nq => kk [] (by rw [el, ew, if_neg c4]) _ q (s2.trans (upd_new nq)) upd_same⟩
end
end SK
namespace SK
open PySem PySem.Spec PyProof.Rows L2 LamX NdefX
open K0 (De DeAll XCl spX withX)
/-! ### routines that are equal -/
structure RoK (K : PySem.W.Frag) (C : Addr) : Prop where
  own : Own K C
  cl : Cls K C
  n1 : NoAttr K C "down"
  n2 : NoAttr K C "turn"
  n3 : NoAttr K C "up"
  ha : PySem.W.findIn K (.ref C) "__class__" = some (some (.builtin "object.__class__"))
  hn : PySem.W.specialIn K (.builtin "object.__class__") "__get__" = some (some (.builtin "getset_descriptor.__get__"))
  htk : PySem.W.takesIn K (.builtin "object.__class__") = some true
  hm : PySem.W.mroIn K C (.type "object") = some true
  k1 : PySem.W.kitOne K (.ref C) (.ref C) = some true
  kT : PySem.W.kitOne K (.type "tuple") (.ref C) = some false
  ne : PySem.W.findIn K (.ref C) "__ne__" = some (some (.builtin "object.__ne__"))
  oo : PySem.W.subIn K (.ref C) (.type "object") = some true
theorem RoK.ty {K : PySem.W.Frag} {C a dx : Addr} {H : Hp} {fs : List (Str × V)} (R : RoK K C) (h : H a = some (.ins C dx fs)) : TyX K H (.ref a) (.ref C) := .base (.ins h R.cl R.ha R.hn R.htk R.hm)
/-- data that can be held against other data -/
def Eqb (d : PyData) : Prop := SeqAt.shaped d = true ∧ ∀ (K : PySem.W.Frag) (H : Hp) (v : V), De K H v d → Dp K H v d
def spEqRo (K : PySem.W.Frag) (CR : Addr) : Sp := fun vs H Q _ => ∃ (x y : V) (d1 d2 d3 : PyData), vs = [x, y] ∧ RoF K CR H x d1 d2 d3 ∧ Eqb (fz d1) ∧ Eqb (fz d2) ∧ Eqb (fz d3) ∧
  ((∃ e1 e2 e3 : PyData, RoF K CR H y e1 e2 e3 ∧ Eqb (fz e1) ∧ Eqb (fz e2) ∧ Eqb (fz e3) ∧ Q (.bl (PyData.eqv (fz d1) (fz e1) && (PyData.eqv (fz d2) (fz e2) && PyData.eqv (fz d3) (fz e3)))) H) ∨ (∃ t xs, y = .ref t ∧ H t = some (.tup xs) ∧ Q (.bl false) H))
section
variable {P : Program} {w : World} {K : PySem.W.Frag} {mg : Str → Option Value} {base : Heap} {f CR : Addr} {fd : FuncData}
theorem ok_eqRo (F : Fun K "__eq__" "Routine.__eq__" (ro 2) f fd) (R : RoK K CR) (gI : mg "isinstance" = none) (gC : mg "Routine" = some (.ref CR)) : FnOk P w K mg base (L2.CX P w) 1 f fd ["self", "other"] (spEqRo K CR) := by
  have S0 : FnScope ["self", "other"] ["self", "other"] (defScope (ro 2)) := ⟨rfl, rfl, rfl, by decide +kernel, rfl, by decide +kernel, by decide +kernel⟩
  refine F.okX S0 (fun vs H Q E h => ?_) (fun cdv A outer s H vs Q E hr h => ?_)
  · obtain ⟨x, y, d1, d2, d3, rfl, _⟩ := h
    rfl
  · obtain ⟨x, y, d1, d2, d3, rfl, ⟨a, dx, fs, u1, u2, u3, rfl, ha, T⟩, q1, q2, q3, hy⟩ := h
    have hu64 := hr.units
    refine ⟨_, (pss_cons (ps_if (pt_not (pt_val (pe_callB (r := rIsi K) call_isi (by rfl) gI PyProof.Rows.boot_isinstance (pa_cons (pv 1) (pa_cons (pe_glob (v := V.ref CR) (by rfl) gC rfl) pa_nil))))) (pss_one (ps_ret pe_bl)) pss_nil)
        (pss_one (ps_ret (pe_and (pe_cmpR (r := rEqD K) (op_eqD hu64) (pe_fld (pv 0) rfl) (pe_fld (pv 1) rfl) (nomark _)) (pe_and (pe_cmpR (r := rEqD K) (op_eqD hu64) (pe_fld (pv 0) rfl) (pe_fld (pv 1) rfl) (nomark _)) (pe_one (pe_cmpR (r := rEqD K) (op_eqD hu64) (pe_fld (pv 0) rfl) (pe_fld (pv 1) rfl) (nomark _)))))))), ?_⟩
    rcases hy with ⟨e1, e2, e3, ⟨b, dy, gs, w1, w2, w3, rfl, hb, T2⟩, r1, r2, r3, q⟩ | ⟨t, ts, rfl, ht, q⟩
    · refine ⟨V.ref b, rfl, V.ref b, .ref CR, .ref CR, .ref CR, true, rfl, .own CR, R.ty hb, R.k1, true, rfl, iteF ?_⟩
      refine ⟨V.ref a, rfl, a, CR, dx, _, _, rfl, ha, R.cl, R.n1, T.f1, V.ref b, rfl, b, CR, dy, _, _, rfl, hb, R.cl, R.n1, T2.f1, fz d1, fz e1, q1.2 _ _ _ T.e1, r1.2 _ _ _ T2.e1, q1.1, r1.1, _, rfl, ?_⟩
      cases c1 : PyData.eqv (fz d1) (fz e1) with
      | false =>
        rw [c1, Bool.false_and] at q
        exact iteF q
      | true =>
        rw [c1, Bool.true_and] at q
        refine iteT ⟨V.ref a, rfl, a, CR, dx, _, _, rfl, ha, R.cl, R.n2, T.f2, V.ref b, rfl, b, CR, dy, _, _, rfl, hb, R.cl, R.n2, T2.f2, fz d2, fz e2, q2.2 _ _ _ T.e2, r2.2 _ _ _ T2.e2, q2.1, r2.1, _, rfl, ?_⟩
        cases c2 : PyData.eqv (fz d2) (fz e2) with
        | false =>
          rw [c2, Bool.false_and] at q
          exact iteF q
        | true =>
          rw [c2, Bool.true_and] at q
          exact iteT ⟨V.ref a, rfl, a, CR, dx, _, _, rfl, ha, R.cl, R.n3, T.f3, V.ref b, rfl, b, CR, dy, _, _, rfl, hb, R.cl, R.n3, T2.f3, fz d3, fz e3, q3.2 _ _ _ T.e3, r3.2 _ _ _ T2.e3, q3.1, r3.1, q⟩
    · exact ⟨V.ref t, rfl, V.ref t, .ref CR, .type "tuple", .ref CR, false, rfl, .own CR, .base (.tup ht), R.kT, false, rfl, iteT q⟩
end
end SK
namespace SK
open PySem PySem.Spec PyProof.Rows L2 LamX NdefX
open K0 (De DeAll XCl spX withX)
/-! ### the law's tests -/
section
variable {K : PySem.W.Frag} {H H' : Hp} {p l : Addr} {k lf : Int}
mutual
theorem de_but (hp : H p = some (.dK (pen l k lf))) (s : SameBut p H H') : ∀ {d : PyData} {v : V}, De K H v d → De K H' v d
  | _, _, .non => .non
  | _, _, .bl b => .bl b
  | _, _, .int i => .int i
  | _, _, .str x => .str x
  | _, _, .lst ha hd => .lst (s _ _ (ne_of ha hp (by intro z; cases z)) ha) (de_butAll hp s hd)
  | _, _, .tup ha hd => .tup (s _ _ (ne_of ha hp (by intro z; cases z)) ha) (de_butAll hp s hd)
  | _, _, .dic ha hl => .dic (s _ _ (ne_of ha hp (by intro z; cases z; have y : (3 : Nat) ≤ 1 := hl; omega)) ha) hl
theorem de_butAll (hp : H p = some (.dK (pen l k lf))) (s : SameBut p H H') : ∀ {ds : List PyData} {vs : List V}, DeAll K H vs ds → DeAll K H' vs ds
  | _, _, .nil => .nil
  | _, _, .cons h1 h2 => .cons (de_but hp s h1) (de_butAll hp s h2)
end
end
/-- tests that are right, of at most so many within one another -/
inductive TsR : Nat → PyData → Prop
  | w {n : Nat} {x : Str} : x ∈ plain10 → TsR (n + 1) (.tuple [.str x])
  | oth {n : Nat} {i : Int} : 0 ≤ i → i ≤ 2 → TsR (n + 1) (.tuple [.str "others", .int i])
  | neg {n : Nat} {d : PyData} : TsR n d → TsR (n + 1) (.tuple [.str "not", d])
  | bin {n : Nat} {x : Str} {a b : PyData} : x ∈ (["and", "or"] : List Str) → TsR n a → TsR n b → TsR (n + 1) (.tuple [.str x, a, b])
def cT : Nat → Nat
  | 0 => 0
  | m + 1 => 2 + 2 * cT m
def spLt (K : PySem.W.Frag) (n : Nat) : Sp := fun vs H Q _ => ∃ (p l : Addr) (ns : List Int) (k lf : Int) (m : Nat), vs = [.ref p, .int (m : Nat)] ∧ 1 ≤ m ∧ m < n ∧ PenAt H p l ns k lf ∧ ns.length ≤ 63 ∧ 0 ≤ k ∧ k + cT m ≤ 100000 ∧ 0 ≤ lf ∧
  ∀ (H' : Hp) (k' lf' : Int) (v : V) (d : PyData), k' ≤ k + cT m → 0 ≤ k' → 0 ≤ lf' → SameBut p H H' → PenAt H' p l ns k' lf' → De K H' v d → TsR m d → Q v H'
def words12 : List Str := ["mark", "f", "x", "y", "root", "ends", "next", "p", "here", "true", "next", "mark"]
theorem w12 : ∀ x ∈ words12, x ∈ plain10 := by decide +kernel
section
variable {P : Program} {w : World} {K : PySem.W.Frag} {mg : Str → Option Value} {base : Heap} {f fD fPk : Addr} {fd fdD fdPk : FuncData}
abbrev NLt : List Str := ["pen", "depth", "way", "one", "words"]
theorem ok_lt (F : Fun K "_law_test" "_law_test" (top 54) f fd)
    (gD : mg "_law_draw" = some (.ref fD)) (kD : PySem.W.keepIn K (.ref fD) = true) (GD : FnOk P w K mg base CX0 1 fD fdD ["pen", "many"] spDraw) (bD : Binds K fdD ["pen", "many"] [])
    (gPk : mg "_law_pick" = some (.ref fPk)) (kPk : PySem.W.keepIn K (.ref fPk) = true) (GPk : FnOk P w K mg base CX0 2 fPk fdPk ["pen", "some"] spPick) (bPk : Binds K fdPk ["pen", "some"] [])
    (gS : mg "_law_test" = some (.ref f)) (bS : Binds K fd ["pen", "depth"] []) : ∀ n : Nat, FnOk P w K mg base CX0 (n + 3) f fd ["pen", "depth"] (spLt K n) := by
  have S0 : FnScope NLt ["pen", "depth"] (defScope (top 54)) := ⟨rfl, rfl, rfl, by decide +kernel, rfl, by decide +kernel, by decide +kernel⟩
  have nd := S0.nd
  have kS := F.kp
  intro n
  induction n with
  | zero =>
    refine F.ok S0 (fun vs H Q E h => ?_) (fun cdv A outer s H vs Q E hr h => ?_)
    · obtain ⟨p, l, ns, k, lf, m, rfl, _⟩ := h
      rfl
    · obtain ⟨p, l, ns, k, lf, m, rfl, _, hm, _⟩ := h
      omega
  | succ n GS =>
  refine F.ok S0 (fun vs H Q E h => ?_) (fun cdv A outer s H vs Q E hr h => ?_)
  · obtain ⟨p, l, ns, k, lf, m, rfl, _⟩ := h
    rfl
  · obtain ⟨p, l, ns, k, lf, m, rfl, hm1, hm, P0, hn, i0, i1, i2, kk⟩ := h
    have hr1 : Room 1 _ := hr.mono (by omega)
    have hr2 : Room 2 _ := hr.mono (by omega)
    refine ⟨_, (pss_cons (ps_set (i := 2) nd rfl (Or.inl rfl) (pe_call GD hr1 (by rfl) gD kD bD .nil pass0 (pa_cons (pv 0) (pa_cons (pe_ifExp (pt_cmpR op_gt (pv 1) pe_int (nomark _)) pe_int pe_int) pa_nil))))
        (pss_cons (ps_if (pt_cmpR op_gt (pv 2) pe_int (nomark _)) (pss_one (ps_ret (pe_tup (pa_cons pe_str (pa_cons (pe_call GS hr (by rfl) gS kS bS .nil pass0 (pa_cons (pv 0) (pa_cons (pe_op op_sub (pv 1) pe_int) pa_nil))) pa_nil))))) pss_nil)
        (pss_cons (ps_if (pt_cmpR op_gt (pv 2) pe_int (nomark _)) (pss_cons (ps_set (i := 3) nd rfl (Or.inl rfl) (pe_call GS hr (by rfl) gS kS bS .nil pass0 (pa_cons (pv 0) (pa_cons (pe_op op_sub (pv 1) pe_int) pa_nil))))
        (pss_one (ps_ret (pe_tup (pa_cons (pe_call GPk hr2 (by rfl) gPk kPk bPk .nil pass0 (pa_cons (pv 0) (pa_cons (pe_lst (pa_cons pe_str (pa_cons pe_str pa_nil))) pa_nil))) (pa_cons (pv 3) (pa_cons (pe_call GS hr (by rfl) gS kS bS .nil pass0 (pa_cons (pv 0) (pa_cons (pe_op op_sub (pv 1) pe_int) pa_nil))) pa_nil))))))) pss_nil)
        (pss_cons (ps_if (pt_cmpR op_eq (pv 2) pe_int (nomark _)) (pss_one (ps_ret (pe_tup (pa_cons pe_str (pa_cons (pe_call GD hr1 (by rfl) gD kD bD .nil pass0 (pa_cons (pv 0) (pa_cons pe_int pa_nil))) pa_nil))))) pss_nil)
        (pss_cons (ps_set (i := 4) nd rfl (Or.inl rfl) (pe_lst (pa_cons pe_str (pa_cons pe_str (pa_cons pe_str (pa_cons pe_str (pa_cons pe_str (pa_cons pe_str (pa_cons pe_str (pa_cons pe_str (pa_cons pe_str (pa_cons pe_str (pa_cons pe_str (pa_cons pe_str pa_nil))))))))))))))
        (pss_one (ps_ret (pe_tup (pa_cons (pe_call GPk hr2 (by rfl) gPk kPk bPk .nil pass0 (pa_cons (pv 0) (pa_cons (pv 4) pa_nil))) pa_nil))))))))), ?_⟩
    obtain ⟨m, rfl⟩ : ∃ j, m = j + 1 := ⟨m - 1, by omega⟩
    have ec : cT (m + 1) = 2 + 2 * cT m := rfl
    rw [ec] at i1 kk
    have subE : ((m + 1 : Nat) : Int) - 1 = (m : Int) := by omega
    have keepP : ∀ {G G' : Hp} {k' lf' : Int}, PenAt G p l ns k' lf' → Same G G' → PenAt G' p l ns k' lf' := fun {G G' k' lf'} h s => ⟨s _ _ h.dc, s _ _ h.ls⟩
    refine ⟨V.ref p, rfl, V.int ((m + 1 : Nat) : Int), rfl, _, 1, rfl, rfl, _, rfl, ite2 (fun c => ?_) (fun c => ?_)⟩
    all_goals
      refine ⟨p, l, ns, k, lf, _, rfl, P0, hn, i0, by omega, i2, by decide, by decide, fun G1 k1 lf1 d g1 g2 g3 g4 g5 s1 P1 => ?_⟩
      have hd : m = 0 → d < 7 := fun z => by
        first
          | exact g5
          | exact absurd (of_decide_eq_true c) (by omega)
      have slf : ∀ {G : Hp} {ka la : Int} (R : VK), 1 ≤ m → PenAt G p l ns ka la → 0 ≤ ka → ka + cT m ≤ 100000 → 0 ≤ la → (∀ (H' : Hp) (k' lf' : Int) (v : V) (d : PyData), k' ≤ ka + cT m → 0 ≤ k' → 0 ≤ lf' → SameBut p G H' → PenAt H' p l ns k' lf' → De K H' v d → TsR m d → R v H') → spLt K n [.ref p, .int (((m + 1 : Nat) : Int) - 1)] G R (fun _ _ _ => False) := fun {G ka la} R h1 h2 h3 h4 h5 h6 => ⟨p, l, ns, ka, la, m, by rw [subE], h1, by omega, h2, hn, h3, h4, h5, h6⟩
      refine ⟨V.int d, rfl, d, 8, rfl, rfl, _, rfl, ite2 (fun c8 => ?_) (fun c8 => ?_)⟩
      · have c8 := of_decide_eq_true c8
        refine ⟨V.ref p, rfl, V.int ((m + 1 : Nat) : Int), rfl, _, 1, rfl, rfl, slf _ (by omega) P1 g2 (by omega) g3 fun H2 k2 lf2 v2 d2 e1 e2 e3 s2 P2 hv2 t2 => ⟨(by show 2 ≤ sizeLine; decide), fun q nq => ?_⟩⟩
        exact kk _ k2 lf2 (.ref q) _ (by omega) e2 e3 ((s1.trans s2).trans (SameBut.of (upd_new nq))) (keepP P2 (upd_new nq)) (.tup upd_same (.cons (.str _) (.cons (de_mono (upd_new nq) _ _ hv2) .nil))) (.neg t2)
      refine ⟨V.int d, rfl, d, 6, rfl, rfl, _, rfl, ite2 (fun c6 => ?_) (fun c6 => ?_)⟩
      · have c6 := of_decide_eq_true c6
        refine ⟨V.ref p, rfl, V.int ((m + 1 : Nat) : Int), rfl, _, 1, rfl, rfl, slf _ (by omega) P1 g2 (by omega) g3 fun H2 k2 lf2 v2 d2 e1 e2 e3 s2 P2 hv2 t2 => ?_⟩
        refine ⟨V.ref p, rfl, (by show 2 ≤ sizeLine; decide), fun q nq => ?_⟩
        have s3 := upd_new (o := .lst ((["and", "or"] : List Str).map V.str)) nq
        have hq3 : upd H2 q (.lst ((["and", "or"] : List Str).map V.str)) q = some (.lst ((["and", "or"] : List Str).map V.str)) := upd_same
        have P3 := keepP P2 s3
        refine ⟨p, l, .ref q, ns, k2, lf2, (["and", "or"] : List Str).map V.str, rfl, P3, hn, e2, by omega, e3, .inl ⟨q, rfl, hq3⟩, by decide, by decide, fun H4 k4 lf4 y f1 f2 f3 hy s4 P4 => ?_⟩
        obtain ⟨x, hx, rfl⟩ := List.mem_map.mp hy
        refine ⟨v2, rfl, V.ref p, rfl, V.int ((m + 1 : Nat) : Int), rfl, _, 1, rfl, rfl, slf _ (by omega) P4 f2 (by omega) f3 fun H5 k5 lf5 v5 d5 h1 h2 h3 s5 P5 hv5 t5 => ⟨(by show 3 ≤ sizeLine; decide), fun r nr => ?_⟩⟩
        have hv2' := de_mono (upd_new (o := .tup [.str x, v2, v5]) nr) _ _ (de_but P4.dc s5 (de_but P3.dc s4 (de_mono s3 _ _ hv2)))
        exact kk _ k5 lf5 (.ref r) _ (by omega) h2 h3 ((((s1.trans s2).trans (SameBut.of s3)).trans s4).trans (s5.trans (SameBut.of (upd_new nr)))) (keepP P5 (upd_new nr)) (.tup upd_same (.cons (.str _) (.cons hv2' (.cons (de_mono (upd_new nr) _ _ hv5) .nil)))) (.bin hx t2 t5)
      refine ⟨V.int d, rfl, rfl, _, rfl, ite2 (fun c0 => ?_) (fun c0 => ?_)⟩
      · refine ⟨V.ref p, rfl, p, l, ns, k1, lf1, 3, rfl, P1, hn, g2, by omega, g3, by decide, by decide, fun H2 k2 lf2 i e1 e2 e3 e4 e5 s2 P2 => ⟨(by show 2 ≤ sizeLine; decide), fun q nq => ?_⟩⟩
        exact kk _ k2 lf2 (.ref q) _ (by omega) e2 e3 ((s1.trans s2).trans (SameBut.of (upd_new nq))) (keepP P2 (upd_new nq)) (.tup upd_same (.cons (.str _) (.cons (.int _) .nil))) (.oth e4 (by omega))
      · refine ⟨(by show 12 ≤ sizeLine; decide), fun q nq => ?_⟩
        have s2 := upd_new (o := .lst (words12.map V.str)) nq
        have hq2 : upd G1 q (.lst (words12.map V.str)) q = some (.lst (words12.map V.str)) := upd_same
        have P2 := keepP P1 s2
        refine ⟨V.ref p, rfl, V.ref q, rfl, p, l, .ref q, ns, k1, lf1, words12.map V.str, rfl, P2, hn, g2, by omega, g3, .inl ⟨q, rfl, hq2⟩, by decide, by decide, fun H3 k3 lf3 y e1 e2 e3 hy s3 P3 => ⟨(by show 1 ≤ sizeLine; decide), fun r nr => ?_⟩⟩
        obtain ⟨x, hx, rfl⟩ := List.mem_map.mp hy
        exact kk _ k3 lf3 (.ref r) _ (by omega) e2 e3 (((s1.trans (SameBut.of s2)).trans s3).trans (SameBut.of (upd_new nr))) (keepP P3 (upd_new nr)) (.tup upd_same (.cons (.str _) .nil)) (.w (w12 x hx))
end
end SK
namespace SK
open PySem PySem.Spec PyProof.Rows L2 LamX NdefX
open K0 (De DeAll XCl spX withX)
/-! ### the law's simple statements -/
inductive SmR (blk : Str) : PyData → Prop
  | one {x : Str} : blk ∈ letD x → SmR blk (.tuple [.str x])
  | set {x : Str} {b : Bool} : x ∈ (["f", "x", "y"] : List Str) → SmR blk (.tuple [.str "set", .str x, .bool b])
  | ret {a : Str} : a ∈ ans4 → SmR blk (.tuple [.str "return", .str a])
  | retc {a : Str} : a ∈ ans4 → blk = Str.ofString "turn" → SmR blk (.tuple [.str "return", .str a, .str "cut"])
theorem Al.set1 {K : PySem.W.Frag} {H0 H : Hp} {σ : St} {te : TE} {i : Nat} {D : Ends} {d : PyData} (h : Al K H0 σ te d) (s : Same H0 H) (k : ∀ H' v, Same H H' → De K H' v d → D.nx (σ.set i (some v)) H') : tAsg te (gName i) D σ H := h H _ s k
theorem Al.set {K : PySem.W.Frag} {H0 H : Hp} {σ : St} {te : TE} {i : Nat} {u : TS} {D : Ends} {d : PyData} (h : Al K H0 σ te d) (s : Same H0 H) (k : ∀ H' v, Same H H' → De K H' v d → u D (σ.set i (some v)) H') : tSeq (tAsg te (gName i)) u D σ H := h H _ s k
def spSi (K : PySem.W.Frag) : Sp := fun vs H Q _ => ∃ (p l : Addr) (ns : List Int) (k lf : Int) (blk : Str), vs = [.ref p, .str blk] ∧ blk ∈ blk3 ∧ PenAt H p l ns k lf ∧ ns.length ≤ 63 ∧ 0 ≤ k ∧ k + 10 ≤ 100000 ∧ 0 ≤ lf ∧
  ∀ (H' : Hp) (k' lf' : Int) (v : V) (d : PyData), k' ≤ k + 5 → 0 ≤ k' → 0 ≤ lf' → SameBut p H H' → PenAt H' p l ns k' lf' → De K H' v d → SmR blk d → Q v H'
def menu4 : List PyData := [.tuple [.str "mark"], .tuple [.str "unmark"], .tuple [.str "set", .str "f", .bool true], .tuple [.str "set", .str "x", .bool true]]
theorem letD_all : (∀ b ∈ blk3, b ∈ letD (Str.ofString "mark") ∧ b ∈ letD (Str.ofString "unmark")) := by decide +kernel
theorem menu4_ok {blk : Str} (hb : blk ∈ blk3) : ∀ d ∈ menu4, SmR blk d := by
  intro d hd
  simp only [menu4, List.mem_cons, List.mem_nil_iff, or_false] at hd
  obtain ⟨a, b⟩ := letD_all blk hb
  rcases hd with rfl | rfl | rfl | rfl
  · exact .one a
  · exact .one b
  · exact .set (by decide +kernel)
  · exact .set (by decide +kernel)
theorem sm_fz {blk : Str} {d : PyData} (h : SmR blk d) : fz d = d := by
  cases h <;> simp [fz, fzAll]
theorem sm_fzAll {blk : Str} : ∀ {ds : List PyData}, (∀ d ∈ ds, SmR blk d) → fzAll ds = ds
  | [], _ => by simp [fzAll]
  | d :: ds, h => by rw [fzAll, sm_fz (h d (by simp)), sm_fzAll fun e he => h e (List.mem_cons_of_mem _ he)]
theorem sm_keep {K : PySem.W.Frag} {blk : Str} {G G' : Hp} {ds : List PyData} {vs : List V} (h : ∀ d ∈ ds, SmR blk d) (m : KeepN G G') (d : DeAll K G vs ds) : DeAll K G' vs ds := by
  have e := sm_fzAll h
  rw [← e] at d
  have z := de_fzAll m ds vs d
  rw [e] at z
  exact z
def more (blk a : Str) : List PyData := if blk = Str.ofString "down" then [.tuple [.str "make"], .tuple [.str "make"], .tuple [.str "keep"], .tuple [.str "keep"], .tuple [.str "stop"]] else
  if blk = Str.ofString "turn" then [.tuple [.str "cut"], .tuple [.str "keep"], .tuple [.str "return", .str a, .str "cut"], .tuple [.str "return", .str a, .str "cut"]] else [.tuple [.str "cut"], .tuple [.str "cut"], .tuple [.str "stop"]]
section
variable {P : Program} {w : World} {K : PySem.W.Frag} {mg : Str → Option Value} {base : Heap} {f fD fPk : Addr} {fd fdD fdPk : FuncData}
abbrev NSi : List Str := ["pen", "name", "menu", "answer"]
theorem ok_si (F : Fun K "_law_simple" "_law_simple" (top 55) f fd)
    (gD : mg "_law_draw" = some (.ref fD)) (kD : PySem.W.keepIn K (.ref fD) = true) (GD : FnOk P w K mg base CX0 1 fD fdD ["pen", "many"] spDraw) (bD : Binds K fdD ["pen", "many"] [])
    (gPk : mg "_law_pick" = some (.ref fPk)) (kPk : PySem.W.keepIn K (.ref fPk) = true) (GPk : FnOk P w K mg base CX0 2 fPk fdPk ["pen", "some"] spPick) (bPk : Binds K fdPk ["pen", "some"] []) : FnOk P w K mg base CX0 3 f fd ["pen", "name"] (spSi K) := by
  have S0 : FnScope NSi ["pen", "name"] (defScope (top 55)) := ⟨rfl, rfl, rfl, by decide +kernel, rfl, by decide +kernel, by decide +kernel⟩
  have nd := S0.nd
  refine F.ok S0 (fun vs H Q E h => ?_) (fun cdv A outer s H vs Q E hr h => ?_)
  · obtain ⟨p, l, ns, k, lf, blk, rfl, _⟩ := h
    rfl
  · obtain ⟨p, l, ns, k, lf, blk, rfl, hb, P0, hn, i0, i1, i2, kk⟩ := h
    have hr1 : Room 1 _ := hr.mono (by decide)
    have hr2 : Room 2 _ := hr
    refine ⟨_, (pss_cons (ps_set (i := 2) nd rfl (Or.inl rfl) (pe_lst (pa_cons (pe_tup (pa_cons pe_str pa_nil)) (pa_cons (pe_tup (pa_cons pe_str pa_nil)) (pa_cons (pe_tup (pa_cons pe_str (pa_cons pe_str (pa_cons pe_bl pa_nil)))) (pa_cons (pe_tup (pa_cons pe_str (pa_cons pe_str (pa_cons pe_bl pa_nil)))) pa_nil))))))
        (pss_cons (ps_set (i := 2) nd rfl (Or.inl rfl) (pe_op op_cat (pv 2) (pe_lst (pa_cons (pe_tup (pa_cons pe_str (pa_cons pe_str (pa_cons (pe_cmpR op_eq (pe_call GD hr1 (by rfl) gD kD bD .nil pass0 (pa_cons (pv 0) (pa_cons pe_int pa_nil))) pe_int (nomark _)) pa_nil)))) (pa_cons (pe_tup (pa_cons pe_str (pa_cons (pe_call GPk hr2 (by rfl) gPk kPk bPk .nil pass0 (pa_cons (pv 0) (pa_cons (pe_lst (pa_cons pe_str (pa_cons pe_str pa_nil))) pa_nil))) (pa_cons pe_bl pa_nil)))) pa_nil)))))
        (pss_cons (ps_expr (pe_bm PySem.F.plainAttrs_list PySem.F.slot_list_append PySem.F.type_list_append mt_append (pv 2) (pa_cons (pe_tup (pa_cons pe_str (pa_cons (pe_call GPk hr2 (by rfl) gPk kPk bPk .nil pass0 (pa_cons (pv 0) (pa_cons (pe_lst (pa_cons pe_str (pa_cons pe_str (pa_cons pe_str (pa_cons pe_str pa_nil))))) pa_nil))) pa_nil))) pa_nil)))
        (pss_cons (ps_if (pt_cmpR op_eq (pv 1) pe_str (nomark _)) (pss_one (ps_set (i := 2) nd rfl (Or.inl rfl) (pe_op op_cat (pv 2) (pe_lst (pa_cons (pe_tup (pa_cons pe_str pa_nil)) (pa_cons (pe_tup (pa_cons pe_str pa_nil)) (pa_cons (pe_tup (pa_cons pe_str pa_nil)) (pa_cons (pe_tup (pa_cons pe_str pa_nil)) (pa_cons (pe_tup (pa_cons pe_str pa_nil)) pa_nil))))))))) pss_nil)
        (pss_cons (ps_if (pt_cmpR op_eq (pv 1) pe_str (nomark _)) (pss_cons (ps_set (i := 3) nd rfl (Or.inl rfl) (pe_call GPk hr2 (by rfl) gPk kPk bPk .nil pass0 (pa_cons (pv 0) (pa_cons (pe_lst (pa_cons pe_str (pa_cons pe_str (pa_cons pe_str (pa_cons pe_str pa_nil))))) pa_nil))))
        (pss_one (ps_set (i := 2) nd rfl (Or.inl rfl) (pe_op op_cat (pv 2) (pe_lst (pa_cons (pe_tup (pa_cons pe_str pa_nil)) (pa_cons (pe_tup (pa_cons pe_str pa_nil)) (pa_cons (pe_tup (pa_cons pe_str (pa_cons (pv 3) (pa_cons pe_str pa_nil)))) (pa_cons (pe_tup (pa_cons pe_str (pa_cons (pv 3) (pa_cons pe_str pa_nil)))) pa_nil))))))))) pss_nil)
        (pss_cons (ps_if (pt_cmpR op_eq (pv 1) pe_str (nomark _)) (pss_one (ps_set (i := 2) nd rfl (Or.inl rfl) (pe_op op_cat (pv 2) (pe_lst (pa_cons (pe_tup (pa_cons pe_str pa_nil)) (pa_cons (pe_tup (pa_cons pe_str pa_nil)) (pa_cons (pe_tup (pa_cons pe_str pa_nil)) pa_nil))))))) pss_nil)
        (pss_one (ps_ret (pe_call GPk hr2 (by rfl) gPk kPk bPk .nil pass0 (pa_cons (pv 0) (pa_cons (pv 2) pa_nil))))))))))), ?_⟩
    have keepP : ∀ {G G' : Hp} {k' lf' : Int}, PenAt G p l ns k' lf' → Same G G' → PenAt G' p l ns k' lf' := fun {G G' k' lf'} h s => ⟨s _ _ h.dc, s _ _ h.ls⟩
    have b5 : (5000 : Nat) < sizeLine := by decide
    have pick : ∀ {G : Hp} {ka la : Int} {q : Addr} {ws : List Str} (R : VK), PenAt G p l ns ka la → 0 ≤ ka → ka ≤ 100000 → 0 ≤ la → G q = some (.lst (ws.map V.str)) → 0 < ws.length → ws.length ≤ 1000 → (∀ (H' : Hp) (k' lf' : Int) (x : Str), k' ≤ ka + 1 → 0 ≤ k' → 0 ≤ lf' → x ∈ ws → SameBut p G H' → PenAt H' p l ns k' lf' → R (.str x) H') → spPick [.ref p, .ref q] G R (fun _ _ _ => False) := fun {G ka la q ws} R h1 h2 h3 h4 h5 h6 h7 h8 =>
      ⟨p, l, .ref q, ns, ka, la, ws.map V.str, rfl, h1, hn, h2, h3, h4, .inl ⟨q, rfl, h5⟩, by rw [List.length_map]; exact h6, by rw [List.length_map]; exact h7, fun H' k' lf' y e1 e2 e3 hy s P => by
        obtain ⟨x, hx, rfl⟩ := List.mem_map.mp hy
        exact h8 H' k' lf' x e1 e2 e3 hx s P⟩
    refine Al.set (K := K) (H0 := H) (d := .list menu4) (al_lst (al_cons (al_tup (al_cons al_str al_nil) (by decide)) (al_cons (al_tup (al_cons al_str al_nil) (by decide)) (al_cons (al_tup (al_cons al_str (al_cons al_str (al_cons al_bl al_nil))) (by decide)) (al_cons (al_tup (al_cons al_str (al_cons al_str (al_cons al_bl al_nil))) (by decide)) al_nil)))) (by show 4 ≤ 1000; decide)) (Same.refl _) fun G1 m1 s1 hm1 => ?_
    have P1 := keepP P0 s1
    cases hm1 with
    | @lst a1 xs1 _ ha1 hxs1 =>
    have hl1 : xs1.length = 4 := deAll_len hxs1
    -- two more, with a draw and a pick
    refine ⟨V.ref a1, rfl, V.ref p, rfl, p, l, ns, k, lf, 2, rfl, P1, hn, i0, by omega, i2, by decide, by decide, fun G2 k2 lf2 d e1 e2 e3 e4 e5 s2 P2 => ?_⟩
    refine ⟨rfl, (by show 3 ≤ sizeLine; decide), fun t1 nt1 => ?_⟩
    have s3 := upd_new (o := .tup [.str "set", .str "y", .bl (decide (V.int d = V.int 0))]) nt1
    have ht3 : upd G2 t1 (.tup [.str "set", .str "y", .bl (decide (V.int d = V.int 0))]) t1 = some (.tup [.str "set", .str "y", .bl (decide (V.int d = V.int 0))]) := upd_same
    generalize upd G2 t1 (.tup [.str "set", .str "y", .bl (decide (V.int d = V.int 0))]) = G3 at s3 ht3
    refine ⟨V.ref p, rfl, (by show 2 ≤ sizeLine; decide), fun q nq => ?_⟩
    have s4 := upd_new (o := .lst ((["f", "x"] : List Str).map V.str)) nq
    have hq4 : upd G3 q (.lst ((["f", "x"] : List Str).map V.str)) q = some (.lst ((["f", "x"] : List Str).map V.str)) := upd_same
    have P4 := keepP (keepP P2 s3) s4
    refine pick (ws := ["f", "x"]) _ P4 e2 (by omega) e3 hq4 (by decide) (by decide) fun G5 k5 lf5 x f1 f2 f3 hx s5 P5 => ⟨(by show 3 ≤ sizeLine; decide), fun t2 nt2 => ?_⟩
    have ht5 := s5 _ _ (ne_of (s4 _ _ ht3) P4.dc (by intro z; cases z)) (s4 _ _ ht3)
    have nap : a1 ≠ p := ne_of ha1 P1.dc (by intro z; cases z)
    have ha4 := s4 _ _ (s3 _ _ (s2 _ _ nap ha1))
    have ha5 := s5 _ _ nap ha4
    have hx5 := de_butAll P4.dc s5 (de_monoAll s4 _ _ (de_monoAll s3 _ _ (de_butAll P1.dc s2 hxs1)))
    have s6 := upd_new (o := .tup [.str "set", .str x, .bl false]) nt2
    have ht6 : upd G5 t2 (.tup [.str "set", .str x, .bl false]) t2 = some (.tup [.str "set", .str x, .bl false]) := upd_same
    generalize upd G5 t2 (.tup [.str "set", .str x, .bl false]) = G6 at s6 ht6
    refine ⟨(by show 2 ≤ sizeLine; decide), fun c nc => ?_⟩
    have s7 := upd_new (o := .lst [.ref t1, .ref t2]) nc
    have hc7 : upd G6 c (.lst [.ref t1, .ref t2]) c = some (.lst [.ref t1, .ref t2]) := upd_same
    generalize upd G6 c (.lst [.ref t1, .ref t2]) = G7 at s7 hc7
    have s57 := s6.trans s7
    refine ⟨a1, c, xs1, [.ref t1, .ref t2], rfl, rfl, s57 _ _ ha5, hc7, (by rw [hl1]; show 4 + 2 ≤ sizeLine; omega), fun r nr => ?_⟩
    have s8 := upd_new (o := .lst (xs1 ++ [.ref t1, .ref t2])) nr
    have hr8 : upd G7 r (.lst (xs1 ++ [.ref t1, .ref t2])) r = some (.lst (xs1 ++ [.ref t1, .ref t2])) := upd_same
    generalize upd G7 r (.lst (xs1 ++ [.ref t1, .ref t2])) = G8 at s8 hr8
    have s58 := s57.trans s8
    have P7 := keepP P5 s57
    have nrp : r ≠ p := fun z => by
      rw [z, P7.dc] at nr
      cases nr
    have nrH : H r = none := by
      cases e : H r with
      | none => rfl
      | some o =>
        have z := (((((SameBut.of s1).trans s2).trans (SameBut.of (s3.trans s4))).trans s5).trans (SameBut.of s57)) r o nrp e
        rw [z] at nr
        cases nr
    have d8 : DeAll K G8 (xs1 ++ [.ref t1, .ref t2]) (menu4 ++ [.tuple [.str "set", .str "y", .bool (decide (V.int d = V.int 0))], .tuple [.str "set", .str x, .bool false]]) :=
      deAll_app (de_monoAll s58 _ _ hx5) (.cons (.tup (s58 _ _ ht5) (.cons (.str _) (.cons (.str _) (.cons (.bl _) .nil)))) (.cons (.tup (s8 _ _ (s7 _ _ ht6)) (.cons (.str _) (.cons (.str _) (.cons (.bl _) .nil)))) .nil))
    have ok8 : ∀ e ∈ menu4 ++ [.tuple [.str "set", .str "y", .bool (decide (V.int d = V.int 0))], .tuple [.str "set", .str x, .bool false]], SmR blk e := fun e he => by
      rcases List.mem_append.mp he with he | he
      · exact menu4_ok hb e he
      · simp only [List.mem_cons, List.mem_nil_iff, or_false] at he
        rcases he with rfl | rfl
        · exact .set (by decide +kernel)
        · have q : ∀ x ∈ (["f", "x"] : List Str), x ∈ (["f", "x", "y"] : List Str) := by decide +kernel
          exact .set (q x hx)
    have sb8 : SameBut p H G8 := ((((SameBut.of s1).trans s2).trans (SameBut.of (s3.trans s4))).trans s5).trans (SameBut.of s58)
    have P8 := keepP P5 s58
    have hl8 : (xs1 ++ [V.ref t1, V.ref t2]).length = 6 := by rw [List.length_append, hl1]; rfl
    generalize menu4 ++ [.tuple [.str "set", .str "y", .bool (decide (V.int d = V.int 0))], .tuple [.str "set", .str x, .bool false]] = ds8 at d8 ok8
    generalize xs1 ++ [V.ref t1, V.ref t2] = xs8 at hr8 d8 hl8
    clear s58 s57 s8 s7 s6 ht6 hc7 hx5 ha5 ha4 ht5 hq4 ht3
    -- a return
    refine ⟨V.ref r, rfl, .inl ⟨rfl, _, .inl (.inl hr8)⟩, V.ref p, rfl, (by show 4 ≤ sizeLine; decide), fun q2 nq2 => ?_⟩
    have s9 := upd_new (o := .lst (ans4.map V.str)) nq2
    have hq9 : upd G8 q2 (.lst (ans4.map V.str)) q2 = some (.lst (ans4.map V.str)) := upd_same
    have P9 := keepP P8 s9
    refine pick (ws := ans4) _ P9 f2 (by omega) f3 hq9 (by decide) (by decide) fun G10 k10 lf10 a g1 g2 g3 hxa s10 P10 => ⟨(by show 2 ≤ sizeLine; decide), fun t3 nt3 => ?_⟩
    have hr10 := s10 _ _ nrp (s9 _ _ hr8)
    have d10 := de_butAll P9.dc s10 (de_monoAll s9 _ _ d8)
    have s11 := upd_new (o := .tup [.str "return", .str a]) nt3
    have ht11 : upd G10 t3 (.tup [.str "return", .str a]) t3 = some (.tup [.str "return", .str a]) := upd_same
    generalize upd G10 t3 (.tup [.str "return", .str a]) = G11 at s11 ht11
    have hr11 := s11 _ _ hr10
    have kN : KeepN G11 (upd G11 r (.lst (xs8 ++ [.ref t3]))) := fun b o nl hb' => by
      rw [upd_ne (fun z => by rw [z, hr11] at hb'; exact nl xs8 (Option.some.inj hb').symm)]
      exact hb'
    have ok12 : ∀ e ∈ ds8 ++ [.tuple [.str "return", .str a]], SmR blk e := fun e he => by
      rcases List.mem_append.mp he with he | he
      · exact ok8 e he
      · rw [List.mem_singleton.mp he]
        exact .ret hxa
    have d12 := sm_keep ok12 kN (deAll_app (de_monoAll s11 _ _ d10) (.cons (.tup ht11 (.cons (.str _) (.cons (.str _) .nil))) .nil))
    refine ⟨r, xs8, .ref t3, rfl, rfl, hr11, by omega, ?_⟩
    have sb12 : SameBut p H (upd G11 r (.lst (xs8 ++ [.ref t3]))) := fun b o hb' e => by
      rw [upd_ne (ne_of_none e nrH)]
      exact (((sb8.trans (SameBut.of s9)).trans s10).trans (SameBut.of s11)) b o hb' e
    have P11 := keepP P10 s11
    have P12 : PenAt (upd G11 r (.lst (xs8 ++ [.ref t3]))) p l ns k10 lf10 := ⟨by rw [upd_ne (Ne.symm nrp)]; exact P11.dc, by
      rw [upd_ne (fun z => by rw [← z, P0.ls] at nrH; cases nrH)]
      exact P11.ls⟩
    have hr12 : upd G11 r (.lst (xs8 ++ [.ref t3])) r = some (.lst (xs8 ++ [.ref t3])) := upd_same
    have hl12 : (xs8 ++ [V.ref t3]).length = 7 := by rw [List.length_append, hl8]; rfl
    have hd12 : (ds8 ++ [PyData.tuple [.str "return", .str a]]).length = 7 := by rw [← deAll_len d12, hl12]
    generalize upd G11 r (.lst (xs8 ++ [.ref t3])) = G12 at sb12 P12 hr12 d12
    generalize xs8 ++ [V.ref t3] = xs12 at hr12 d12 hl12
    generalize ds8 ++ [PyData.tuple [.str "return", .str a]] = ds12 at d12 ok12 hd12
    have fin : ∀ {G : Hp} {ka la : Int} {r' : Addr} {xs : List V} {ds : List PyData}, PenAt G p l ns ka la → 0 ≤ ka → ka ≤ k + 4 → 0 ≤ la → SameBut p H G → G r' = some (.lst xs) → DeAll K G xs ds → (∀ e ∈ ds, SmR blk e) → 0 < xs.length → xs.length ≤ 1000 → spPick [.ref p, .ref r'] G Q (fun _ _ _ => False) := fun {G ka la r' xs ds} h1 h2 h3 h4 h5 h6 h7 h8 h9 h10 =>
      ⟨p, l, .ref r', ns, ka, la, xs, rfl, h1, hn, h2, by omega, h4, .inl ⟨r', rfl, h6⟩, h9, h10, fun H' k' lf' y e1 e2 e3 hy s P => by
        obtain ⟨e, he, hde⟩ := deAll_mem h7 hy
        exact kk H' k' lf' y e (by omega) e2 e3 (h5.trans s) P (de_but h1.dc s hde) (h8 e he)⟩
    have neq : ∀ {x y : Str}, x ≠ y → decide (V.str x = V.str y) = false := fun {x y} h => decide_eq_false fun z => h (V.str.inj z)
    have okM : ∀ (ex : List PyData), (∀ e ∈ ex, SmR blk e) → ∀ e ∈ ds12 ++ ex, SmR blk e := fun ex h e he => (List.mem_append.mp he).elim (ok12 e) (h e)
    have hb3 : blk = Str.ofString "down" ∨ blk = Str.ofString "turn" ∨ blk = Str.ofString "up" := by
      simp only [blk3, List.mem_cons, List.mem_nil_iff, or_false] at hb
      exact hb
    have one1 : ∀ {x : Str}, (∀ b ∈ blk3, b = blk → b ∈ letD x) → SmR blk (.tuple [.str x]) := fun {x} h => .one (h blk hb rfl)
    refine ⟨V.str blk, rfl, rfl, _, rfl, ?_⟩
    rcases hb3 with e | e | e
    · subst e
      refine iteT (Al.set1 (K := K) (H0 := G12) (d := .list (ds12 ++ [.tuple [.str "make"], .tuple [.str "make"], .tuple [.str "keep"], .tuple [.str "keep"], .tuple [.str "stop"]])) (al_cat (al_var (i := 2) rfl (.lst hr12 d12)) (al_lst (al_cons (al_tup (al_cons al_str al_nil) (by decide)) (al_cons (al_tup (al_cons al_str al_nil) (by decide)) (al_cons (al_tup (al_cons al_str al_nil) (by decide)) (al_cons (al_tup (al_cons al_str al_nil) (by decide)) (al_cons (al_tup (al_cons al_str al_nil) (by decide)) al_nil))))) (by show 5 ≤ 1000; decide)) (by rw [hd12]; decide)) (Same.refl _) fun G13 m13 s13 hm13 => ?_)
      have hm13 := hm13
      cases hm13 with
      | @lst a13 xs13 _ ha13 hx13 =>
      have hl13 := deAll_len hx13
      rw [List.length_append, hd12] at hl13
      have hl13 : xs13.length = 12 := hl13
      refine ⟨V.str _, rfl, rfl, _, rfl, ?_⟩
      rw [neq (by decide)]
      refine iteF ⟨V.str _, rfl, rfl, _, rfl, ?_⟩
      rw [neq (by decide)]
      refine iteF ⟨V.ref p, rfl, V.ref a13, rfl, fin (keepP P12 s13) g2 (by omega) g3 (sb12.trans (SameBut.of s13)) ha13 hx13 (okM _ ?_) (by omega) (by omega)⟩
      intro e he
      simp only [List.mem_cons, List.mem_nil_iff, or_false] at he
      rcases he with rfl | rfl | rfl | rfl | rfl <;> exact .one (by decide +kernel)
    · subst e
      rw [neq (by decide)]
      refine iteF ⟨V.str _, rfl, rfl, _, rfl, iteT ⟨V.ref p, rfl, (by show 4 ≤ sizeLine; decide), fun q3 nq3 => ?_⟩⟩
      have s13 := upd_new (o := .lst (ans4.map V.str)) nq3
      have hq13 : upd G12 q3 (.lst (ans4.map V.str)) q3 = some (.lst (ans4.map V.str)) := upd_same
      have P13 := keepP P12 s13
      refine pick (ws := ans4) _ P13 g2 (by omega) g3 hq13 (by decide) (by decide) fun G14 k14 lf14 a2 w1 w2 w3 hxa2 s14 P14 => ?_
      have hr14 := s14 _ _ nrp (s13 _ _ hr12)
      have d14 := de_butAll P13.dc s14 (de_monoAll s13 _ _ d12)
      have sb14 := (sb12.trans (SameBut.of s13)).trans s14
      refine Al.set1 (K := K) (H0 := G14) (d := .list (ds12 ++ [.tuple [.str "cut"], .tuple [.str "keep"], .tuple [.str "return", .str a2, .str "cut"], .tuple [.str "return", .str a2, .str "cut"]])) (al_cat (al_var (i := 2) rfl (.lst hr14 d14)) (al_lst (al_cons (al_tup (al_cons al_str al_nil) (by decide)) (al_cons (al_tup (al_cons al_str al_nil) (by decide)) (al_cons (al_tup (al_cons al_str (al_cons (al_var (i := 3) rfl (.str a2)) (al_cons al_str al_nil))) (by show 3 ≤ 1000; decide)) (al_cons (al_tup (al_cons al_str (al_cons (al_var (i := 3) rfl (.str a2)) (al_cons al_str al_nil))) (by show 3 ≤ 1000; decide)) al_nil)))) (by show 4 ≤ 1000; decide)) (by rw [hd12]; show 7 + 4 ≤ 1000; decide)) (Same.refl _) fun G15 m15 s15 hm15 => ?_
      have hm15 := hm15
      cases hm15 with
      | @lst a15 xs15 _ ha15 hx15 =>
      have hl15 := deAll_len hx15
      rw [List.length_append, hd12] at hl15
      have hl15 : xs15.length = 11 := hl15
      refine ⟨V.str _, rfl, rfl, _, rfl, ?_⟩
      rw [neq (by decide)]
      refine iteF ⟨V.ref p, rfl, V.ref a15, rfl, fin (keepP P14 s15) w2 (by omega) w3 (sb14.trans (SameBut.of s15)) ha15 hx15 (okM _ ?_) (by omega) (by omega)⟩
      intro e he
      simp only [List.mem_cons, List.mem_nil_iff, or_false] at he
      rcases he with rfl | rfl | rfl | rfl
      · exact .one (by decide +kernel)
      · exact .one (by decide +kernel)
      · exact .retc hxa2 rfl
      · exact .retc hxa2 rfl
    · subst e
      rw [neq (by decide)]
      refine iteF ⟨V.str _, rfl, rfl, _, rfl, ?_⟩
      rw [neq (by decide)]
      refine iteF ⟨V.str _, rfl, rfl, _, rfl, iteT (Al.set1 (K := K) (H0 := G12) (d := .list (ds12 ++ [.tuple [.str "cut"], .tuple [.str "cut"], .tuple [.str "stop"]])) (al_cat (al_var (i := 2) rfl (.lst hr12 d12)) (al_lst (al_cons (al_tup (al_cons al_str al_nil) (by decide)) (al_cons (al_tup (al_cons al_str al_nil) (by decide)) (al_cons (al_tup (al_cons al_str al_nil) (by decide)) al_nil))) (by show 3 ≤ 1000; decide)) (by rw [hd12]; decide)) (Same.refl _) fun G13 m13 s13 hm13 => ?_)⟩
      have hm13 := hm13
      cases hm13 with
      | @lst a13 xs13 _ ha13 hx13 =>
      have hl13 := deAll_len hx13
      rw [List.length_append, hd12] at hl13
      have hl13 : xs13.length = 10 := hl13
      refine ⟨V.ref p, rfl, V.ref a13, rfl, fin (keepP P12 s13) g2 (by omega) g3 (sb12.trans (SameBut.of s13)) ha13 hx13 (okM _ ?_) (by omega) (by omega)⟩
      intro e he
      simp only [List.mem_cons, List.mem_nil_iff, or_false] at he
      rcases he with rfl | rfl | rfl <;> exact .one (by decide +kernel)
end
end SK
namespace SK
open PySem PySem.Spec PyProof.Rows L2 LamX NdefX
open K0 (De DeAll XCl spX withX)
/-! ### what the law builds is right -/
theorem TsR.mono {n : Nat} {d : PyData} (h : TsR n d) : ∀ {m : Nat}, n ≤ m → TsR m d := by
  induction h with
  | w hx => exact fun {m} hm => by obtain ⟨j, rfl⟩ : ∃ j, m = j + 1 := ⟨m - 1, by omega⟩; exact .w hx
  | oth h0 h1 => exact fun {m} hm => by obtain ⟨j, rfl⟩ : ∃ j, m = j + 1 := ⟨m - 1, by omega⟩; exact .oth h0 h1
  | neg _ ih => exact fun {m} hm => by obtain ⟨j, rfl⟩ : ∃ j, m = j + 1 := ⟨m - 1, by omega⟩; exact .neg (ih (by omega))
  | bin hx _ _ ia ib => exact fun {m} hm => by obtain ⟨j, rfl⟩ : ∃ j, m = j + 1 := ⟨m - 1, by omega⟩; exact .bin hx (ia (by omega)) (ib (by omega))
theorem plain_str : ∀ x ∈ plain10, PyData.strOk x = true := by decide +kernel
theorem andor_ok : ∀ x ∈ (["and", "or"] : List Str), PyData.strOk x = true ∧ x ≠ Str.ofString "others" ∧ x ≠ Str.ofString "not" := by decide +kernel
theorem tsR_ok {n : Nat} {d : PyData} (h : TsR n d) : okT n d = true := by
  induction h with
  | @w n x hx =>
    show (true && inS plain10 (.str x)) = true
    rw [inS_str, decide_eq_true hx]
    rfl
  | @oth n i h0 h1 =>
    show (true && (([] : List PyData).isEmpty && (decide (0 ≤ i) && decide (i ≤ 2)))) = true
    rw [decide_eq_true h0, decide_eq_true h1]
    rfl
  | @neg n d _ ih =>
    show (true && okT2 (okT n) (.str "not") d []) = true
    unfold okT2
    rw [if_neg (show ¬ nm (PyData.str "not") = some (Str.ofString "others") from fun q => absurd (Option.some.inj q) (by decide)), if_pos (show nm (PyData.str "not") = some (Str.ofString "not") from rfl), ih]
    rfl
  | @bin n x a b hx _ _ ia ib =>
    obtain ⟨_, n1, n2⟩ := andor_ok x hx
    show (true && okT2 (okT n) (.str x) a [b]) = true
    unfold okT2
    rw [if_neg (show ¬ nm (PyData.str x) = some (Str.ofString "others") from fun q => n1 (Option.some.inj q)), if_neg (show ¬ nm (PyData.str x) = some (Str.ofString "not") from fun q => n2 (Option.some.inj q)), inS_str, decide_eq_true hx, if_pos rfl]
    show (true && (okT n a && okT n b)) = true
    rw [ia, ib]
    rfl
theorem tsR_hd {n : Nat} {d : PyData} (h : TsR n d) : hdT n d := by
  induction h with
  | @w n x hx =>
    intro h r _ e
    injection e with e1 e2
    subst e1 e2
    exact ⟨.str x (plain_str x hx), fun e he => absurd he (by simp)⟩
  | @oth n i h0 h1 =>
    intro h r _ e
    injection e with e1 e2
    subst e1 e2
    refine ⟨.str _ (by decide +kernel), fun e he => ?_⟩
    rw [List.mem_singleton.mp he]
    cases n with
    | zero => exact trivial
    | succ n => exact fun _ _ z => nomatch z
  | @neg n d _ ih =>
    intro h r _ e
    injection e with e1 e2
    subst e1 e2
    refine ⟨.str _ (by decide +kernel), fun e he => ?_⟩
    rw [List.mem_singleton.mp he]
    exact ih
  | @bin n x a b hx _ _ ia ib =>
    intro h r _ e
    injection e with e1 e2
    subst e1 e2
    refine ⟨.str x (andor_ok x hx).1, fun e he => ?_⟩
    rcases List.mem_cons.mp he with rfl | he
    · exact ia
    · rw [List.mem_singleton.mp he]
      exact ib
end SK
namespace SK
open PySem PySem.Spec PyProof.Rows L2 LamX NdefX
open K0 (De DeAll XCl spX withX)
/-! ### right tests and statements, made of tuples or of lists -/
inductive TsG : Nat → PyData → Prop
  | w {n : Nat} {d : PyData} {x : Str} : isTL d = true → elems d = [.str x] → x ∈ plain10 → TsG (n + 1) d
  | oth {n : Nat} {d : PyData} {i : Int} : isTL d = true → elems d = [.str "others", .int i] → 0 ≤ i → i ≤ 2 → TsG (n + 1) d
  | neg {n : Nat} {d e : PyData} : isTL d = true → elems d = [.str "not", e] → TsG n e → TsG (n + 1) d
  | bin {n : Nat} {d a b : PyData} {x : Str} : isTL d = true → elems d = [.str x, a, b] → x ∈ (["and", "or"] : List Str) → TsG n a → TsG n b → TsG (n + 1) d
theorem TsG.mono {n : Nat} {d : PyData} (h : TsG n d) : ∀ {m : Nat}, n ≤ m → TsG m d := by
  induction h with
  | w ht he hx => exact fun {m} hm => by obtain ⟨j, rfl⟩ : ∃ j, m = j + 1 := ⟨m - 1, by omega⟩; exact .w ht he hx
  | oth ht he h0 h1 => exact fun {m} hm => by obtain ⟨j, rfl⟩ : ∃ j, m = j + 1 := ⟨m - 1, by omega⟩; exact .oth ht he h0 h1
  | neg ht he _ ih => exact fun {m} hm => by obtain ⟨j, rfl⟩ : ∃ j, m = j + 1 := ⟨m - 1, by omega⟩; exact .neg ht he (ih (by omega))
  | bin ht he hx _ _ ia ib => exact fun {m} hm => by obtain ⟨j, rfl⟩ : ∃ j, m = j + 1 := ⟨m - 1, by omega⟩; exact .bin ht he hx (ia (by omega)) (ib (by omega))
theorem TsG.tl {n : Nat} {d : PyData} (h : TsG n d) : isTL d = true := by
  cases h <;> assumption
theorem tsG_ok {n : Nat} {d : PyData} (h : TsG n d) : okT n d = true := by
  induction h with
  | @w n d x ht he hx =>
    show (isTL d && okTL (okT n) (elems d)) = true
    rw [ht, he]
    show (true && inS plain10 (.str x)) = true
    rw [inS_str, decide_eq_true hx]
    rfl
  | @oth n d i ht he h0 h1 =>
    show (isTL d && okTL (okT n) (elems d)) = true
    rw [ht, he]
    show (true && (([] : List PyData).isEmpty && (decide (0 ≤ i) && decide (i ≤ 2)))) = true
    rw [decide_eq_true h0, decide_eq_true h1]
    rfl
  | @neg n d e ht he _ ih =>
    show (isTL d && okTL (okT n) (elems d)) = true
    rw [ht, he]
    show (true && okT2 (okT n) (.str "not") e []) = true
    unfold okT2
    rw [if_neg (show ¬ nm (PyData.str "not") = some (Str.ofString "others") from fun q => absurd (Option.some.inj q) (by decide)), if_pos (show nm (PyData.str "not") = some (Str.ofString "not") from rfl), ih]
    rfl
  | @bin n d a b x ht he hx _ _ ia ib =>
    obtain ⟨_, n1, n2⟩ := andor_ok x hx
    show (isTL d && okTL (okT n) (elems d)) = true
    rw [ht, he]
    show (true && okT2 (okT n) (.str x) a [b]) = true
    unfold okT2
    rw [if_neg (show ¬ nm (PyData.str x) = some (Str.ofString "others") from fun q => n1 (Option.some.inj q)), if_neg (show ¬ nm (PyData.str x) = some (Str.ofString "not") from fun q => n2 (Option.some.inj q)), inS_str, decide_eq_true hx, if_pos rfl]
    show (true && (okT n a && okT n b)) = true
    rw [ia, ib]
    rfl
theorem hdT_int (n : Nat) (i : Int) : hdT n (.int i) := by
  cases n with
  | zero => exact trivial
  | succ n => exact fun _ _ z => nomatch z
theorem tsG_hd {n : Nat} {d : PyData} (h : TsG n d) : hdT n d := by
  induction h with
  | @w n d x ht he hx =>
    intro h r _ e
    rw [he] at e
    injection e with e1 e2
    subst e1 e2
    exact ⟨.str x (plain_str x hx), fun e he => absurd he (by simp)⟩
  | @oth n d i ht he h0 h1 =>
    intro h r _ e
    rw [he] at e
    injection e with e1 e2
    subst e1 e2
    refine ⟨.str _ (by decide +kernel), fun e he => ?_⟩
    rw [List.mem_singleton.mp he]
    exact hdT_int n i
  | @neg n d e0 ht he0 _ ih =>
    intro h r _ e
    rw [he0] at e
    injection e with e1 e2
    subst e1 e2
    refine ⟨.str _ (by decide +kernel), fun e he => ?_⟩
    rw [List.mem_singleton.mp he]
    exact ih
  | @bin n d a b x ht he0 hx _ _ ia ib =>
    intro h r _ e
    rw [he0] at e
    injection e with e1 e2
    subst e1 e2
    refine ⟨.str x (andor_ok x hx).1, fun e he => ?_⟩
    rcases List.mem_cons.mp he with rfl | he
    · exact ia
    · rw [List.mem_singleton.mp he]
      exact ib
theorem tsG_lev {n : Nat} {d : PyData} (h : TsG n d) : lev d ≤ n := by
  induction h with
  | w ht he hx =>
    rw [lev_tl ht, he]
    simp [levAll, lev]
  | oth ht he h0 h1 =>
    rw [lev_tl ht, he]
    simp [levAll, lev]
  | neg ht he _ ih =>
    rw [lev_tl ht, he]
    simp [levAll, lev]
    omega
  | bin ht he hx _ _ ia ib =>
    rw [lev_tl ht, he]
    simp [levAll, lev]
    omega
theorem hdW_no {d : PyData} (h : isTL d = false) : ∀ m, hdW m d
  | 0 => trivial
  | m + 1 => fun z => by
    rw [h] at z
    cases z
theorem tsG_w {n : Nat} {d : PyData} (h : TsG n d) : ∀ m, hdW m d := by
  induction h with
  | w ht he hx =>
    intro m
    cases m with
    | zero => exact trivial
    | succ m =>
      intro _
      rw [he]
      refine ⟨by simp, fun e h => ?_⟩
      rw [List.mem_singleton.mp h]
      exact hdW_no rfl m
  | oth ht he h0 h1 =>
    intro m
    cases m with
    | zero => exact trivial
    | succ m =>
      intro _
      rw [he]
      refine ⟨by simp, fun e h => ?_⟩
      simp only [List.mem_cons, List.mem_nil_iff, or_false] at h
      rcases h with rfl | rfl <;> exact hdW_no rfl m
  | neg ht he _ ih =>
    intro m
    cases m with
    | zero => exact trivial
    | succ m =>
      intro _
      rw [he]
      refine ⟨by simp, fun e h => ?_⟩
      simp only [List.mem_cons, List.mem_nil_iff, or_false] at h
      rcases h with rfl | rfl
      · exact hdW_no rfl m
      · exact ih m
  | bin ht he hx _ _ ia ib =>
    intro m
    cases m with
    | zero => exact trivial
    | succ m =>
      intro _
      rw [he]
      refine ⟨by simp, fun e h => ?_⟩
      simp only [List.mem_cons, List.mem_nil_iff, or_false] at h
      rcases h with rfl | rfl | rfl
      · exact hdW_no rfl m
      · exact ia m
      · exact ib m
/-! ### data that can be held against other data -/
def Lay (n : Nat) (d : PyData) : Prop := d.canLay0 = true ∧ d.depth ≤ n ∧ ∀ (K : PySem.W.Frag) (H : Hp) (v : V), De K H v d → Dp K H v d
theorem Lay.mono {n m : Nat} {d : PyData} (h : Lay n d) (k : n ≤ m) : Lay m d := ⟨h.1, Nat.le_trans h.2.1 k, h.2.2⟩
theorem lay_all {n : Nat} : ∀ {ds : List PyData}, (∀ e ∈ ds, Lay n e) → PyData.canLayAll0 ds = true ∧ PyData.depthAll ds ≤ n ∧ ∀ (K : PySem.W.Frag) (H : Hp) (vs : List V), DeAll K H vs ds → DpAll K H vs ds
  | [], _ => ⟨rfl, by simp [PyData.depthAll], fun K H vs h => by cases h; exact .nil⟩
  | d :: ds, h => by
    obtain ⟨a1, a2, a3⟩ := h d (by simp)
    obtain ⟨b1, b2, b3⟩ := lay_all (ds := ds) fun e he => h e (List.mem_cons_of_mem _ he)
    refine ⟨by simp only [PyData.canLayAll0, a1, b1]; rfl, by simp only [PyData.depthAll]; omega, fun K H vs h => ?_⟩
    cases h with
    | cons h1 h2 => exact .cons (a3 _ _ _ h1) (b3 _ _ _ h2)
theorem lay_tup {n : Nat} {ds : List PyData} (h : ∀ e ∈ ds, Lay n e) : Lay (n + 1) (.tuple ds) := by
  obtain ⟨a, b, c⟩ := lay_all h
  refine ⟨by simp only [PyData.canLay0]; exact a, by simp only [PyData.depth]; omega, fun K H v h => ?_⟩
  cases h with
  | tup ha hd => exact .tup (.inl (.inl ha)) (c _ _ _ hd)
theorem lay_str {x : Str} (h : PyData.strOk x = true) : Lay 0 (.str x) := ⟨by simp only [PyData.canLay0]; exact h, by simp [PyData.depth], fun K H v h => by cases h; exact .str x⟩
theorem lay_int (i : Int) : Lay 0 (.int i) := ⟨by simp only [PyData.canLay0], by simp [PyData.depth], fun K H v h => by cases h; exact .int i⟩
theorem lay_bl (b : Bool) : Lay 0 (.bool b) := ⟨by simp only [PyData.canLay0], by simp [PyData.depth], fun K H v h => by cases h; exact .bl b⟩
theorem Lay.eqb {n : Nat} {d : PyData} (h : Lay n d) (k : n ≤ 64) : Eqb d := ⟨by
  unfold SeqAt.shaped
  rw [h.1, decide_eq_true (Nat.le_trans h.2.1 k)]
  rfl, h.2.2⟩
theorem tsG_lay {n : Nat} {d : PyData} (h : TsG n d) : Lay n (fz d) := by
  induction h with
  | @w n d x ht he hx =>
    rw [fz_tl ht, he]
    refine lay_tup fun e h => ?_
    simp only [List.map_cons, List.map_nil, List.mem_cons, List.mem_nil_iff, or_false, fz] at h
    rw [h]
    exact (lay_str (plain_str x hx)).mono (Nat.zero_le _)
  | @oth n d i ht he h0 h1 =>
    rw [fz_tl ht, he]
    refine lay_tup fun e h => ?_
    simp only [List.map_cons, List.map_nil, List.mem_cons, List.mem_nil_iff, or_false, fz] at h
    rcases h with rfl | rfl
    · exact (lay_str (by decide +kernel)).mono (Nat.zero_le _)
    · exact (lay_int i).mono (Nat.zero_le _)
  | @neg n d e0 ht he _ ih =>
    rw [fz_tl ht, he]
    refine lay_tup fun e h => ?_
    simp only [List.map_cons, List.map_nil, List.mem_cons, List.mem_nil_iff, or_false, fz] at h
    rcases h with rfl | rfl
    · exact (lay_str (by decide +kernel)).mono (Nat.zero_le _)
    · exact ih
  | @bin n d a b x ht he hx _ _ ia ib =>
    rw [fz_tl ht, he]
    refine lay_tup fun e h => ?_
    simp only [List.map_cons, List.map_nil, List.mem_cons, List.mem_nil_iff, or_false, fz] at h
    rcases h with rfl | rfl | rfl
    · exact (lay_str (andor_ok x hx).1).mono (Nat.zero_le _)
    · exact ia
    · exact ib
/-! ### made of tuples; lists for tuples -/
mutual
def lz : PyData → PyData
  | .tuple ds => .list (lzAll ds)
  | .list ds => .list ds
  | .none => .none
  | .bool b => .bool b
  | .int i => .int i
  | .str x => .str x
  | d => d
def lzAll : List PyData → List PyData
  | [] => []
  | d :: ds => lz d :: lzAll ds
end
theorem lzAll_map : ∀ ds : List PyData, lzAll ds = ds.map lz
  | [] => by simp [lzAll]
  | d :: ds => by simp [lzAll, lzAll_map ds]
theorem fz_fix {d : PyData} (f : fz d = d) (h : isTL d = true) : d = .tuple (elems d) ∧ ∀ e ∈ elems d, fz e = e := by
  cases d with
  | tuple ds =>
    refine ⟨rfl, ?_⟩
    simp only [fz] at f
    injection f with f
    rw [fzAll_map] at f
    intro e he
    have he : e ∈ ds := he
    obtain ⟨i, hi⟩ := List.mem_iff_getElem?.mp he
    have z := congrArg (fun l : List PyData => l[i]?) f
    simp only [List.getElem?_map, hi, Option.map_some] at z
    exact Option.some.inj z
  | list ds =>
    simp only [fz] at f
    cases f
  | _ => cases h
theorem lz_tl {d : PyData} (f : fz d = d) (h : isTL d = true) : isTL (lz d) = true ∧ elems (lz d) = (elems d).map lz := by
  obtain ⟨e, _⟩ := fz_fix f h
  rw [e]
  exact ⟨by simp [lz, isTL], by simp [lz, elems, lzAll_map]⟩
theorem fz_mk {ds : List PyData} (h : ∀ e ∈ ds, fz e = e) : fz (.tuple ds) = .tuple ds := by
  rw [fz, fzAll_map]
  congr 1
  have e : ds.map fz = ds.map id := List.map_congr_left h
  rw [e, List.map_id]
mutual
theorem fz_lz : ∀ d : PyData, fz (lz d) = fz d
  | .tuple ds => by simp only [lz, fz, fz_lzAll ds]
  | .list ds => by simp only [lz]
  | .none => by simp only [lz]
  | .bool b => by simp only [lz]
  | .int i => by simp only [lz]
  | .str x => by simp only [lz]
  | .dict ds => by simp only [lz]
theorem fz_lzAll : ∀ ds : List PyData, fzAll (lzAll ds) = fzAll ds
  | [] => by simp only [lzAll]
  | d :: ds => by simp only [lzAll, fzAll, fz_lz d, fz_lzAll ds]
end
theorem tsG_lz {n : Nat} {d : PyData} (h : TsG n d) : fz d = d → TsG n (lz d) := by
  induction h with
  | @w n d x ht he hx =>
    intro f
    obtain ⟨a, b⟩ := lz_tl f ht
    rw [he] at b
    simp only [List.map_cons, List.map_nil, lz] at b
    exact .w a b hx
  | @oth n d i ht he h0 h1 =>
    intro f
    obtain ⟨a, b⟩ := lz_tl f ht
    rw [he] at b
    simp only [List.map_cons, List.map_nil, lz] at b
    exact .oth a b h0 h1
  | @neg n d e0 ht he _ ih =>
    intro f
    obtain ⟨a, b⟩ := lz_tl f ht
    obtain ⟨_, c⟩ := fz_fix f ht
    rw [he] at b c
    simp only [List.map_cons, List.map_nil, lz] at b
    exact .neg a b (ih (c _ (by simp)))
  | @bin n d a0 b0 x ht he hx _ _ ia ib =>
    intro f
    obtain ⟨a, b⟩ := lz_tl f ht
    obtain ⟨_, c⟩ := fz_fix f ht
    rw [he] at b c
    simp only [List.map_cons, List.map_nil, lz] at b
    exact .bin a b hx (ia (c _ (by simp))) (ib (c _ (by simp)))
theorem tsR_g {n : Nat} {d : PyData} (h : TsR n d) : TsG n d ∧ fz d = d := by
  induction h with
  | w hx => exact ⟨.w rfl rfl hx, by simp [fz, fzAll]⟩
  | oth h0 h1 => exact ⟨.oth rfl rfl h0 h1, by simp [fz, fzAll]⟩
  | neg _ ih => exact ⟨.neg rfl rfl ih.1, by simp [fz, fzAll, ih.2]⟩
  | bin hx _ _ ia ib => exact ⟨.bin rfl rfl hx ia.1 ib.1, by simp [fz, fzAll, ia.2, ib.2]⟩
end SK
namespace SK
open PySem PySem.Spec PyProof.Rows L2 LamX NdefX
open K0 (De DeAll XCl spX withX)
/-! ### right statements: their number, their names -/
mutual
inductive StG (blk : Str) : Nat → PyData → Nat → List Str → Prop
  | one {n : Nat} {d : PyData} {x : Str} : isTL d = true → elems d = [.str x] → blk ∈ letD x → StG blk n d 1 (if x = Str.ofString "keep" then ["p"] else [])
  | set {n : Nat} {d : PyData} {x : Str} {b : Bool} : isTL d = true → elems d = [.str "set", .str x, .bool b] → x ∈ (["f", "x", "y"] : List Str) → StG blk n d 1 (if x = Str.ofString "f" then [] else [x])
  | ret {n : Nat} {d : PyData} {a : Str} : isTL d = true → elems d = [.str "return", .str a] → a ∈ ans4 → StG blk n d 1 (if a = Str.ofString "p" then ["p"] else [])
  | retc {n : Nat} {d : PyData} {a : Str} : isTL d = true → elems d = [.str "return", .str a, .str "cut"] → a ∈ ans4 → blk = Str.ofString "turn" → StG blk n d 1 ["p"]
  | iff {n : Nat} {d t b1 b2 : PyData} {k1 k2 : Nat} {l1 l2 : List Str} : isTL d = true → elems d = [.str "if", t, b1, b2] → TsG 6 t → isTL b1 = true → elems b1 ≠ [] → isTL b2 = true → StL blk n (elems b1) k1 l1 → StL blk n (elems b2) k2 l2 → StG blk (n + 1) d (1 + k1 + k2) (nmT 6 t ++ l1 ++ l2)
inductive StL (blk : Str) : Nat → List PyData → Nat → List Str → Prop
  | nil {n : Nat} : StL blk n [] 0 []
  | cons {n : Nat} {d : PyData} {ds : List PyData} {k k' : Nat} {l l' : List Str} : StG blk n d k l → StL blk n ds k' l' → StL blk n (d :: ds) (k + k') (l ++ l')
end
variable {blk : Str}
theorem StG.tl {n : Nat} {d : PyData} {k : Nat} {l : List Str} (h : StG blk n d k l) : isTL d = true := by
  cases h <;> assumption
theorem StG.pos {n : Nat} {d : PyData} {k : Nat} {l : List Str} (h : StG blk n d k l) : 1 ≤ k := by
  cases h <;> omega
theorem StL.len {n : Nat} : ∀ {ds : List PyData} {k : Nat} {l : List Str}, StL blk n ds k l → ds.length ≤ k
  | [], _, _, .nil => Nat.le_refl _
  | d :: ds, _, _, .cons h1 h2 => by
    have a := h1.pos
    have b := h2.len
    rw [List.length_cons]
    omega
theorem StL.app {n : Nat} : ∀ {as bs : List PyData} {k k' : Nat} {l l' : List Str}, StL blk n as k l → StL blk n bs k' l' → StL blk n (as ++ bs) (k + k') (l ++ l')
  | [], bs, _, _, _, _, .nil, h => by
    rw [Nat.zero_add]
    exact h
  | a :: as, bs, _, _, _, _, .cons h1 h2, h => by
    rw [Nat.add_assoc, List.append_assoc]
    exact .cons h1 (h2.app h)
theorem StL.one {n : Nat} {d : PyData} {k : Nat} {l : List Str} (h : StG blk n d k l) : StL blk n [d] k l := by
  have z := StL.cons h (StL.nil (blk := blk) (n := n))
  rw [Nat.add_zero, List.append_nil] at z
  exact z
theorem StL.mem {n : Nat} {d : PyData} : ∀ {ds : List PyData} {k : Nat} {l : List Str}, StL blk n ds k l → d ∈ ds → ∃ k' l', StG blk n d k' l' ∧ k' ≤ k
  | [], _, _, .nil, h => by cases h
  | e :: ds, _, _, .cons (k := ke) (l := le) h1 h2, h => by
    rcases List.mem_cons.mp h with rfl | h
    · exact ⟨_, _, h1, Nat.le_add_right _ _⟩
    · obtain ⟨k', l', a, b⟩ := h2.mem h
      exact ⟨k', l', a, by omega⟩
mutual
theorem StG.mono : ∀ {n : Nat} {d : PyData} {k : Nat} {l : List Str}, StG blk n d k l → StG blk (n + 1) d k l
  | _, _, _, _, .one a b c => .one a b c
  | _, _, _, _, .set a b c => .set a b c
  | _, _, _, _, .ret a b c => .ret a b c
  | _, _, _, _, .retc a b c d => .retc a b c d
  | _, _, _, _, .iff a b c d e f g h => .iff a b c d e f (StL.mono g) (StL.mono h)
theorem StL.mono : ∀ {n : Nat} {ds : List PyData} {k : Nat} {l : List Str}, StL blk n ds k l → StL blk (n + 1) ds k l
  | _, _, _, _, .nil => .nil
  | _, _, _, _, .cons a b => .cons (StG.mono a) (StL.mono b)
end
theorem ite_len {c : Prop} [Decidable c] {a b : List Str} (ha : a.length ≤ 64) (hb : b.length ≤ 64) : (if c then a else b).length ≤ 64 := by
  split
  · exact ha
  · exact hb
mutual
theorem StG.nl : ∀ {n : Nat} {d : PyData} {k : Nat} {l : List Str}, StG blk n d k l → l.length ≤ 64 * k
  | _, _, _, _, .one a b c => ite_len (by simp) (by simp)
  | _, _, _, _, .set a b c => ite_len (by simp) (by simp)
  | _, _, _, _, .ret a b c => ite_len (by simp) (by simp)
  | _, _, _, _, .retc a b c d => by simp
  | _, _, _, _, .iff (t := t) a b c d e f g h => by
    have z1 := StL.nl g
    have z2 := StL.nl h
    have z3 := nmT_len 6 t
    rw [List.length_append, List.length_append]
    omega
theorem StL.nl : ∀ {n : Nat} {ds : List PyData} {k : Nat} {l : List Str}, StL blk n ds k l → l.length ≤ 64 * k
  | _, _, _, _, .nil => by simp
  | _, _, _, _, .cons a b => by
    have z1 := StG.nl a
    have z2 := StL.nl b
    rw [List.length_append]
    omega
end
theorem letK_of {x : Str} (h : blk ∈ letD x) : x ∈ letK := by
  by_cases z : x ∈ letK
  · exact z
  · rw [letD_no z] at h
    cases h
theorem letK_ok : ∀ x ∈ letK, PyData.strOk x = true := by decide +kernel
theorem fxy_ok : ∀ x ∈ (["f", "x", "y"] : List Str), PyData.strOk x = true := by decide +kernel
theorem ans4_ok : ∀ x ∈ ans4, PyData.strOk x = true := by decide +kernel
theorem stG_ok {n : Nat} {d : PyData} {k : Nat} {l : List Str} (h : StG blk n d k l) : okS blk d = true := by
  unfold okS
  cases h with
  | @one _ _ x ht he hx =>
    rw [ht, he]
    show (true && decide (blk ∈ letD x)) = true
    rw [decide_eq_true hx]
    rfl
  | @set _ _ x b ht he hx =>
    rw [ht, he]
    show (true && okS2 blk (.str "set") [.str "set", .str x, .bool b]) = true
    unfold okS2
    rw [if_pos (show nm (PyData.str "set") = some (Str.ofString "set") from rfl)]
    show (true && (inS ["f", "x", "y"] (.str x) && true)) = true
    rw [inS_str, decide_eq_true hx]
    rfl
  | @ret _ _ a ht he hx =>
    rw [ht, he]
    show (true && okS2 blk (.str "return") [.str "return", .str a]) = true
    unfold okS2
    rw [if_neg (show ¬ nm (PyData.str "return") = some (Str.ofString "set") from fun q => absurd (Option.some.inj q) (by decide)), if_pos (show nm (PyData.str "return") = some (Str.ofString "return") from rfl)]
    show (true && (inS ans4 (.str a) && true)) = true
    rw [inS_str, decide_eq_true hx]
    rfl
  | @retc _ _ a ht he hx hb =>
    rw [ht, he]
    show (true && okS2 blk (.str "return") [.str "return", .str a, .str "cut"]) = true
    unfold okS2
    rw [if_neg (show ¬ nm (PyData.str "return") = some (Str.ofString "set") from fun q => absurd (Option.some.inj q) (by decide)), if_pos (show nm (PyData.str "return") = some (Str.ofString "return") from rfl)]
    show (true && (inS ans4 (.str a) && (decide (nm (PyData.str "cut") = some (Str.ofString "cut")) && decide (blk = Str.ofString "turn")))) = true
    rw [inS_str, decide_eq_true hx, decide_eq_true hb]
    rfl
  | @iff _ _ t b1 b2 k1 k2 l1 l2 ht he tt h1 hn h2 s1 s2 =>
    rw [ht, he]
    show (true && okS2 blk (.str "if") [.str "if", t, b1, b2]) = true
    unfold okS2
    rw [if_neg (show ¬ nm (PyData.str "if") = some (Str.ofString "set") from fun q => absurd (Option.some.inj q) (by decide)), if_neg (show ¬ nm (PyData.str "if") = some (Str.ofString "return") from fun q => absurd (Option.some.inj q) (by decide))]
    show (true && (decide (nm (PyData.str "if") = some (Str.ofString "if")) && (okT 6 t && (isTL b1 && (!(elems b1).isEmpty && isTL b2))))) = true
    have ne : (elems b1).isEmpty = false := by
      cases e : elems b1 with
      | nil => exact absurd e hn
      | cons _ _ => rfl
    rw [tsG_ok tt, h1, h2, ne]
    rfl
theorem stG_hd {n : Nat} {d : PyData} {k : Nat} {l : List Str} (h : StG blk n d k l) : hdS d := by
  intro h0 r0 _ e0
  cases h with
  | @one _ _ x ht he hx =>
    rw [he] at e0
    injection e0 with e1 e2
    subst e1 e2
    exact ⟨.str x (letK_ok x (letK_of hx)), fun a r' z => nomatch z⟩
  | @set _ _ x b ht he hx =>
    rw [he] at e0
    injection e0 with e1 e2
    subst e1 e2
    refine ⟨.str _ (by decide +kernel), fun a r' z => ?_⟩
    injection z with z1 z2
    subst z1 z2
    exact ⟨fun _ => ⟨.str x (fxy_ok x hx), fun c ec _ => by
      injection ec with ec
      subst ec
      exact .bl b⟩, fun q => absurd (Option.some.inj q) (by decide)⟩
  | @ret _ _ a ht he hx =>
    rw [he] at e0
    injection e0 with e1 e2
    subst e1 e2
    refine ⟨.str _ (by decide +kernel), fun a' r' z => ?_⟩
    injection z with z1 z2
    subst z1 z2
    exact ⟨fun _ => ⟨.str a (ans4_ok a hx), fun c ec _ => nomatch ec⟩, fun q => absurd (Option.some.inj q) (by decide)⟩
  | @retc _ _ a ht he hx hb =>
    rw [he] at e0
    injection e0 with e1 e2
    subst e1 e2
    refine ⟨.str _ (by decide +kernel), fun a' r' z => ?_⟩
    injection z with z1 z2
    subst z1 z2
    exact ⟨fun _ => ⟨.str a (ans4_ok a hx), fun c ec _ => by
      injection ec with ec
      subst ec
      exact .str _ (by decide +kernel)⟩, fun q => absurd (Option.some.inj q) (by decide)⟩
  | @iff _ _ t b1 b2 k1 k2 l1 l2 ht he tt h1 hn h2 s1 s2 =>
    rw [he] at e0
    injection e0 with e1 e2
    subst e1 e2
    refine ⟨.str _ (by decide +kernel), fun a' r' z => ?_⟩
    injection z with z1 z2
    subst z1 z2
    exact ⟨fun q => by
      rcases q with q | q
      · exact absurd (Option.some.inj q) (by decide)
      · exact absurd (Option.some.inj q) (by decide), fun _ => tsG_hd tt⟩
theorem stG_inner {n : Nat} {d : PyData} {k : Nat} {l : List Str} (h : StG blk n d k l) : ∃ k' l', k = k' + 1 ∧ StL blk n (inner d) k' l' ∧ (elems d).length ≤ 5000 := by
  unfold inner
  cases h with
  | @one _ _ x ht he hx => exact ⟨0, [], rfl, by rw [he]; exact .nil, by rw [he]; simp⟩
  | @set _ _ x b ht he hx => exact ⟨0, [], rfl, by rw [he]; exact .nil, by rw [he]; simp⟩
  | @ret _ _ a ht he hx => exact ⟨0, [], rfl, by rw [he]; exact .nil, by rw [he]; simp⟩
  | @retc _ _ a ht he hx hb => exact ⟨0, [], rfl, by rw [he]; exact .nil, by rw [he]; simp⟩
  | @iff n _ t b1 b2 k1 k2 l1 l2 ht he tt h1 hn h2 s1 s2 =>
    refine ⟨k1 + k2, l1 ++ l2, by omega, ?_, by rw [he]; simp⟩
    rw [he]
    show StL blk (n + 1) (if nm (PyData.str "if") = some (Str.ofString "if") then elems b1 ++ elems b2 else []) (k1 + k2) (l1 ++ l2)
    rw [if_pos (show nm (PyData.str "if") = some (Str.ofString "if") from rfl)]
    exact (s1.mono).app (s2.mono)
theorem stL_scan {n : Nat} : ∀ (F : Nat) {ws : List PyData} {k : Nat} {l : List Str}, StL blk n ws k l → k ≤ F → ∀ m : Nat, scanF blk F ws m = some (.inr (m + k)) := by
  intro F
  induction F with
  | zero =>
    intro ws k l h hk m
    cases h with
    | nil => rfl
    | cons h1 h2 =>
      have := h1.pos
      omega
  | succ F ih =>
    intro ws k l h hk m
    cases h with
    | nil => rfl
    | @cons _ d ds kd kr ld lr h1 h2 =>
      obtain ⟨k', l', e, hi, _⟩ := stG_inner h1
      show (if okS blk d = true then scanF blk F (inner d ++ ds) (m + 1) else some (.inl m)) = _
      rw [if_pos (stG_ok h1), ih (hi.app h2) (by omega) (m + 1)]
      congr 2
      omega
theorem stL_scanH {n : Nat} : ∀ (F : Nat) {ws : List PyData} {k : Nat} {l : List Str}, StL blk n ws k l → k ≤ 5000 → scanH blk F ws := by
  intro F
  induction F with
  | zero => exact fun _ _ => trivial
  | succ F ih =>
    intro ws k l h hk
    refine ⟨Nat.le_trans h.len hk, fun d r e => ?_⟩
    subst e
    cases h with
    | @cons _ _ _ kd kr ld lr h1 h2 =>
      obtain ⟨k', l', e, hi, hz⟩ := stG_inner h1
      exact ⟨stG_hd h1, fun _ => ⟨hz, ih (hi.app h2) (by omega)⟩⟩
mutual
theorem stG_lev : ∀ {n : Nat} {d : PyData} {k : Nat} {l : List Str}, StG blk n d k l → lev d ≤ 7 + 2 * n
  | _, _, _, _, .one a b c => by
    rw [lev_tl a, b]
    simp [levAll, lev]
    omega
  | _, _, _, _, .set a b c => by
    rw [lev_tl a, b]
    simp [levAll, lev]
    omega
  | _, _, _, _, .ret a b c => by
    rw [lev_tl a, b]
    simp [levAll, lev]
    omega
  | _, _, _, _, .retc a b c d => by
    rw [lev_tl a, b]
    simp [levAll, lev]
    omega
  | _, _, _, _, .iff a b c d e f g h => by
    have z1 := stL_lev g
    have z2 := stL_lev h
    have z3 := tsG_lev c
    rw [lev_tl a, b]
    simp only [levAll, lev_tl d, lev_tl f]
    rw [show lev (.str "if") = 0 from by simp [lev]]
    omega
theorem stL_lev : ∀ {n : Nat} {ds : List PyData} {k : Nat} {l : List Str}, StL blk n ds k l → levAll ds ≤ 7 + 2 * n
  | _, _, _, _, .nil => by simp [levAll]
  | _, _, _, _, .cons a b => by
    have z1 := stG_lev a
    have z2 := stL_lev b
    simp only [levAll]
    omega
end
theorem hdW_mk {d : PyData} {m : Nat} (h : (elems d).length ≤ 1000) (k : ∀ j, j < m → ∀ e ∈ elems d, hdW j e) : hdW m d := by
  cases m with
  | zero => exact trivial
  | succ m => exact fun _ => ⟨h, k m (Nat.lt_succ_self m)⟩
mutual
theorem stG_w : ∀ {n : Nat} {d : PyData} {k : Nat} {l : List Str}, StG blk n d k l → k ≤ 1000 → ∀ m, hdW m d
  | _, _, _, _, .one a b c, _, m => hdW_mk (by rw [b]; simp) fun j _ e he => by
    rw [b] at he
    rw [List.mem_singleton.mp he]
    exact hdW_no rfl j
  | _, _, _, _, .set a b c, _, m => hdW_mk (by rw [b]; simp) fun j _ e he => by
    rw [b] at he
    simp only [List.mem_cons, List.mem_nil_iff, or_false] at he
    rcases he with rfl | rfl | rfl <;> exact hdW_no rfl j
  | _, _, _, _, .ret a b c, _, m => hdW_mk (by rw [b]; simp) fun j _ e he => by
    rw [b] at he
    simp only [List.mem_cons, List.mem_nil_iff, or_false] at he
    rcases he with rfl | rfl <;> exact hdW_no rfl j
  | _, _, _, _, .retc a b c d, _, m => hdW_mk (by rw [b]; simp) fun j _ e he => by
    rw [b] at he
    simp only [List.mem_cons, List.mem_nil_iff, or_false] at he
    rcases he with rfl | rfl | rfl <;> exact hdW_no rfl j
  | _, _, _, _, .iff a b c d e f g h, hk, m => by
    have w1 := stL_w g (by omega)
    have w2 := stL_w h (by omega)
    have y1 := g.len
    have y2 := h.len
    refine hdW_mk (by rw [b]; simp) fun j _ e he => ?_
    rw [b] at he
    simp only [List.mem_cons, List.mem_nil_iff, or_false] at he
    rcases he with z | z | z | z
    · rw [z]
      exact hdW_no rfl j
    · rw [z]
      exact tsG_w c j
    · rw [z]
      exact hdW_mk (by omega) fun i _ => w1 i
    · rw [z]
      exact hdW_mk (by omega) fun i _ => w2 i
theorem stL_w : ∀ {n : Nat} {ds : List PyData} {k : Nat} {l : List Str}, StL blk n ds k l → k ≤ 1000 → ∀ m, ∀ e ∈ ds, hdW m e
  | _, _, _, _, .nil, _, m => fun e he => by cases he
  | _, _, _, _, .cons a b, hk, m => fun e he => by
    have w1 := stG_w a (by omega) m
    have w2 := stL_w b (by omega) m
    rcases List.mem_cons.mp he with z | z
    · rw [z]
      exact w1
    · exact w2 e z
end
mutual
theorem stG_lay : ∀ {n : Nat} {d : PyData} {k : Nat} {l : List Str}, StG blk n d k l → Lay (7 + 2 * n) (fz d)
  | _, _, _, _, .one a b c => by
    rw [fz_tl a, b]
    refine Lay.mono (lay_tup (n := 0) fun e h => ?_) (by omega)
    simp only [List.map_cons, List.map_nil, List.mem_cons, List.mem_nil_iff, or_false, fz] at h
    rw [h]
    exact lay_str (letK_ok _ (letK_of c))
  | _, _, _, _, .set a b c => by
    rw [fz_tl a, b]
    refine Lay.mono (lay_tup (n := 0) fun e h => ?_) (by omega)
    simp only [List.map_cons, List.map_nil, List.mem_cons, List.mem_nil_iff, or_false, fz] at h
    rcases h with rfl | rfl | rfl
    · exact lay_str (by decide +kernel)
    · exact lay_str (fxy_ok _ c)
    · exact lay_bl _
  | _, _, _, _, .ret a b c => by
    rw [fz_tl a, b]
    refine Lay.mono (lay_tup (n := 0) fun e h => ?_) (by omega)
    simp only [List.map_cons, List.map_nil, List.mem_cons, List.mem_nil_iff, or_false, fz] at h
    rcases h with rfl | rfl
    · exact lay_str (by decide +kernel)
    · exact lay_str (ans4_ok _ c)
  | _, _, _, _, .retc a b c d => by
    rw [fz_tl a, b]
    refine Lay.mono (lay_tup (n := 0) fun e h => ?_) (by omega)
    simp only [List.map_cons, List.map_nil, List.mem_cons, List.mem_nil_iff, or_false, fz] at h
    rcases h with rfl | rfl | rfl
    · exact lay_str (by decide +kernel)
    · exact lay_str (ans4_ok _ c)
    · exact lay_str (by decide +kernel)
  | _, _, _, _, .iff (n := n) a b c d e f g h => by
    have w1 := stL_lay g
    have w2 := stL_lay h
    have w3 := tsG_lay c
    rw [fz_tl a, b]
    refine Lay.mono (lay_tup (n := 8 + 2 * n) fun e h => ?_) (by omega)
    simp only [List.map_cons, List.map_nil, List.mem_cons, List.mem_nil_iff, or_false] at h
    rcases h with rfl | rfl | rfl | rfl
    · rw [show fz (.str "if") = .str "if" from by simp [fz]]
      exact (lay_str (by decide +kernel)).mono (by omega)
    · exact w3.mono (by omega)
    · rw [fz_tl d]
      exact (lay_tup w1).mono (by omega)
    · rw [fz_tl f]
      exact (lay_tup w2).mono (by omega)
theorem stL_lay : ∀ {n : Nat} {ds : List PyData} {k : Nat} {l : List Str}, StL blk n ds k l → ∀ e ∈ ds.map fz, Lay (7 + 2 * n) e
  | _, _, _, _, .nil => fun e he => by cases he
  | _, _, _, _, .cons a b => fun e he => by
    rw [List.map_cons] at he
    rcases List.mem_cons.mp he with rfl | he
    · exact stG_lay a
    · exact stL_lay b e he
end
theorem nmT_lz : ∀ {n : Nat} {t : PyData}, TsG n t → fz t = t → ∀ m, nmT m (lz t) = nmT m t := by
  intro n t h
  induction h with
  | @w n d x ht he hx =>
    intro f m
    cases m with
    | zero => rfl
    | succ m =>
      obtain ⟨a, b⟩ := lz_tl f ht
      rw [he] at b
      simp only [List.map_cons, List.map_nil, lz] at b
      unfold nmT
      rw [he, b]
  | @oth n d i ht he h0 h1 =>
    intro f m
    cases m with
    | zero => rfl
    | succ m =>
      obtain ⟨a, b⟩ := lz_tl f ht
      rw [he] at b
      simp only [List.map_cons, List.map_nil, lz] at b
      unfold nmT
      rw [he, b]
  | @neg n d e0 ht he _ ih =>
    intro f m
    cases m with
    | zero => rfl
    | succ m =>
      obtain ⟨a, b⟩ := lz_tl f ht
      obtain ⟨_, c⟩ := fz_fix f ht
      rw [he] at b c
      simp only [List.map_cons, List.map_nil, lz] at b
      unfold nmT
      rw [he, b]
      show nmT2 (nmT m) (.str "not") [lz e0] = nmT2 (nmT m) (.str "not") [e0]
      unfold nmT2
      rw [if_pos (show nm (PyData.str "not") = some (Str.ofString "not") from rfl)]
      exact ih (c _ (by simp)) m
  | @bin n d a0 b0 x ht he hx _ _ ia ib =>
    intro f m
    cases m with
    | zero => rfl
    | succ m =>
      obtain ⟨a, b⟩ := lz_tl f ht
      obtain ⟨_, c⟩ := fz_fix f ht
      rw [he] at b c
      simp only [List.map_cons, List.map_nil, lz] at b
      obtain ⟨_, n1, n2⟩ := andor_ok x hx
      unfold nmT
      rw [he, b]
      have e : ∀ u1 u2 : PyData, nmT2 (nmT m) (.str x) [u1, u2] = nmT m u1 ++ nmT m u2 := fun u1 u2 => by
        unfold nmT2
        rw [if_neg (show ¬ nm (PyData.str x) = some (Str.ofString "not") from fun q => n2 (Option.some.inj q)), if_pos (show inS ["and", "or"] (.str x) = true by rw [inS_str, decide_eq_true hx])]
      show nmT2 (nmT m) (.str x) [lz a0, lz b0] = nmT2 (nmT m) (.str x) [a0, b0]
      rw [e, e]
      rw [ia (c _ (by simp)) m, ib (c _ (by simp)) m]
mutual
theorem stG_lz : ∀ {n : Nat} {d : PyData} {k : Nat} {l : List Str}, StG blk n d k l → fz d = d → StG blk n (lz d) k l
  | _, _, _, _, .one ht he c, f => by
    obtain ⟨a, b⟩ := lz_tl f ht
    rw [he] at b
    simp only [List.map_cons, List.map_nil, lz] at b
    exact .one a b c
  | _, _, _, _, .set ht he c, f => by
    obtain ⟨a, b⟩ := lz_tl f ht
    rw [he] at b
    simp only [List.map_cons, List.map_nil, lz] at b
    exact .set a b c
  | _, _, _, _, .ret ht he c, f => by
    obtain ⟨a, b⟩ := lz_tl f ht
    rw [he] at b
    simp only [List.map_cons, List.map_nil, lz] at b
    exact .ret a b c
  | _, _, _, _, .retc ht he c d, f => by
    obtain ⟨a, b⟩ := lz_tl f ht
    rw [he] at b
    simp only [List.map_cons, List.map_nil, lz] at b
    exact .retc a b c d
  | _, _, _, _, .iff ht he c d e g h i, f => by
    obtain ⟨a, b⟩ := lz_tl f ht
    obtain ⟨_, m⟩ := fz_fix f ht
    rw [he] at b m
    simp only [List.map_cons, List.map_nil] at b
    rw [show lz (.str "if") = .str "if" from by simp [lz]] at b
    have m1 := m _ (List.mem_cons_of_mem _ (List.mem_cons_self))
    have m2 := m _ (List.mem_cons_of_mem _ (List.mem_cons_of_mem _ (List.mem_cons_self)))
    have m3 := m _ (List.mem_cons_of_mem _ (List.mem_cons_of_mem _ (List.mem_cons_of_mem _ (List.mem_cons_self))))
    obtain ⟨p1, q1⟩ := lz_tl m2 d
    obtain ⟨p2, q2⟩ := lz_tl m3 g
    have z1 := stL_lz h (fz_fix m2 d).2
    have z2 := stL_lz i (fz_fix m3 g).2
    rw [← q1] at z1
    rw [← q2] at z2
    rw [← nmT_lz c m1 6]
    exact .iff a b (tsG_lz c m1) p1 (by rw [q1]; exact fun z => e (List.map_eq_nil_iff.mp z)) p2 z1 z2
theorem stL_lz : ∀ {n : Nat} {ds : List PyData} {k : Nat} {l : List Str}, StL blk n ds k l → (∀ e ∈ ds, fz e = e) → StL blk n (ds.map lz) k l
  | _, _, _, _, .nil, f => .nil
  | _, _, _, _, .cons a b, f => .cons (stG_lz a (f _ (List.mem_cons_self))) (stL_lz b fun e he => f e (List.mem_cons_of_mem _ he))
end
theorem smR_g {d : PyData} (h : SmR blk d) : ∃ l, StG blk 0 d 1 l := by
  cases h with
  | one hx => exact ⟨_, .one rfl rfl hx⟩
  | set hx => exact ⟨_, .set rfl rfl hx⟩
  | ret hx => exact ⟨_, .ret rfl rfl hx⟩
  | retc hx hb => exact ⟨_, .retc rfl rfl hx hb⟩
/-! ### right blocks -/
structure BkR (blk : Str) (d : PyData) (k : Nat) (l : List Str) : Prop where
  tl : isTL d = true
  st : StL blk 2 (elems d) k l
  fx : fz d = d
theorem bk_q {K : PySem.W.Frag} {H : Hp} {v : V} {d : PyData} {k : Nat} {l : List Str} (hd : De K H v d) (ht : isTL d = true) (hs : StL blk 2 (elems d) k l) (hk : k ≤ 1000) : BlkQ K H blk v d k := by
  refine ⟨hd, ht, ?_, hdW_mk (Nat.le_trans hs.len hk) fun j _ => stL_w hs hk j, k, ?_, stL_scanH _ hs (by omega)⟩
  · have := stL_lev hs
    rw [lev_tl ht]
    omega
  · have z := stL_scan k hs (Nat.le_refl _) 0
    rw [Nat.zero_add] at z
    exact z
theorem BkR.q {K : PySem.W.Frag} {H : Hp} {v : V} {d : PyData} {k : Nat} {l : List Str} (B : BkR blk d k l) (hd : De K H v d) (hk : k ≤ 1000) : BlkQ K H blk v d k := bk_q hd B.tl B.st hk
theorem BkR.ql {K : PySem.W.Frag} {H : Hp} {v : V} {d : PyData} {k : Nat} {l : List Str} (B : BkR blk d k l) (hd : De K H v (lz d)) (hk : k ≤ 1000) : BlkQ K H blk v (lz d) k := by
  obtain ⟨a, b⟩ := lz_tl B.fx B.tl
  refine bk_q hd a ?_ hk (l := l)
  rw [b]
  exact stL_lz B.st (fz_fix B.fx B.tl).2
theorem BkR.eqb {d : PyData} {k : Nat} {l : List Str} (B : BkR blk d k l) : Eqb d := by
  have z := lay_tup (stL_lay B.st)
  rw [← fz_tl B.tl, B.fx] at z
  exact z.eqb (by omega)
end SK
namespace SK
open PySem PySem.Spec PyProof.Rows L2 LamX NdefX
open K0 (De DeAll XCl spX withX)
theorem letK_ne : ∀ x ∈ letK, x ≠ Str.ofString "if" ∧ x ≠ Str.ofString "set" ∧ x ≠ Str.ofString "return" := by decide +kernel
theorem fz_tup {K : PySem.W.Frag} {H : Hp} {v : V} {d : PyData} (h : De K H v d) (f : fz d = d) (t : isTL d = true) : ∃ (p : Addr) (xs : List V), v = .ref p ∧ H p = some (.tup xs) ∧ DeAll K H xs (elems d) := by
  obtain ⟨e, _⟩ := fz_fix f t
  rw [e] at h
  cases h with
  | tup ha hd => exact ⟨_, _, rfl, ha, hd⟩
/-! ### tuples put together and cut -/
theorem cat_any {K : PySem.W.Frag} {H : Hp} {a b : Addr} {xs ys : List V} {Q : VK} (h1 : H a = some (.tup xs)) (h2 : H b = some (.tup ys)) (hz : xs.length + ys.length ≤ sizeLine) (k : ∀ (H' : Hp) (r : Addr), Same H H' → H' r = some (.tup (xs ++ ys)) → Q (.ref r) H') : rCatA K (.ref a) (.ref b) H Q := by
  refine ⟨a, b, xs, ys, rfl, rfl, .inl (.inl h1), .inl (.inl h2), hz, fun e => ?_, fun _ e => ?_, fun _ _ p np => k _ p (upd_new np) upd_same⟩
  · subst e
    exact k H b (Same.refl _) h2
  · subst e
    exact k H a (Same.refl _) (by rw [List.append_nil]; exact h1)
theorem sl_any {K : PySem.W.Frag} {H : Hp} {a : Addr} {xs : List V} {lo hi : Option Int} {Q : VK} (h1 : H a = some (.tup xs)) (k : ∀ (H' : Hp) (r : Addr), Same H H' → H' r = some (.tup (cutV xs lo hi)) → Q (.ref r) H') : rSlA K (.ref a) lo hi H Q := by
  refine ⟨a, xs, rfl, .inl (.inl h1), fun e => ?_, fun _ p np => k _ p (upd_new np) upd_same⟩
  have z : cutV xs lo hi = xs := by
    unfold cutV
    rw [e.1, e.2]
    simp
  exact k H a (Same.refl _) (by rw [z]; exact h1)
theorem cut_to (xs : List V) {k : Nat} (h : k ≤ xs.length) : cutV xs none (some (k : Int)) = xs.take k := by
  unfold cutV
  rw [HT.sIx_none, HT.sIx_nat, Nat.min_eq_left h]
  simp
theorem cut_from (xs : List V) {k : Nat} (h : k ≤ xs.length) : cutV xs (some (k : Int)) none = xs.drop k := by
  unfold cutV
  rw [HT.sIx_none, HT.sIx_nat, Nat.min_eq_left h]
  exact List.take_of_length_le (by rw [List.length_drop]; exact Nat.le_refl _)
end SK
namespace SK
open PySem PySem.Spec PyProof.Rows L2 LamX NdefX
open K0 (De DeAll XCl spX withX)
/-! ### the law's blocks -/
theorem de_keep {K : PySem.W.Frag} {G G' : Hp} {v : V} {d : PyData} (f : fz d = d) (m : KeepN G G') (h : De K G v d) : De K G' v d := by
  have z := de_fz m d v (by rw [f]; exact h)
  rwa [f] at z
theorem deAll_keep {K : PySem.W.Frag} {G G' : Hp} {vs : List V} {ds : List PyData} (f : ∀ e ∈ ds, fz e = e) (m : KeepN G G') (h : DeAll K G vs ds) : DeAll K G' vs ds := by
  have e : fzAll ds = ds := by rw [fzAll_map]; exact (List.map_congr_left f).trans (List.map_id ds)
  have z := de_fzAll m ds vs (by rw [e]; exact h)
  rwa [e] at z
theorem keepN_app {G : Hp} {o : Addr} {acc ys : List V} (h : G o = some (.lst acc)) : KeepN G (upd G o (.lst ys)) := fun b u nl hb => by
  rw [upd_ne (fun z => by rw [z, h] at hb; exact nl acc (Option.some.inj hb).symm)]
  exact hb
theorem StG.le {blk : Str} {n m : Nat} {d : PyData} {k : Nat} {l : List Str} (h : StG blk n d k l) (q : n ≤ m) : StG blk m d k l := by
  induction q with
  | refl => exact h
  | step _ ih => exact ih.mono
/-- a list of statements that is being built -/
structure Bld (K : PySem.W.Frag) (H : Hp) (p l : Addr) (ns : List Int) (o : Addr) (blk : Str) (m : Nat) (G : Hp) (k lf : Int) (acc : List V) (ds : List PyData) (kk : Nat) (ll : List Str) : Prop where
  sb : SameBut p H G
  pn : PenAt G p l ns k lf
  ls : G o = some (.lst acc)
  de : DeAll K G acc ds
  st : StL blk m ds kk ll
  fx : ∀ e ∈ ds, fz e = e
section
variable {K : PySem.W.Frag} {H G G' : Hp} {p l o : Addr} {ns : List Int} {blk : Str} {m : Nat} {k lf k' lf' k0 lf0 : Int} {acc : List V} {ds : List PyData} {kk : Nat} {ll : List Str}
theorem Bld.but (B : Bld K H p l ns o blk m G k lf acc ds kk ll) (s : SameBut p G G') (P : PenAt G' p l ns k' lf') : Bld K H p l ns o blk m G' k' lf' acc ds kk ll :=
  ⟨B.sb.trans s, P, s _ _ (ne_of B.ls B.pn.dc (by intro z; cases z)) B.ls, de_butAll B.pn.dc s B.de, B.st, B.fx⟩
theorem Bld.same (B : Bld K H p l ns o blk m G k lf acc ds kk ll) (s : Same G G') : Bld K H p l ns o blk m G' k lf acc ds kk ll := B.but (.of s) ⟨s _ _ B.pn.dc, s _ _ B.pn.ls⟩
theorem Bld.push (B : Bld K H p l ns o blk m G k lf acc ds kk ll) (P0 : PenAt H p l ns k0 lf0) (no : H o = none) {v : V} {d : PyData} {k1 : Nat} {l1 : List Str} (hv : De K G v d) (hs : StG blk m d k1 l1) (hf : fz d = d) :
    Bld K H p l ns o blk m (upd G o (.lst (acc ++ [v]))) k lf (acc ++ [v]) (ds ++ [d]) (kk + k1) (ll ++ l1) := by
  have fx : ∀ e ∈ ds ++ [d], fz e = e := fun e he => by
    rcases List.mem_append.mp he with he | he
    · exact B.fx e he
    · rw [List.mem_singleton.mp he]
      exact hf
  refine ⟨fun b u hb e => ?_, ⟨?_, ?_⟩, upd_same, deAll_keep fx (keepN_app B.ls) (deAll_app B.de (.cons hv .nil)), B.st.app (.one hs), fx⟩
  · rw [upd_ne (ne_of_none e no)]
    exact B.sb b u hb e
  · rw [upd_ne (ne_of_none P0.dc no)]
    exact B.pn.dc
  · rw [upd_ne (ne_of_none P0.ls no)]
    exact B.pn.ls
end
def c1 : Nat → Nat
  | 0 => 1
  | m + 1 => 2 + 2 * c1 m
def eD : Nat → Nat
  | 0 => 6
  | m + 1 => 22 + 2 * eD m
theorem c1_pos (m : Nat) : 1 ≤ c1 m := by
  cases m with
  | zero => exact Nat.le_refl _
  | succ m =>
    show 1 ≤ 2 + 2 * c1 m
    omega
theorem c1_le : ∀ {j : Nat}, j ≤ 2 → c1 j ≤ 10
  | 0, _ => by decide
  | 1, _ => by decide
  | 2, _ => by decide
  | j + 3, h => by omega
theorem eD_pos (m : Nat) : 6 ≤ eD m := by
  cases m with
  | zero => exact Nat.le_refl _
  | succ m =>
    show 6 ≤ 22 + 2 * eD m
    omega
def spLb (K : PySem.W.Frag) (n : Nat) : Sp := fun vs H Q _ => ∃ (p l : Addr) (ns : List Int) (k lf : Int) (blk : Str) (most m : Nat), vs = [.ref p, .str blk, .int (most : Nat), .int (m : Nat)] ∧ m < n ∧ m ≤ 2 ∧ most ≤ 3 ∧ blk ∈ blk3 ∧ PenAt H p l ns k lf ∧ ns.length ≤ 63 ∧ 0 ≤ k ∧ k + ((1 + most * eD m : Nat) : Int) + 20 ≤ 100000 ∧ 0 ≤ lf ∧
  ∀ (H' : Hp) (k' lf' : Int) (v : V) (d : PyData) (kk : Nat) (ll : List Str), k' ≤ k + ((1 + most * eD m : Nat) : Int) → 0 ≤ k' → 0 ≤ lf' → SameBut p H H' → PenAt H' p l ns k' lf' → De K H' v d → isTL d = true → fz d = d → StL blk m (elems d) kk ll → kk ≤ most * c1 m → Q v H'
section
variable {P : Program} {w : World} {K : PySem.W.Frag} {mg : Str → Option Value} {base : Heap} {f fD fLt fSi : Addr} {fd fdD fdLt fdSi : FuncData}
abbrev NLb : List Str := ["pen", "name", "most", "depth", "found", "k", "test", "inner"]
theorem ok_lb (F : Fun K "_law_block" "_law_block" (top 56) f fd) (gRg : mg "range" = none) (gTu : mg "tuple" = none)
    (gD : mg "_law_draw" = some (.ref fD)) (kD : PySem.W.keepIn K (.ref fD) = true) (GD : FnOk P w K mg base CX0 1 fD fdD ["pen", "many"] spDraw) (bD : Binds K fdD ["pen", "many"] [])
    (gLt : mg "_law_test" = some (.ref fLt)) (kLt : PySem.W.keepIn K (.ref fLt) = true) (GLt : FnOk P w K mg base CX0 7 fLt fdLt ["pen", "depth"] (spLt K 4)) (bLt : Binds K fdLt ["pen", "depth"] [])
    (gSi : mg "_law_simple" = some (.ref fSi)) (kSi : PySem.W.keepIn K (.ref fSi) = true) (GSi : FnOk P w K mg base CX0 3 fSi fdSi ["pen", "name"] (spSi K)) (bSi : Binds K fdSi ["pen", "name"] [])
    (gS : mg "_law_block" = some (.ref f)) (bS : Binds K fd ["pen", "name", "most", "depth"] []) : ∀ n : Nat, FnOk P w K mg base CX0 (n + 7) f fd ["pen", "name", "most", "depth"] (spLb K n) := by
  have S0 : FnScope NLb ["pen", "name", "most", "depth"] (defScope (top 56)) := ⟨rfl, rfl, rfl, by decide +kernel, rfl, by decide +kernel, by decide +kernel⟩
  have nd := S0.nd
  have kS := F.kp
  intro n
  induction n with
  | zero =>
    refine F.ok S0 (fun vs H Q E h => ?_) (fun cdv A outer s H vs Q E hr h => ?_)
    · obtain ⟨p, l, ns, k, lf, blk, most, m, rfl, _⟩ := h
      rfl
    · obtain ⟨p, l, ns, k, lf, blk, most, m, rfl, hm, _⟩ := h
      omega
  | succ n GS =>
  refine F.ok S0 (fun vs H Q E h => ?_) (fun cdv A outer s H vs Q E hr h => ?_)
  · obtain ⟨p, l, ns, k, lf, blk, most, m, rfl, _⟩ := h
    rfl
  · obtain ⟨p, l, ns, k, lf, blk, most, m, rfl, hm, hm2, hmo, hb, P0, hn, i0, i1, i2, kk⟩ := h
    have hr1 : Room 1 _ := hr.mono (by omega)
    have hr3 : Room 3 _ := hr.mono (by omega)
    have hr7 : Room 7 _ := hr.mono (by omega)
    refine ⟨_, (pss_cons (ps_set (i := 4) nd rfl (Or.inl rfl) (pe_lst pa_nil))
        (pss_cons (ps_for PassesOwn.never rfl (pi_range1 (by rfl) gRg (pa_cons (pe_call GD hr1 (by rfl) gD kD bD .nil pass0 (pa_cons (pv 0) (pa_cons (pe_op op_add (pv 2) pe_int) pa_nil))) pa_nil)) (pg_name (i := 5) nd rfl (Or.inl rfl)) (pss_one (ps_if (PW.pt (pw_and (pt_cmpR op_gt (pv 3) pe_int (nomark _)) (pw_and1 (pt_cmpR op_eq (pe_call GD hr1 (by rfl) gD kD bD .nil pass0 (pa_cons (pv 0) (pa_cons pe_int pa_nil))) pe_int (nomark _))))) (pss_cons (ps_par (i := 6) (j := 7) rfl nd rfl rfl (by decide) rfl rfl (pa_cons (pe_call GLt hr7 (by rfl) gLt kLt bLt .nil pass0 (pa_cons (pv 0) (pa_cons pe_int pa_nil))) (pa_cons (pe_op op_catA (pe_tup (pa_cons (pe_call GSi hr3 (by rfl) gSi kSi bSi .nil pass0 (pa_cons (pv 0) (pa_cons (pv 1) pa_nil))) pa_nil)) (pe_call GS hr (by rfl) gS kS bS .nil pass0 (pa_cons (pv 0) (pa_cons (pv 1) (pa_cons pe_int (pa_cons (pe_op op_sub (pv 3) pe_int) pa_nil)))))) pa_nil)) rfl)
        (pss_one (ps_expr (pe_bm PySem.F.plainAttrs_list PySem.F.slot_list_append PySem.F.type_list_append mt_append (pv 4) (pa_cons (pe_tup (pa_cons pe_str (pa_cons (pv 6) (pa_cons (pv 7) (pa_cons (pe_call GS hr (by rfl) gS kS bS .nil pass0 (pa_cons (pv 0) (pa_cons (pv 1) (pa_cons pe_int (pa_cons (pe_op op_sub (pv 3) pe_int) pa_nil))))) pa_nil))))) pa_nil))))) (pss_one (ps_expr (pe_bm PySem.F.plainAttrs_list PySem.F.slot_list_append PySem.F.type_list_append mt_append (pv 4) (pa_cons (pe_call GSi hr3 (by rfl) gSi kSi bSi .nil pass0 (pa_cons (pv 0) (pa_cons (pv 1) pa_nil))) pa_nil)))))))
        (pss_one (ps_ret (pe_callTy call_tuple_of (by rfl) gTu PyProof.Rows.boot_tuple (pa_cons (pv 4) pa_nil)))))), ?_⟩
    have b5 : (5000 : Nat) < sizeLine := by decide
    have e6 := eD_pos m
    have c6 := c1_pos m
    have keepP : ∀ {G G' : Hp} {k' lf' : Int}, PenAt G p l ns k' lf' → Same G G' → PenAt G' p l ns k' lf' := fun {G G' k' lf'} h s => ⟨s _ _ h.dc, s _ _ h.ls⟩
    refine ⟨Nat.zero_le _, fun o no => ?_⟩
    have B0 : Bld K H p l ns o blk m (upd H o (.lst [])) k lf [] [] 0 [] := ⟨.of (upd_new no), keepP P0 (upd_new no), upd_same, .nil, .nil, by simp⟩
    generalize upd H o (.lst []) = G0 at B0
    refine ⟨V.ref p, rfl, V.int (most : Nat), rfl, (most : Int), 1, rfl, rfl, p, l, ns, k, lf, _, rfl, B0.pn, hn, i0, by omega, i2, by omega, by omega, fun G1 k1 lf1 d g1 g2 g3 g4 g5 s1 P1 => ⟨d, rfl, by omega, by omega, ?_⟩⟩
    refine for_it walk_range (fun i σ G => ∃ (x5 x6 x7 : Option V) (k' lf' : Int) (acc : List V) (ds : List PyData) (kn : Nat) (ll : List Str), σ = [some (.ref p), some (.str blk), some (.int (most : Nat)), some (.int (m : Nat)), some (.ref o), x5, x6, x7] ∧ Bld K H p l ns o blk m G k' lf' acc ds kn ll ∧ acc.length = i ∧ 0 ≤ k' ∧ k' ≤ k + 1 + ((i * eD m : Nat) : Int) ∧ 0 ≤ lf' ∧ kn ≤ i * c1 m)
      ⟨none, none, none, k1, lf1, [], [], 0, [], rfl, B0.but s1 P1, rfl, g2, by omega, g3, Nat.zero_le _⟩ (fun _ _ _ _ _ => trivial) ?_ ?_
    · rintro i x σ G Gx hi ⟨x5, x6, x7, k2, lf2, acc, ds, kn, ll, rfl, B, hal, j1, j2, j3, hkn⟩ ⟨rfl, rfl⟩
      have hi : i < d.toNat := by
        have z : (d - 0).toNat = d.toNat := by rw [Int.sub_zero]
        first
          | exact hi
          | omega
      have hi3 : i + 1 ≤ most := by omega
      have me : (i + 1) * eD m = i * eD m + eD m := Nat.succ_mul _ _
      have mc : (i + 1) * c1 m = i * c1 m + c1 m := Nat.succ_mul _ _
      have le := Nat.mul_le_mul_right (eD m) hi3
      rw [me] at le
      suffices els : ∀ (Ge : Hp) (ke lfe : Int), Bld K H p l ns o blk m Ge ke lfe acc ds kn ll → 0 ≤ ke → ke ≤ k2 + 1 → 0 ≤ lfe → _ by
        by_cases hm0 : 0 < m
        · obtain ⟨m', em⟩ : ∃ j, m = j + 1 := ⟨m - 1, by omega⟩
          have ee : eD m = 22 + 2 * eD m' := by rw [em]; rfl
          have ec : c1 m = 2 + 2 * c1 m' := by rw [em]; rfl
          have subE : (m : Int) - 1 = (m' : Int) := by omega
          have c10 : c1 m' ≤ 10 := c1_le (by omega)
          refine ⟨V.int (m : Nat), rfl, _, 0, rfl, rfl, _, rfl, ite2 (fun c => ?_) (fun c => absurd (show (0 : Int) < (m : Int) by omega) (fun z => c (decide_eq_true z)))⟩
          refine ⟨V.ref p, rfl, p, l, ns, k2, lf2, 2, rfl, B.pn, hn, j1, by omega, j3, by decide, by decide, fun G3 k3 lf3 d3 h1 h2 h3 h4 h5 s3 P3 => ?_⟩
          have B3 := B.but s3 P3
          refine ⟨rfl, _, rfl, ite2 (fun c0 => ?_) (fun c0 => els G3 k3 lf3 B3 h2 (by omega) h3)⟩
          have slf : ∀ {G : Hp} {ka la : Int} (R : VK), PenAt G p l ns ka la → 0 ≤ ka → ka + ((1 + 1 * eD m' : Nat) : Int) + 20 ≤ 100000 → 0 ≤ la → (∀ (H' : Hp) (k' lf' : Int) (v : V) (d : PyData) (kk : Nat) (ll : List Str), k' ≤ ka + ((1 + 1 * eD m' : Nat) : Int) → 0 ≤ k' → 0 ≤ lf' → SameBut p G H' → PenAt H' p l ns k' lf' → De K H' v d → isTL d = true → fz d = d → StL blk m' (elems d) kk ll → kk ≤ 1 * c1 m' → R v H') → spLb K n [.ref p, .str blk, .int 1, .int ((m : Int) - 1)] G R (fun _ _ _ => False) :=
            fun {G ka la} R h2 h3 h4 h5 h6 => ⟨p, l, ns, ka, la, blk, 1, m', by rw [subE]; rfl, by omega, by omega, by decide, hb, h2, hn, h3, h4, h5, h6⟩
          refine ⟨V.ref p, rfl, p, l, ns, k3, lf3, 3, rfl, by decide, by decide, P3, hn, h2, (by show k3 + ((14 : Nat) : Int) ≤ 100000; omega), h3, fun G4 k4 lf4 vt dt q1 q2 q3 s4 P4 hvt htt => ?_⟩
          have q1 : k4 ≤ k3 + ((14 : Nat) : Int) := q1
          have B4 := B3.but s4 P4
          refine ⟨V.ref p, rfl, V.str blk, rfl, p, l, ns, k4, lf4, blk, rfl, hb, P4, hn, q2, by omega, q3, fun G5 k5 lf5 v5 d5 r1 r2 r3 s5 P5 hv5 hs5 => ⟨(by show 1 ≤ sizeLine; decide), fun t6 nt6 => ?_⟩⟩
          have s6 := upd_new (o := .tup [v5]) nt6
          have ht6 : upd G5 t6 (.tup [v5]) t6 = some (.tup [v5]) := upd_same
          have B6 := (B4.but s5 P5).same s6
          have hvt6 := de_mono s6 _ _ (de_but P4.dc s5 hvt)
          have hv6 := de_mono s6 _ _ hv5
          generalize upd G5 t6 (.tup [v5]) = G6 at s6 ht6 B6 hvt6 hv6
          refine ⟨V.ref p, rfl, V.str blk, rfl, V.int (m : Nat), rfl, _, 1, rfl, rfl, slf _ B6.pn r2 (by omega) r3 fun G7 k7 lf7 v7 d7 kn7 ll7 t1 t2 t3 s7 P7 hv7 htl7 hf7 hs7 hk7 => ?_⟩
          obtain ⟨a7, xs7, rfl, ha7, hx7⟩ := fz_tup hv7 hf7 htl7
          have B7 := B6.but s7 P7
          have ht7 := s7 _ _ (ne_of ht6 B6.pn.dc (by intro z; cases z)) ht6
          have hvt7 := de_but B6.pn.dc s7 hvt6
          have hv57 := de_but B6.pn.dc s7 hv6
          have hx7l := deAll_len hx7
          have hs7l := hs7.len
          have f7 := (fz_fix hf7 htl7).2
          refine cat_any ht7 ha7 (by rw [List.length_singleton]; omega) fun G8 r8 s8 hr8 => ⟨vt, .ref r8, rfl, ?_⟩
          have B8 := B7.same s8
          have hvt8 := de_mono s8 _ _ hvt7
          have hin8 : De K G8 (.ref r8) (.tuple (d5 :: elems d7)) := .tup hr8 (.cons (de_mono s8 _ _ hv57) (de_monoAll s8 _ _ hx7))
          refine ⟨V.ref o, rfl, .inl ⟨rfl, _, .inl (.inl B8.ls)⟩, vt, rfl, V.ref r8, rfl, V.ref p, rfl, V.str blk, rfl, V.int (m : Nat), rfl, _, 1, rfl, rfl, slf _ B8.pn t2 (by omega) t3 fun G9 k9 lf9 v9 d9 kn9 ll9 w1 w2 w3 s9 P9 hv9 htl9 hf9 hs9 hk9 => ⟨(by show 4 ≤ sizeLine; decide), fun t10 nt10 => ?_⟩⟩
          have s10 := upd_new (o := .tup [.str "if", vt, .ref r8, v9]) nt10
          have ht10 : upd G9 t10 (.tup [.str "if", vt, .ref r8, v9]) t10 = some (.tup [.str "if", vt, .ref r8, v9]) := upd_same
          have B10 := (B8.but s9 P9).same s10
          have hv10 : De K (upd G9 t10 (.tup [.str "if", vt, .ref r8, v9])) (.ref t10) (.tuple [.str "if", dt, .tuple (d5 :: elems d7), d9]) := .tup ht10 (.cons (.str _) (.cons (de_mono s10 _ _ (de_but B8.pn.dc s9 hvt8)) (.cons (de_mono s10 _ _ (de_but B8.pn.dc s9 hin8)) (.cons (de_mono s10 _ _ hv9) .nil))))
          generalize upd G9 t10 (.tup [.str "if", vt, .ref r8, v9]) = G10 at B10 hv10
          obtain ⟨l5, g5⟩ := smR_g hs5
          obtain ⟨gt, ft⟩ := tsR_g htt
          have st10 : StG blk (m' + 1) (.tuple [.str "if", dt, .tuple (d5 :: elems d7), d9]) (1 + (1 + kn7) + kn9) (nmT 6 dt ++ (l5 ++ ll7) ++ ll9) := .iff rfl rfl (gt.mono (by decide)) rfl (by simp [elems]) htl9 (.cons (g5.le (Nat.zero_le _)) hs7) hs9
          have fx10 : fz (.tuple [.str "if", dt, .tuple (d5 :: elems d7), d9]) = .tuple [.str "if", dt, .tuple (d5 :: elems d7), d9] := by
            refine fz_mk fun e he => ?_
            simp only [List.mem_cons, List.mem_nil_iff, or_false] at he
            rcases he with rfl | rfl | rfl | rfl
            · simp [fz]
            · exact ft
            · refine fz_mk fun e he => ?_
              rcases List.mem_cons.mp he with rfl | he
              · exact sm_fz hs5
              · exact f7 e he
            · exact hf9
          refine ⟨o, acc, .ref t10, rfl, rfl, B10.ls, by omega, ?_⟩
          exact ⟨_, _, _, k9, lf9, _, _, _, _, rfl, B10.push P0 no hv10 (by rw [em]; exact st10) fx10, by rw [List.length_append, hal]; rfl, w2, (by rw [me]; omega), w3, (by rw [mc]; omega)⟩
        · refine ⟨V.int (m : Nat), rfl, _, 0, rfl, rfl, _, rfl, ite2 (fun c => absurd (of_decide_eq_true c) (by omega)) (fun c => iteF (els Gx k2 lf2 B j1 (by omega) j3))⟩
      intro Ge ke lfe Be u1 u2 u3
      refine ⟨V.ref o, rfl, .inl ⟨rfl, _, .inl (.inl Be.ls)⟩, V.ref p, rfl, V.str blk, rfl, p, l, ns, ke, lfe, blk, rfl, hb, Be.pn, hn, u1, by omega, u3, fun Gf kf lff vf df r1 r2 r3 sf Pf hvf hsf => ?_⟩
      have Bf := Be.but sf Pf
      obtain ⟨lf5, gf5⟩ := smR_g hsf
      refine ⟨o, acc, vf, rfl, rfl, Bf.ls, by omega, ?_⟩
      exact ⟨_, _, _, kf, lff, _, _, _, _, rfl, Bf.push P0 no hvf (gf5.le (Nat.zero_le _)) (sm_fz hsf), by rw [List.length_append, hal]; rfl, r2, (by rw [me]; omega), r3, (by rw [mc]; omega)⟩
    · rintro σ G ⟨x5, x6, x7, k2, lf2, acc, ds, kn, ll, rfl, B, hal, j1, j2, j3, hkn⟩
      have hd3 : acc.length ≤ most := by
        have z : acc.length = d.toNat := by
          first
            | exact hal
            | (rw [Int.sub_zero] at hal; exact hal)
        omega
      have le := Nat.mul_le_mul_right (eD m) hd3
      have lc := Nat.mul_le_mul_right (c1 m) hd3
      rw [hal] at le lc
      refine ⟨V.ref o, rfl, o, acc, rfl, .inl ⟨.inl (.inl B.ls), fun q nq => ?_⟩⟩
      exact kk _ k2 lf2 (.ref q) (.tuple ds) kn ll (by omega) j1 j3 (B.sb.trans (.of (upd_new nq))) (keepP B.pn (upd_new nq)) (.tup upd_same (de_monoAll (upd_new nq) _ _ B.de)) rfl (fz_mk B.fx) B.st (Nat.le_trans hkn lc)
end
end SK
namespace SK
open PySem PySem.Spec PyProof.Rows L2 LamX NdefX
open K0 (De DeAll XCl spX withX)
/-! ### the law's known routines -/
/-- three right blocks -/
def Kn3 (b1 b2 b3 : PyData) : Prop := ∃ (k1 : Nat) (l1 : List Str) (k2 : Nat) (l2 : List Str) (k3 : Nat) (l3 : List Str), BkR (Str.ofString "down") b1 k1 l1 ∧ BkR (Str.ofString "turn") b2 k2 l2 ∧ BkR (Str.ofString "up") b3 k3 l3 ∧ k1 + k2 + k3 ≤ 30
def known6 : List Str := ["has", "put", "strike", "strike kept", "longest", "begins"]
theorem kn_has : Kn3 (.tuple []) (.tuple [.tuple [.str "if", .tuple [.str "and", .tuple [.str "ends"], .tuple [.str "mark"]], .tuple [.tuple [.str "return", .str "yes"]], .tuple [.tuple [.str "return", .str "no"]]]]) (.tuple []) := ⟨_, _, _, _, _, _, ⟨rfl, .nil, by simp [fz, fzAll]⟩, ⟨rfl, (.cons (.iff rfl rfl (.bin rfl rfl (by decide +kernel) (.w rfl rfl (by decide +kernel)) (.w rfl rfl (by decide +kernel))) rfl (fun z => nomatch z) rfl (.cons (.ret rfl rfl (by decide +kernel)) .nil) (.cons (.ret rfl rfl (by decide +kernel)) .nil)) .nil), by simp [fz, fzAll]⟩, ⟨rfl, .nil, by simp [fz, fzAll]⟩, by decide⟩
theorem kn_put : Kn3 (.tuple [.tuple [.str "if", .tuple [.str "not", .tuple [.str "next"]], .tuple [.tuple [.str "make"]], .tuple []]]) (.tuple [.tuple [.str "if", .tuple [.str "mark"], .tuple [.tuple [.str "return", .str "no"]], .tuple []], .tuple [.str "mark"], .tuple [.str "return", .str "yes"]]) (.tuple []) := ⟨_, _, _, _, _, _, ⟨rfl, (.cons (.iff rfl rfl (.neg rfl rfl (.w rfl rfl (by decide +kernel))) rfl (fun z => nomatch z) rfl (.cons (.one rfl rfl (by decide +kernel)) .nil) .nil) .nil), by simp [fz, fzAll]⟩, ⟨rfl, (.cons (.iff rfl rfl (.w rfl rfl (by decide +kernel)) rfl (fun z => nomatch z) rfl (.cons (.ret rfl rfl (by decide +kernel)) .nil) .nil) (.cons (.one rfl rfl (by decide +kernel)) (.cons (.ret rfl rfl (by decide +kernel)) .nil))), by simp [fz, fzAll]⟩, ⟨rfl, .nil, by simp [fz, fzAll]⟩, by decide⟩
theorem kn_strike : Kn3 (.tuple []) (.tuple [.tuple [.str "if", .tuple [.str "or", .tuple [.str "not", .tuple [.str "ends"]], .tuple [.str "not", .tuple [.str "mark"]]], .tuple [.tuple [.str "return", .str "no"]], .tuple []], .tuple [.str "unmark"], .tuple [.str "if", .tuple [.str "or", .tuple [.str "root"], .tuple [.str "not", .tuple [.str "others", .int 0]]], .tuple [.tuple [.str "return", .str "yes"]], .tuple []]]) (.tuple [.tuple [.str "cut"], .tuple [.str "if", .tuple [.str "or", .tuple [.str "or", .tuple [.str "root"], .tuple [.str "mark"]], .tuple [.str "not", .tuple [.str "others", .int 0]]], .tuple [.tuple [.str "return", .str "yes"]], .tuple []]]) := ⟨_, _, _, _, _, _, ⟨rfl, .nil, by simp [fz, fzAll]⟩, ⟨rfl, (.cons (.iff rfl rfl (.bin rfl rfl (by decide +kernel) (.neg rfl rfl (.w rfl rfl (by decide +kernel))) (.neg rfl rfl (.w rfl rfl (by decide +kernel)))) rfl (fun z => nomatch z) rfl (.cons (.ret rfl rfl (by decide +kernel)) .nil) .nil) (.cons (.one rfl rfl (by decide +kernel)) (.cons (.iff rfl rfl (.bin rfl rfl (by decide +kernel) (.w rfl rfl (by decide +kernel)) (.neg rfl rfl (.oth rfl rfl (by decide) (by decide)))) rfl (fun z => nomatch z) rfl (.cons (.ret rfl rfl (by decide +kernel)) .nil) .nil) .nil))), by simp [fz, fzAll]⟩, ⟨rfl, (.cons (.one rfl rfl (by decide +kernel)) (.cons (.iff rfl rfl (.bin rfl rfl (by decide +kernel) (.bin rfl rfl (by decide +kernel) (.w rfl rfl (by decide +kernel)) (.w rfl rfl (by decide +kernel))) (.neg rfl rfl (.oth rfl rfl (by decide) (by decide)))) rfl (fun z => nomatch z) rfl (.cons (.ret rfl rfl (by decide +kernel)) .nil) .nil) .nil)), by simp [fz, fzAll]⟩, by decide⟩
theorem kn_strike_kept : Kn3 (.tuple [.tuple [.str "if", .tuple [.str "or", .tuple [.str "or", .tuple [.str "root"], .tuple [.str "mark"]], .tuple [.str "not", .tuple [.str "others", .int 0]]], .tuple [.tuple [.str "keep"]], .tuple []]]) (.tuple [.tuple [.str "if", .tuple [.str "or", .tuple [.str "not", .tuple [.str "ends"]], .tuple [.str "not", .tuple [.str "mark"]]], .tuple [.tuple [.str "return", .str "no"]], .tuple []], .tuple [.str "unmark"], .tuple [.str "if", .tuple [.str "or", .tuple [.str "root"], .tuple [.str "not", .tuple [.str "others", .int 0]]], .tuple [.tuple [.str "return", .str "yes"]], .tuple []], .tuple [.str "return", .str "yes", .str "cut"]]) (.tuple []) := ⟨_, _, _, _, _, _, ⟨rfl, (.cons (.iff rfl rfl (.bin rfl rfl (by decide +kernel) (.bin rfl rfl (by decide +kernel) (.w rfl rfl (by decide +kernel)) (.w rfl rfl (by decide +kernel))) (.neg rfl rfl (.oth rfl rfl (by decide) (by decide)))) rfl (fun z => nomatch z) rfl (.cons (.one rfl rfl (by decide +kernel)) .nil) .nil) .nil), by simp [fz, fzAll]⟩, ⟨rfl, (.cons (.iff rfl rfl (.bin rfl rfl (by decide +kernel) (.neg rfl rfl (.w rfl rfl (by decide +kernel))) (.neg rfl rfl (.w rfl rfl (by decide +kernel)))) rfl (fun z => nomatch z) rfl (.cons (.ret rfl rfl (by decide +kernel)) .nil) .nil) (.cons (.one rfl rfl (by decide +kernel)) (.cons (.iff rfl rfl (.bin rfl rfl (by decide +kernel) (.w rfl rfl (by decide +kernel)) (.neg rfl rfl (.oth rfl rfl (by decide) (by decide)))) rfl (fun z => nomatch z) rfl (.cons (.ret rfl rfl (by decide +kernel)) .nil) .nil) (.cons (.retc rfl rfl (by decide +kernel) rfl) .nil)))), by simp [fz, fzAll]⟩, ⟨rfl, .nil, by simp [fz, fzAll]⟩, by decide⟩
theorem kn_longest : Kn3 (.tuple [.tuple [.str "if", .tuple [.str "mark"], .tuple [.tuple [.str "keep"]], .tuple []]]) (.tuple [.tuple [.str "if", .tuple [.str "mark"], .tuple [.tuple [.str "keep"]], .tuple []], .tuple [.str "return", .str "p"]]) (.tuple []) := ⟨_, _, _, _, _, _, ⟨rfl, (.cons (.iff rfl rfl (.w rfl rfl (by decide +kernel)) rfl (fun z => nomatch z) rfl (.cons (.one rfl rfl (by decide +kernel)) .nil) .nil) .nil), by simp [fz, fzAll]⟩, ⟨rfl, (.cons (.iff rfl rfl (.w rfl rfl (by decide +kernel)) rfl (fun z => nomatch z) rfl (.cons (.one rfl rfl (by decide +kernel)) .nil) .nil) (.cons (.ret rfl rfl (by decide +kernel)) .nil)), by simp [fz, fzAll]⟩, ⟨rfl, .nil, by simp [fz, fzAll]⟩, by decide⟩
theorem kn_begins : Kn3 (.tuple []) (.tuple [.tuple [.str "if", .tuple [.str "not", .tuple [.str "ends"]], .tuple [.tuple [.str "return", .str "no"]], .tuple []], .tuple [.str "if", .tuple [.str "and", .tuple [.str "and", .tuple [.str "root"], .tuple [.str "not", .tuple [.str "mark"]]], .tuple [.str "others", .int 0]], .tuple [.tuple [.str "return", .str "no"]], .tuple []], .tuple [.str "return", .str "yes"]]) (.tuple []) := ⟨_, _, _, _, _, _, ⟨rfl, .nil, by simp [fz, fzAll]⟩, ⟨rfl, (.cons (.iff rfl rfl (.neg rfl rfl (.w rfl rfl (by decide +kernel))) rfl (fun z => nomatch z) rfl (.cons (.ret rfl rfl (by decide +kernel)) .nil) .nil) (.cons (.iff rfl rfl (.bin rfl rfl (by decide +kernel) (.bin rfl rfl (by decide +kernel) (.w rfl rfl (by decide +kernel)) (.neg rfl rfl (.w rfl rfl (by decide +kernel)))) (.oth rfl rfl (by decide) (by decide))) rfl (fun z => nomatch z) rfl (.cons (.ret rfl rfl (by decide +kernel)) .nil) .nil) (.cons (.ret rfl rfl (by decide +kernel)) .nil))), by simp [fz, fzAll]⟩, ⟨rfl, .nil, by simp [fz, fzAll]⟩, by decide⟩
theorem al_catT {K : PySem.W.Frag} {H0 : Hp} {σ : St} {t1 t2 : TE} {ds es : List PyData} (h1 : Al K H0 σ t1 (.tuple ds)) (h2 : Al K H0 σ t2 (.tuple es)) (hz : ds.length + es.length ≤ 1000) : Al K H0 σ (tOp (rCatA K) t1 t2) (.tuple (ds ++ es)) := fun H R s k => by
  refine h1 H _ s fun H1 v s1 hd => ?_
  refine h2 H1 _ (s.trans s1) fun H2 u s2 he => ?_
  cases de_mono s2 _ _ hd with
  | @tup a xs _ ha hx =>
    cases he with
    | @tup b ys _ hb hy =>
      have lx := deAll_len hx
      have ly := deAll_len hy
      have b5 : (5000 : Nat) < sizeLine := by decide
      exact cat_any ha hb (by omega) fun H3 r s3 hr => k H3 (.ref r) ((s1.trans s2).trans s3) (.tup hr (deAll_app (de_monoAll s3 _ _ hx) (de_monoAll s3 _ _ hy)))
theorem Al.asg {K : PySem.W.Frag} {H0 H : Hp} {σ : St} {te : TE} {g : TG} {u : TS} {D : Ends} {d : PyData} (h : Al K H0 σ te d) (s : Same H0 H) (k : ∀ H' v, Same H H' → De K H' v d → g v σ H' fun σ2 H2 => u D σ2 H2) : tSeq (tAsg te g) u D σ H := h H _ s k
theorem Al.ret1 {K : PySem.W.Frag} {H0 H : Hp} {σ : St} {te : TE} {R : VK} {d : PyData} (h : Al K H0 σ te d) (s : Same H0 H) (k : ∀ H' v, Same H H' → De K H' v d → R v H') : te σ H R := h H _ s k
def spKn (K : PySem.W.Frag) : Sp := fun vs H Q _ => ∃ (x : Str), vs = [.str x] ∧ x ∈ known6 ∧ ∀ (H' : Hp) (v : V) (b1 b2 b3 : PyData), Same H H' → De K H' v (.tuple [b1, b2, b3]) → Kn3 b1 b2 b3 → Q v H'
section
variable {P : Program} {w : World} {K : PySem.W.Frag} {mg : Str → Option Value} {base : Heap} {f : Addr} {fd : FuncData}
abbrev NKn : List Str := ["name", "make", "no", "bare", "lost", "mine", "alive", "strike", "other", "empty", "lacks"]
theorem ok_kn (F : Fun K "_law_known" "_law_known" (top 57) f fd) : FnOk P w K mg base CX0 1 f fd ["name"] (spKn K) := by
  have S0 : FnScope NKn ["name"] (defScope (top 57)) := ⟨rfl, rfl, rfl, by decide +kernel, rfl, by decide +kernel, by decide +kernel⟩
  have nd := S0.nd
  refine F.ok S0 (fun vs H Q E h => ?_) (fun cdv A outer s H vs Q E hr h => ?_)
  · obtain ⟨x, rfl, _⟩ := h
    rfl
  · obtain ⟨x, rfl, hx, kk⟩ := h
    have neq : ∀ {x y : Str}, x ≠ y → decide (V.str x = V.str y) = false := fun {x y} h => decide_eq_false fun z => h (V.str.inj z)
    refine ⟨_, (pss_cons (ps_asg (pe_tup (pa_cons (pe_tup (pa_cons (pe_tup (pa_cons pe_str (pa_cons (pe_tup (pa_cons pe_str (pa_cons (pe_tup (pa_cons pe_str pa_nil)) pa_nil))) (pa_cons (pe_tup (pa_cons (pe_tup (pa_cons pe_str pa_nil)) pa_nil)) (pa_cons (pe_tup pa_nil) pa_nil))))) pa_nil)) (pa_cons (pe_tup (pa_cons pe_str (pa_cons pe_str pa_nil))) pa_nil))) (pg_tup rfl (pgs_cons (pg_name (i := 1) nd rfl (Or.inl rfl)) (pgs_cons (pg_name (i := 2) nd rfl (Or.inl rfl)) pgs_nil))))
        (pss_cons (ps_set (i := 3) nd rfl (Or.inl rfl) (pe_tup (pa_cons pe_str (pa_cons (pe_tup (pa_cons pe_str (pa_cons (pe_tup (pa_cons pe_str pa_nil)) (pa_cons (pe_tup (pa_cons pe_str pa_nil)) pa_nil)))) (pa_cons (pe_tup (pa_cons pe_str (pa_cons (pe_tup (pa_cons pe_str (pa_cons pe_int pa_nil))) pa_nil))) pa_nil)))))
        (pss_cons (ps_set (i := 4) nd rfl (Or.inl rfl) (pe_tup (pa_cons pe_str (pa_cons (pe_tup (pa_cons pe_str (pa_cons (pe_tup (pa_cons pe_str (pa_cons (pe_tup (pa_cons pe_str pa_nil)) pa_nil))) (pa_cons (pe_tup (pa_cons pe_str (pa_cons (pe_tup (pa_cons pe_str pa_nil)) pa_nil))) pa_nil)))) (pa_cons (pe_tup (pa_cons (pv 2) pa_nil)) (pa_cons (pe_tup pa_nil) pa_nil))))))
        (pss_cons (ps_set (i := 5) nd rfl (Or.inl rfl) (pe_tup (pa_cons pe_str (pa_cons (pe_tup (pa_cons pe_str pa_nil)) (pa_cons (pe_tup (pa_cons (pe_tup (pa_cons pe_str pa_nil)) pa_nil)) (pa_cons (pe_tup pa_nil) pa_nil))))))
        (pss_cons (ps_set (i := 6) nd rfl (Or.inl rfl) (pe_tup (pa_cons pe_str (pa_cons (pe_tup (pa_cons pe_str pa_nil)) (pa_cons (pe_tup (pa_cons pe_str (pa_cons (pe_tup (pa_cons pe_str (pa_cons pe_int pa_nil))) pa_nil))) pa_nil)))))
        (pss_cons (ps_set (i := 7) nd rfl (Or.inl rfl) (pe_tup (pa_cons (pv 4) (pa_cons (pe_tup (pa_cons pe_str pa_nil)) (pa_cons (pe_tup (pa_cons pe_str (pa_cons (pv 6) (pa_cons (pe_tup (pa_cons (pe_tup (pa_cons pe_str (pa_cons pe_str pa_nil))) pa_nil)) (pa_cons (pe_tup pa_nil) pa_nil))))) pa_nil)))))
        (pss_cons (ps_set (i := 8) nd rfl (Or.inl rfl) (pe_tup (pa_cons pe_str (pa_cons (pe_tup (pa_cons pe_str (pa_cons (pe_tup (pa_cons pe_str (pa_cons (pe_tup (pa_cons pe_str pa_nil)) (pa_cons (pe_tup (pa_cons pe_str pa_nil)) pa_nil)))) (pa_cons (pe_tup (pa_cons pe_str (pa_cons (pe_tup (pa_cons pe_str (pa_cons pe_int pa_nil))) pa_nil))) pa_nil)))) (pa_cons (pe_tup (pa_cons (pe_tup (pa_cons pe_str pa_nil)) pa_nil)) (pa_cons (pe_tup pa_nil) pa_nil))))))
        (pss_cons (ps_if (pt_cmpR op_eq (pv 0) pe_str (nomark _)) (pss_one (ps_ret (pe_tup (pa_cons (pv 1) (pa_cons (pe_tup (pa_cons (pe_tup (pa_cons pe_str (pa_cons (pe_tup (pa_cons pe_str pa_nil)) (pa_cons (pe_tup (pa_cons (pv 2) pa_nil)) (pa_cons (pe_tup pa_nil) pa_nil))))) (pa_cons (pe_tup (pa_cons pe_str pa_nil)) (pa_cons (pe_tup (pa_cons pe_str (pa_cons pe_str pa_nil))) pa_nil)))) (pa_cons (pe_tup pa_nil) pa_nil)))))) pss_nil)
        (pss_cons (ps_if (pt_cmpR op_eq (pv 0) pe_str (nomark _)) (pss_one (ps_ret (pe_tup (pa_cons (pe_tup pa_nil) (pa_cons (pv 7) (pa_cons (pe_tup (pa_cons (pe_tup (pa_cons pe_str pa_nil)) (pa_cons (pe_tup (pa_cons pe_str (pa_cons (pv 3) (pa_cons (pe_tup (pa_cons (pe_tup (pa_cons pe_str (pa_cons pe_str pa_nil))) pa_nil)) (pa_cons (pe_tup pa_nil) pa_nil))))) pa_nil))) pa_nil)))))) pss_nil)
        (pss_cons (ps_if (pt_cmpR op_eq (pv 0) pe_str (nomark _)) (pss_one (ps_ret (pe_tup (pa_cons (pe_tup (pa_cons (pv 8) pa_nil)) (pa_cons (pe_op op_catA (pv 7) (pe_tup (pa_cons (pe_tup (pa_cons pe_str (pa_cons pe_str (pa_cons pe_str pa_nil)))) pa_nil))) (pa_cons (pe_tup pa_nil) pa_nil)))))) pss_nil)
        (pss_cons (ps_if (pt_cmpR op_eq (pv 0) pe_str (nomark _)) (pss_one (ps_ret (pe_tup (pa_cons (pe_tup (pa_cons (pv 5) pa_nil)) (pa_cons (pe_tup (pa_cons (pv 5) (pa_cons (pe_tup (pa_cons pe_str (pa_cons pe_str pa_nil))) pa_nil))) (pa_cons (pe_tup pa_nil) pa_nil)))))) pss_nil)
        (pss_cons (ps_set (i := 9) nd rfl (Or.inl rfl) (pe_tup (pa_cons pe_str (pa_cons (pe_tup (pa_cons pe_str (pa_cons (pe_tup (pa_cons pe_str pa_nil)) (pa_cons (pe_tup (pa_cons pe_str (pa_cons (pe_tup (pa_cons pe_str pa_nil)) pa_nil))) pa_nil)))) (pa_cons (pe_tup (pa_cons pe_str (pa_cons pe_int pa_nil))) pa_nil)))))
        (pss_cons (ps_if (pt_cmpR op_eq (pv 0) pe_str (nomark _)) (pss_cons (ps_set (i := 10) nd rfl (Or.inl rfl) (pe_tup (pa_cons pe_str (pa_cons (pe_tup (pa_cons pe_str (pa_cons (pe_tup (pa_cons pe_str pa_nil)) pa_nil))) (pa_cons (pe_tup (pa_cons (pv 2) pa_nil)) (pa_cons (pe_tup pa_nil) pa_nil))))))
        (pss_one (ps_ret (pe_tup (pa_cons (pe_tup pa_nil) (pa_cons (pe_tup (pa_cons (pv 10) (pa_cons (pe_tup (pa_cons pe_str (pa_cons (pv 9) (pa_cons (pe_tup (pa_cons (pv 2) pa_nil)) (pa_cons (pe_tup pa_nil) pa_nil))))) (pa_cons (pe_tup (pa_cons pe_str (pa_cons pe_str pa_nil))) pa_nil)))) (pa_cons (pe_tup pa_nil) pa_nil))))))) pss_nil)
        (pss_one (ps_ret (pe_tup (pa_cons (pe_tup pa_nil) (pa_cons (pe_tup (pa_cons (pe_tup (pa_cons pe_str (pa_cons (pe_tup (pa_cons pe_str (pa_cons (pe_tup (pa_cons pe_str pa_nil)) (pa_cons (pe_tup (pa_cons pe_str pa_nil)) pa_nil)))) (pa_cons (pe_tup (pa_cons (pe_tup (pa_cons pe_str (pa_cons pe_str pa_nil))) pa_nil)) (pa_cons (pe_tup (pa_cons (pv 2) pa_nil)) pa_nil))))) pa_nil)) (pa_cons (pe_tup pa_nil) pa_nil))))))))))))))))))), ?_⟩
    refine Al.asg (K := K) (H0 := H) (d := .tuple [.tuple [.tuple [.str "if", .tuple [.str "not", .tuple [.str "next"]], .tuple [.tuple [.str "make"]], .tuple []]], .tuple [.str "return", .str "no"]]) (al_tup (al_cons (al_tup (al_cons (al_tup (al_cons al_str (al_cons (al_tup (al_cons al_str (al_cons (al_tup (al_cons al_str al_nil) (by decide)) al_nil)) (by decide)) (al_cons (al_tup (al_cons (al_tup (al_cons al_str al_nil) (by decide)) al_nil) (by decide)) (al_cons (al_tup al_nil (by decide)) al_nil)))) (by decide)) al_nil) (by decide)) (al_cons (al_tup (al_cons al_str (al_cons al_str al_nil)) (by decide)) al_nil)) (by decide)) (Same.refl _) fun G2 vv s0 hh => ?_
    obtain ⟨pv, xs, rfl, hpv, hxs⟩ : ∃ (pv : Addr) (xs : List V), vv = .ref pv ∧ G2 pv = some (.tup xs) ∧ DeAll K G2 xs [.tuple [.tuple [.str "if", .tuple [.str "not", .tuple [.str "next"]], .tuple [.tuple [.str "make"]], .tuple []]], .tuple [.str "return", .str "no"]] := by
      cases hh with
      | tup a b => exact ⟨_, _, rfl, a, b⟩
    cases hxs with
    | @cons v1 _ _ _ h1 hxs =>
    cases hxs with
    | @cons v2 _ _ _ h2 hxs =>
    cases hxs
    refine ⟨pv, _, rfl, .inl (.inl hpv), rfl, _, _, rfl, _, _, rfl, rfl, ?_⟩
    refine Al.set (K := K) (H0 := G2) (d := .tuple [.str "or", .tuple [.str "or", .tuple [.str "root"], .tuple [.str "mark"]], .tuple [.str "not", .tuple [.str "others", .int 0]]]) (al_tup (al_cons al_str (al_cons (al_tup (al_cons al_str (al_cons (al_tup (al_cons al_str al_nil) (by decide)) (al_cons (al_tup (al_cons al_str al_nil) (by decide)) al_nil))) (by decide)) (al_cons (al_tup (al_cons al_str (al_cons (al_tup (al_cons al_str (al_cons al_int al_nil)) (by decide)) al_nil)) (by decide)) al_nil))) (by decide)) (Same.refl _) fun G3 v3 s3 h3 => ?_
    have h1 := de_mono s3 _ _ h1
    have h2 := de_mono s3 _ _ h2
    have s0 := s0.trans s3
    refine Al.set (K := K) (H0 := G3) (d := .tuple [.str "if", .tuple [.str "or", .tuple [.str "not", .tuple [.str "ends"]], .tuple [.str "not", .tuple [.str "mark"]]], .tuple [.tuple [.str "return", .str "no"]], .tuple []]) (al_tup (al_cons al_str (al_cons (al_tup (al_cons al_str (al_cons (al_tup (al_cons al_str (al_cons (al_tup (al_cons al_str al_nil) (by decide)) al_nil)) (by decide)) (al_cons (al_tup (al_cons al_str (al_cons (al_tup (al_cons al_str al_nil) (by decide)) al_nil)) (by decide)) al_nil))) (by decide)) (al_cons (al_tup (al_cons (al_var (i := 2) rfl h2) al_nil) (by decide)) (al_cons (al_tup al_nil (by decide)) al_nil)))) (by decide)) (Same.refl _) fun G4 v4 s4 h4 => ?_
    have h1 := de_mono s4 _ _ h1
    have h2 := de_mono s4 _ _ h2
    have h3 := de_mono s4 _ _ h3
    have s0 := s0.trans s4
    refine Al.set (K := K) (H0 := G4) (d := .tuple [.str "if", .tuple [.str "mark"], .tuple [.tuple [.str "keep"]], .tuple []]) (al_tup (al_cons al_str (al_cons (al_tup (al_cons al_str al_nil) (by decide)) (al_cons (al_tup (al_cons (al_tup (al_cons al_str al_nil) (by decide)) al_nil) (by decide)) (al_cons (al_tup al_nil (by decide)) al_nil)))) (by decide)) (Same.refl _) fun G5 v5 s5 h5 => ?_
    have h1 := de_mono s5 _ _ h1
    have h2 := de_mono s5 _ _ h2
    have h3 := de_mono s5 _ _ h3
    have h4 := de_mono s5 _ _ h4
    have s0 := s0.trans s5
    refine Al.set (K := K) (H0 := G5) (d := .tuple [.str "or", .tuple [.str "root"], .tuple [.str "not", .tuple [.str "others", .int 0]]]) (al_tup (al_cons al_str (al_cons (al_tup (al_cons al_str al_nil) (by decide)) (al_cons (al_tup (al_cons al_str (al_cons (al_tup (al_cons al_str (al_cons al_int al_nil)) (by decide)) al_nil)) (by decide)) al_nil))) (by decide)) (Same.refl _) fun G6 v6 s6 h6 => ?_
    have h1 := de_mono s6 _ _ h1
    have h2 := de_mono s6 _ _ h2
    have h3 := de_mono s6 _ _ h3
    have h4 := de_mono s6 _ _ h4
    have h5 := de_mono s6 _ _ h5
    have s0 := s0.trans s6
    refine Al.set (K := K) (H0 := G6) (d := .tuple [.tuple [.str "if", .tuple [.str "or", .tuple [.str "not", .tuple [.str "ends"]], .tuple [.str "not", .tuple [.str "mark"]]], .tuple [.tuple [.str "return", .str "no"]], .tuple []], .tuple [.str "unmark"], .tuple [.str "if", .tuple [.str "or", .tuple [.str "root"], .tuple [.str "not", .tuple [.str "others", .int 0]]], .tuple [.tuple [.str "return", .str "yes"]], .tuple []]]) (al_tup (al_cons (al_var (i := 4) rfl h4) (al_cons (al_tup (al_cons al_str al_nil) (by decide)) (al_cons (al_tup (al_cons al_str (al_cons (al_var (i := 6) rfl h6) (al_cons (al_tup (al_cons (al_tup (al_cons al_str (al_cons al_str al_nil)) (by decide)) al_nil) (by decide)) (al_cons (al_tup al_nil (by decide)) al_nil)))) (by decide)) al_nil))) (by decide)) (Same.refl _) fun G7 v7 s7 h7 => ?_
    have h1 := de_mono s7 _ _ h1
    have h2 := de_mono s7 _ _ h2
    have h3 := de_mono s7 _ _ h3
    have h4 := de_mono s7 _ _ h4
    have h5 := de_mono s7 _ _ h5
    have h6 := de_mono s7 _ _ h6
    have s0 := s0.trans s7
    refine Al.set (K := K) (H0 := G7) (d := .tuple [.str "if", .tuple [.str "or", .tuple [.str "or", .tuple [.str "root"], .tuple [.str "mark"]], .tuple [.str "not", .tuple [.str "others", .int 0]]], .tuple [.tuple [.str "keep"]], .tuple []]) (al_tup (al_cons al_str (al_cons (al_tup (al_cons al_str (al_cons (al_tup (al_cons al_str (al_cons (al_tup (al_cons al_str al_nil) (by decide)) (al_cons (al_tup (al_cons al_str al_nil) (by decide)) al_nil))) (by decide)) (al_cons (al_tup (al_cons al_str (al_cons (al_tup (al_cons al_str (al_cons al_int al_nil)) (by decide)) al_nil)) (by decide)) al_nil))) (by decide)) (al_cons (al_tup (al_cons (al_tup (al_cons al_str al_nil) (by decide)) al_nil) (by decide)) (al_cons (al_tup al_nil (by decide)) al_nil)))) (by decide)) (Same.refl _) fun G8 v8 s8 h8 => ?_
    have h1 := de_mono s8 _ _ h1
    have h2 := de_mono s8 _ _ h2
    have h3 := de_mono s8 _ _ h3
    have h4 := de_mono s8 _ _ h4
    have h5 := de_mono s8 _ _ h5
    have h6 := de_mono s8 _ _ h6
    have h7 := de_mono s8 _ _ h7
    have s0 := s0.trans s8
    simp only [known6, List.mem_cons, List.mem_nil_iff, or_false] at hx
    rcases hx with rfl | rfl | rfl | rfl | rfl | rfl
    · refine ⟨V.str _, rfl, rfl, _, rfl, ?_⟩
      rw [neq (by decide)]
      refine iteF ?_
      refine ⟨V.str _, rfl, rfl, _, rfl, ?_⟩
      rw [neq (by decide)]
      refine iteF ?_
      refine ⟨V.str _, rfl, rfl, _, rfl, ?_⟩
      rw [neq (by decide)]
      refine iteF ?_
      refine ⟨V.str _, rfl, rfl, _, rfl, ?_⟩
      rw [neq (by decide)]
      refine iteF ?_
      refine Al.set (K := K) (H0 := G8) (d := .tuple [.str "and", .tuple [.str "and", .tuple [.str "root"], .tuple [.str "not", .tuple [.str "mark"]]], .tuple [.str "others", .int 0]]) (al_tup (al_cons al_str (al_cons (al_tup (al_cons al_str (al_cons (al_tup (al_cons al_str al_nil) (by decide)) (al_cons (al_tup (al_cons al_str (al_cons (al_tup (al_cons al_str al_nil) (by decide)) al_nil)) (by decide)) al_nil))) (by decide)) (al_cons (al_tup (al_cons al_str (al_cons al_int al_nil)) (by decide)) al_nil))) (by decide)) (Same.refl _) fun G9 v9 s9 h9 => ?_
      have h1 := de_mono s9 _ _ h1
      have h2 := de_mono s9 _ _ h2
      have h3 := de_mono s9 _ _ h3
      have h4 := de_mono s9 _ _ h4
      have h5 := de_mono s9 _ _ h5
      have h6 := de_mono s9 _ _ h6
      have h7 := de_mono s9 _ _ h7
      have h8 := de_mono s9 _ _ h8
      have s0 := s0.trans s9
      refine ⟨V.str _, rfl, rfl, _, rfl, ?_⟩
      rw [neq (by decide)]
      refine iteF ?_
      exact Al.ret1 (d := .tuple [.tuple [], .tuple [.tuple [.str "if", .tuple [.str "and", .tuple [.str "ends"], .tuple [.str "mark"]], .tuple [.tuple [.str "return", .str "yes"]], .tuple [.tuple [.str "return", .str "no"]]]], .tuple []]) (K := K) (H0 := G9) (al_tup (al_cons (al_tup al_nil (by decide)) (al_cons (al_tup (al_cons (al_tup (al_cons al_str (al_cons (al_tup (al_cons al_str (al_cons (al_tup (al_cons al_str al_nil) (by decide)) (al_cons (al_tup (al_cons al_str al_nil) (by decide)) al_nil))) (by decide)) (al_cons (al_tup (al_cons (al_tup (al_cons al_str (al_cons al_str al_nil)) (by decide)) al_nil) (by decide)) (al_cons (al_tup (al_cons (al_var (i := 2) rfl h2) al_nil) (by decide)) al_nil)))) (by decide)) al_nil) (by decide)) (al_cons (al_tup al_nil (by decide)) al_nil))) (by decide)) (Same.refl _) fun Gz vz sz hz => kk Gz vz _ _ _ (s0.trans sz) hz kn_has
    · refine ⟨V.str _, rfl, rfl, _, rfl, ?_⟩
      refine iteT ?_
      exact Al.ret1 (d := .tuple [.tuple [.tuple [.str "if", .tuple [.str "not", .tuple [.str "next"]], .tuple [.tuple [.str "make"]], .tuple []]], .tuple [.tuple [.str "if", .tuple [.str "mark"], .tuple [.tuple [.str "return", .str "no"]], .tuple []], .tuple [.str "mark"], .tuple [.str "return", .str "yes"]], .tuple []]) (K := K) (H0 := G8) (al_tup (al_cons (al_var (i := 1) rfl h1) (al_cons (al_tup (al_cons (al_tup (al_cons al_str (al_cons (al_tup (al_cons al_str al_nil) (by decide)) (al_cons (al_tup (al_cons (al_var (i := 2) rfl h2) al_nil) (by decide)) (al_cons (al_tup al_nil (by decide)) al_nil)))) (by decide)) (al_cons (al_tup (al_cons al_str al_nil) (by decide)) (al_cons (al_tup (al_cons al_str (al_cons al_str al_nil)) (by decide)) al_nil))) (by decide)) (al_cons (al_tup al_nil (by decide)) al_nil))) (by decide)) (Same.refl _) fun Gz vz sz hz => kk Gz vz _ _ _ (s0.trans sz) hz kn_put
    · refine ⟨V.str _, rfl, rfl, _, rfl, ?_⟩
      rw [neq (by decide)]
      refine iteF ?_
      refine ⟨V.str _, rfl, rfl, _, rfl, ?_⟩
      refine iteT ?_
      exact Al.ret1 (d := .tuple [.tuple [], .tuple [.tuple [.str "if", .tuple [.str "or", .tuple [.str "not", .tuple [.str "ends"]], .tuple [.str "not", .tuple [.str "mark"]]], .tuple [.tuple [.str "return", .str "no"]], .tuple []], .tuple [.str "unmark"], .tuple [.str "if", .tuple [.str "or", .tuple [.str "root"], .tuple [.str "not", .tuple [.str "others", .int 0]]], .tuple [.tuple [.str "return", .str "yes"]], .tuple []]], .tuple [.tuple [.str "cut"], .tuple [.str "if", .tuple [.str "or", .tuple [.str "or", .tuple [.str "root"], .tuple [.str "mark"]], .tuple [.str "not", .tuple [.str "others", .int 0]]], .tuple [.tuple [.str "return", .str "yes"]], .tuple []]]]) (K := K) (H0 := G8) (al_tup (al_cons (al_tup al_nil (by decide)) (al_cons (al_var (i := 7) rfl h7) (al_cons (al_tup (al_cons (al_tup (al_cons al_str al_nil) (by decide)) (al_cons (al_tup (al_cons al_str (al_cons (al_var (i := 3) rfl h3) (al_cons (al_tup (al_cons (al_tup (al_cons al_str (al_cons al_str al_nil)) (by decide)) al_nil) (by decide)) (al_cons (al_tup al_nil (by decide)) al_nil)))) (by decide)) al_nil)) (by decide)) al_nil))) (by decide)) (Same.refl _) fun Gz vz sz hz => kk Gz vz _ _ _ (s0.trans sz) hz kn_strike
    · refine ⟨V.str _, rfl, rfl, _, rfl, ?_⟩
      rw [neq (by decide)]
      refine iteF ?_
      refine ⟨V.str _, rfl, rfl, _, rfl, ?_⟩
      rw [neq (by decide)]
      refine iteF ?_
      refine ⟨V.str _, rfl, rfl, _, rfl, ?_⟩
      refine iteT ?_
      exact Al.ret1 (d := .tuple [.tuple [.tuple [.str "if", .tuple [.str "or", .tuple [.str "or", .tuple [.str "root"], .tuple [.str "mark"]], .tuple [.str "not", .tuple [.str "others", .int 0]]], .tuple [.tuple [.str "keep"]], .tuple []]], .tuple [.tuple [.str "if", .tuple [.str "or", .tuple [.str "not", .tuple [.str "ends"]], .tuple [.str "not", .tuple [.str "mark"]]], .tuple [.tuple [.str "return", .str "no"]], .tuple []], .tuple [.str "unmark"], .tuple [.str "if", .tuple [.str "or", .tuple [.str "root"], .tuple [.str "not", .tuple [.str "others", .int 0]]], .tuple [.tuple [.str "return", .str "yes"]], .tuple []], .tuple [.str "return", .str "yes", .str "cut"]], .tuple []]) (K := K) (H0 := G8) (al_tup (al_cons (al_tup (al_cons (al_var (i := 8) rfl h8) al_nil) (by decide)) (al_cons (al_catT (al_var (i := 7) rfl h7) (al_tup (al_cons (al_tup (al_cons al_str (al_cons al_str (al_cons al_str al_nil))) (by decide)) al_nil) (by decide)) (by decide)) (al_cons (al_tup al_nil (by decide)) al_nil))) (by decide)) (Same.refl _) fun Gz vz sz hz => kk Gz vz _ _ _ (s0.trans sz) hz kn_strike_kept
    · refine ⟨V.str _, rfl, rfl, _, rfl, ?_⟩
      rw [neq (by decide)]
      refine iteF ?_
      refine ⟨V.str _, rfl, rfl, _, rfl, ?_⟩
      rw [neq (by decide)]
      refine iteF ?_
      refine ⟨V.str _, rfl, rfl, _, rfl, ?_⟩
      rw [neq (by decide)]
      refine iteF ?_
      refine ⟨V.str _, rfl, rfl, _, rfl, ?_⟩
      refine iteT ?_
      exact Al.ret1 (d := .tuple [.tuple [.tuple [.str "if", .tuple [.str "mark"], .tuple [.tuple [.str "keep"]], .tuple []]], .tuple [.tuple [.str "if", .tuple [.str "mark"], .tuple [.tuple [.str "keep"]], .tuple []], .tuple [.str "return", .str "p"]], .tuple []]) (K := K) (H0 := G8) (al_tup (al_cons (al_tup (al_cons (al_var (i := 5) rfl h5) al_nil) (by decide)) (al_cons (al_tup (al_cons (al_var (i := 5) rfl h5) (al_cons (al_tup (al_cons al_str (al_cons al_str al_nil)) (by decide)) al_nil)) (by decide)) (al_cons (al_tup al_nil (by decide)) al_nil))) (by decide)) (Same.refl _) fun Gz vz sz hz => kk Gz vz _ _ _ (s0.trans sz) hz kn_longest
    · refine ⟨V.str _, rfl, rfl, _, rfl, ?_⟩
      rw [neq (by decide)]
      refine iteF ?_
      refine ⟨V.str _, rfl, rfl, _, rfl, ?_⟩
      rw [neq (by decide)]
      refine iteF ?_
      refine ⟨V.str _, rfl, rfl, _, rfl, ?_⟩
      rw [neq (by decide)]
      refine iteF ?_
      refine ⟨V.str _, rfl, rfl, _, rfl, ?_⟩
      rw [neq (by decide)]
      refine iteF ?_
      refine Al.set (K := K) (H0 := G8) (d := .tuple [.str "and", .tuple [.str "and", .tuple [.str "root"], .tuple [.str "not", .tuple [.str "mark"]]], .tuple [.str "others", .int 0]]) (al_tup (al_cons al_str (al_cons (al_tup (al_cons al_str (al_cons (al_tup (al_cons al_str al_nil) (by decide)) (al_cons (al_tup (al_cons al_str (al_cons (al_tup (al_cons al_str al_nil) (by decide)) al_nil)) (by decide)) al_nil))) (by decide)) (al_cons (al_tup (al_cons al_str (al_cons al_int al_nil)) (by decide)) al_nil))) (by decide)) (Same.refl _) fun G9 v9 s9 h9 => ?_
      have h1 := de_mono s9 _ _ h1
      have h2 := de_mono s9 _ _ h2
      have h3 := de_mono s9 _ _ h3
      have h4 := de_mono s9 _ _ h4
      have h5 := de_mono s9 _ _ h5
      have h6 := de_mono s9 _ _ h6
      have h7 := de_mono s9 _ _ h7
      have h8 := de_mono s9 _ _ h8
      have s0 := s0.trans s9
      refine ⟨V.str _, rfl, rfl, _, rfl, ?_⟩
      refine iteT ?_
      refine Al.set (K := K) (H0 := G9) (d := .tuple [.str "if", .tuple [.str "not", .tuple [.str "ends"]], .tuple [.tuple [.str "return", .str "no"]], .tuple []]) (al_tup (al_cons al_str (al_cons (al_tup (al_cons al_str (al_cons (al_tup (al_cons al_str al_nil) (by decide)) al_nil)) (by decide)) (al_cons (al_tup (al_cons (al_var (i := 2) rfl h2) al_nil) (by decide)) (al_cons (al_tup al_nil (by decide)) al_nil)))) (by decide)) (Same.refl _) fun G10 v10 s10 h10 => ?_
      have h1 := de_mono s10 _ _ h1
      have h2 := de_mono s10 _ _ h2
      have h3 := de_mono s10 _ _ h3
      have h4 := de_mono s10 _ _ h4
      have h5 := de_mono s10 _ _ h5
      have h6 := de_mono s10 _ _ h6
      have h7 := de_mono s10 _ _ h7
      have h8 := de_mono s10 _ _ h8
      have h9 := de_mono s10 _ _ h9
      have s0 := s0.trans s10
      exact Al.ret1 (d := .tuple [.tuple [], .tuple [.tuple [.str "if", .tuple [.str "not", .tuple [.str "ends"]], .tuple [.tuple [.str "return", .str "no"]], .tuple []], .tuple [.str "if", .tuple [.str "and", .tuple [.str "and", .tuple [.str "root"], .tuple [.str "not", .tuple [.str "mark"]]], .tuple [.str "others", .int 0]], .tuple [.tuple [.str "return", .str "no"]], .tuple []], .tuple [.str "return", .str "yes"]], .tuple []]) (K := K) (H0 := G10) (al_tup (al_cons (al_tup al_nil (by decide)) (al_cons (al_tup (al_cons (al_var (i := 10) rfl h10) (al_cons (al_tup (al_cons al_str (al_cons (al_var (i := 9) rfl h9) (al_cons (al_tup (al_cons (al_var (i := 2) rfl h2) al_nil) (by decide)) (al_cons (al_tup al_nil (by decide)) al_nil)))) (by decide)) (al_cons (al_tup (al_cons al_str (al_cons al_str al_nil)) (by decide)) al_nil))) (by decide)) (al_cons (al_tup al_nil (by decide)) al_nil))) (by decide)) (Same.refl _) fun Gz vz sz hz => kk Gz vz _ _ _ (s0.trans sz) hz kn_begins
end
end SK
namespace SK
open PySem PySem.Spec PyProof.Rows L2 LamX NdefX
open K0 (De DeAll XCl spX withX)
/-! ### the law's size of a block -/
def spSz (K : PySem.W.Frag) (n : Nat) : Sp := fun vs H Q _ => ∃ (v : V) (d : PyData) (blk : Str) (m k : Nat) (l : List Str), vs = [v] ∧ De K H v d ∧ fz d = d ∧ isTL d = true ∧ StL blk m (elems d) k l ∧ m < n ∧ k ≤ 1000 ∧ ∀ H', Same H H' → Q (.int (k : Nat)) H'
section
variable {P : Program} {w : World} {K : PySem.W.Frag} {mg : Str → Option Value} {base : Heap} {f : Addr} {fd : FuncData}
abbrev NSz : List Str := ["block", "one"]
theorem ok_sz (F : Fun K "_law_size" "_law_size" (top 59) f fd) (gN : mg "len" = none) (gSu : mg "sum" = none) (gS : mg "_law_size" = some (.ref f)) (bS : Binds K fd ["block"] []) : ∀ n : Nat, FnOk P w K mg base CX0 (n + 1) f fd ["block"] (spSz K n) := by
  have S0 : FnScope NSz ["block"] (defScope (top 59)) := ⟨rfl, rfl, rfl, by decide +kernel, rfl, by decide +kernel, by decide +kernel⟩
  have nd := S0.nd
  have kS := F.kp
  intro n
  induction n with
  | zero =>
    refine F.ok S0 (fun vs H Q E h => ?_) (fun cdv A outer s H vs Q E hr h => ?_)
    · obtain ⟨v, d, blk, m, k, l, rfl, _⟩ := h
      rfl
    · obtain ⟨v, d, blk, m, k, l, rfl, _, _, _, _, hm, _⟩ := h
      omega
  | succ n GS =>
  refine F.ok S0 (fun vs H Q E h => ?_) (fun cdv A outer s H vs Q E hr h => ?_)
  · obtain ⟨v, d, blk, m, k, l, rfl, _⟩ := h
    rfl
  · obtain ⟨v, d, blk, m, k, l, rfl, hd, hf, ht, hs, hm, hk, kk⟩ := h
    refine ⟨_, (pss_one (ps_ret (pe_op op_add (pe_callB call_len_seq (by rfl) gN PySem.boot_len (pa_cons (pv 0) pa_nil)) (pe_callB (cr_sum rfl) (by rfl) gSu PyProof.Rows.boot_sum (pa_cons (pe_lc (own := [("one", 1)]) (g := gName 1) rfl nd (pi_tup (pv 0)) (blkOk_by (N := NSz) (sc := defScope (top 59)) (by decide +kernel)) (fun _ _ _ _ _ => pg_name (i := 1) nd rfl (Or.inl rfl)) (fun _ _ _ _ _ => (pts_one (pt_cmpR op_eq (pe_ix (r := rIx K) ix_seq (pv 1) pe_int (fun _ _ => rfl)) pe_str (nomark _)))) (fun _ _ _ _ _ => (pe_op op_add (pe_call GS hr (by rfl) gS kS bS .nil pass0 (pa_cons (pe_ix (r := rIx K) ix_seq (pv 1) pe_int (fun _ _ => rfl)) pa_nil)) (pe_call GS hr (by rfl) gS kS bS .nil pass0 (pa_cons (pe_ix (r := rIx K) ix_seq (pv 1) pe_int (fun _ _ => rfl)) pa_nil))))) pa_nil))))), ?_⟩
    obtain ⟨p, xs, rfl, hp, hds⟩ := fz_tup hd hf ht
    obtain ⟨_, hfe⟩ := fz_fix hf ht
    generalize elems d = ds at hs hds hfe
    have hxl := deAll_len hds
    have hsl := hs.len
    have b5 : (5000 : Nat) < sizeLine := by decide
    have neq : ∀ {x y : Str}, x ≠ y → decide (V.str x = V.str y) = false := fun {x y} h => decide_eq_false fun z => h (V.str.inj z)
    refine ⟨V.ref p, rfl, p, xs, rfl, .inr (.inl (.inl hp)), V.ref p, rfl, p, rfl, ⟨xs, .inl (.inl hp)⟩, fun D nD => lc_it (walk_tup (K := K) (xs := xs)) (fun i G => Same H G ∧ ∃ (is : List Int) (kb : Nat) (lb : List Str), G D = some (.lst (is.map V.int)) ∧ is.length ≤ i ∧ StL blk m (ds.drop i) kb lb ∧ 0 ≤ is.sum ∧ is.sum + (i : Int) + (kb : Int) = (k : Int)) ⟨upd_new nD, [], k, l, upd_same, Nat.le_refl _, hs, by simp, by simp⟩ (fun i G _ q => .inl (.inl (q.1 _ _ hp))) ?_ ?_⟩
    · rintro i x G G' hi ⟨sG, is, kb, lb, hD, hil, hst, hsn, hsum⟩ ⟨rfl, hx⟩
      obtain ⟨e, he, hde⟩ := deAll_at hds hx
      have hlt : i < ds.length := by omega
      have ed : ds.drop i = e :: ds.drop (i + 1) := by
        rw [List.drop_eq_getElem_cons hlt]
        rw [List.getElem?_eq_getElem hlt] at he
        rw [Option.some.inj he]
      rw [ed] at hst
      have hem := hfe e (List.mem_of_getElem? he)
      cases hst with
      | @cons _ _ _ ka kc l1 l2 ha hc =>
      obtain ⟨q, us, rfl, hq, hus⟩ := fz_tup (de_mono sG _ _ hde) hem ha.tl
      obtain ⟨_, hfu⟩ := fz_fix hem ha.tl
      have ixF : ∀ {H' : Hp} (j : Nat) (v' : V) (R : VK), Same G' H' → us[j]? = some v' → R v' H' → rIx K (.ref q) (.int (j : Nat)) H' R := fun {H'} j v' R s hj hR => .inr (.inl ⟨q, us, (j : Int), v', rfl, rfl, .inl (.inl (s _ _ hq)), atI_nat hj, hR⟩)
      have s0 := Same.refl G'
      have skip : ∀ {x : Str} {ur : List V}, us = .str x :: ur → x ≠ Str.ofString "if" → ka = 1 → decide (V.str x = V.str (Str.ofString "if")) = false ∧ (Same H G' ∧ ∃ (is : List Int) (kb : Nat) (lb : List Str), G' D = some (.lst (is.map V.int)) ∧ is.length ≤ i + 1 ∧ StL blk m (ds.drop (i + 1)) kb lb ∧ 0 ≤ is.sum ∧ is.sum + ((i + 1 : Nat) : Int) + (kb : Int) = (k : Int)) := fun {x ur} e1 e2 e3 => ⟨neq e2, sG, is, kc, l2, hD, by omega, hc, hsn, by omega⟩
      cases ha with
      | @one _ _ x ht he hx =>
        rw [he] at hus
        cases hus with
        | @cons u1 _ _ _ d1 hus =>
        cases d1
        obtain ⟨n1, _⟩ := letK_ne x (letK_of hx)
        obtain ⟨e1, e2⟩ := skip rfl n1 rfl
        refine ⟨rfl, V.ref q, rfl, ixF 0 _ _ s0 rfl ⟨rfl, _, rfl, ?_⟩⟩
        rw [e1]
        exact iteF e2
      | @set _ _ x b ht he hx =>
        rw [he] at hus
        cases hus with
        | @cons u1 _ _ _ d1 hus =>
        cases d1
        obtain ⟨e1, e2⟩ := skip rfl (by decide) rfl
        refine ⟨rfl, V.ref q, rfl, ixF 0 _ _ s0 rfl ⟨rfl, _, rfl, ?_⟩⟩
        rw [e1]
        exact iteF e2
      | @ret _ _ a ht he hx =>
        rw [he] at hus
        cases hus with
        | @cons u1 _ _ _ d1 hus =>
        cases d1
        obtain ⟨e1, e2⟩ := skip rfl (by decide) rfl
        refine ⟨rfl, V.ref q, rfl, ixF 0 _ _ s0 rfl ⟨rfl, _, rfl, ?_⟩⟩
        rw [e1]
        exact iteF e2
      | @retc _ _ a ht he hx hb =>
        rw [he] at hus
        cases hus with
        | @cons u1 _ _ _ d1 hus =>
        cases d1
        obtain ⟨e1, e2⟩ := skip rfl (by decide) rfl
        refine ⟨rfl, V.ref q, rfl, ixF 0 _ _ s0 rfl ⟨rfl, _, rfl, ?_⟩⟩
        rw [e1]
        exact iteF e2
      | @iff m _ t b1 b2 k1 k2 la lc ht he tt h1 hn h2 g1 g2 =>
        rw [he] at hus hfu
        have f3 := hfu b1 (by simp)
        have f4 := hfu b2 (by simp)
        cases hus with
        | @cons u1 _ _ _ d1 hus =>
        cases d1
        cases hus with
        | @cons u2 _ _ _ d2 hus =>
        cases hus with
        | @cons u3 _ _ _ d3 hus =>
        cases hus with
        | @cons u4 _ _ _ d4 hus =>
        refine ⟨rfl, V.ref q, rfl, ixF 0 _ _ s0 rfl ⟨rfl, _, rfl, iteT ?_⟩⟩
        refine ⟨V.ref q, rfl, ixF 2 u3 _ s0 rfl ⟨u3, b1, blk, m, k1, la, rfl, d3, f3, h1, g1, by omega, by omega, fun G2 s2 => ?_⟩⟩
        refine ⟨V.ref q, rfl, ixF 3 u4 _ s2 rfl ⟨u4, b2, blk, m, k2, lc, rfl, de_mono s2 _ _ d4, f4, h2, g2, by omega, by omega, fun G3 s3 => ?_⟩⟩
        have s23 := s2.trans s3
        refine ⟨_, _, rfl, rfl, _, s23 _ _ hD, by rw [List.length_map]; omega, same_upd nD (sG.trans s23), is ++ [((k1 : Nat) : Int) + ((k2 : Nat) : Int)], kc, l2, by rw [List.map_append]; exact upd_same, by rw [List.length_append]; simp; omega, hc, ?_, ?_⟩
        all_goals
          rw [List.sum_append]
          simp only [List.sum_cons, List.sum_nil]
          omega
    · rintro G ⟨sG, is, kb, lb, hD, hil, hst, hsn, hsum⟩
      rw [List.drop_eq_nil_of_le (by omega)] at hst
      cases hst
      refine ⟨D, is, rfl, .inl (.inl hD), _, _, rfl, rfl, ?_⟩
      have e : ((xs.length : Nat) : Int) + is.sum = ((k : Nat) : Int) := by omega
      dsimp only
      rw [e]
      exact kk G sG
end
/-! ### lists for tuples -/
def isTp : PyData → Bool
  | .tuple _ => true
  | _ => false
theorem ty_tp {K : PySem.W.Frag} {H : Hp} {v : V} {d : PyData} (h : De K H v d) : ∃ T : String, TyX K H v (.type T) ∧ kitB T "tuple" = some (isTp d) := by
  cases h with
  | non => exact ⟨"NoneType", .base .non, by show kitB "NoneType" "tuple" = some false; decide +kernel⟩
  | bl b => exact ⟨"bool", .base (.bl b), by show kitB "bool" "tuple" = some false; decide +kernel⟩
  | int i => exact ⟨"int", .base (.int i), by show kitB "int" "tuple" = some false; decide +kernel⟩
  | str x => exact ⟨"str", .base (.str x), by show kitB "str" "tuple" = some false; decide +kernel⟩
  | lst ha hd => exact ⟨"list", .base (.lst ha), by show kitB "list" "tuple" = some false; decide +kernel⟩
  | tup ha hd => exact ⟨"tuple", .base (.tup ha), by show kitB "tuple" "tuple" = some true; decide +kernel⟩
  | dic ha hl => exact ⟨"dict", .base (.dK ha), by show kitB "dict" "tuple" = some false; decide +kernel⟩
/-- what is there only now -/
def Nw (H H' : Hp) : Hp := fun a => if H a = none then H' a else none
/-- the same, a place left out -/
def NwD (H : Hp) (D : Addr) (H' : Hp) : Hp := fun a => if H a = none ∧ a ≠ D then H' a else none
theorem nw_at {H H' : Hp} {a : Addr} {o : HO} (h : Nw H H' a = some o) : H a = none ∧ H' a = some o := by
  unfold Nw at h
  by_cases c : H a = none
  · rw [if_pos c] at h
    exact ⟨c, h⟩
  · rw [if_neg c] at h
    cases h
theorem nwD_at {H H' : Hp} {D a : Addr} {o : HO} (h : NwD H D H' a = some o) : H a = none ∧ a ≠ D ∧ H' a = some o := by
  unfold NwD at h
  by_cases c : H a = none ∧ a ≠ D
  · rw [if_pos c] at h
    exact ⟨c.1, c.2, h⟩
  · rw [if_neg c] at h
    cases h
theorem nw_mk {H H' : Hp} {a : Addr} {o : HO} (n : H a = none) (h : H' a = some o) : Nw H H' a = some o := by
  unfold Nw
  rw [if_pos n]
  exact h
theorem nwD_mk {H H' : Hp} {D a : Addr} {o : HO} (n : H a = none) (n2 : a ≠ D) (h : H' a = some o) : NwD H D H' a = some o := by
  unfold NwD
  rw [if_pos ⟨n, n2⟩]
  exact h
theorem nw_old {H H' : Hp} : Same (Nw H H') H' := fun a o h => (nw_at h).2
theorem nw_up {H G G' : Hp} (s : Same G G') : Same (Nw H G) (Nw H G') := fun a o h => by
  obtain ⟨n, e⟩ := nw_at h
  exact nw_mk n (s _ _ e)
theorem canLay_mem : ∀ {ds : List PyData}, PyData.canLayAll0 ds = true → ∀ e ∈ ds, e.canLay0 = true
  | [], _, e, he => by cases he
  | d :: ds, h, e, he => by
    simp only [PyData.canLayAll0, Bool.and_eq_true] at h
    rcases List.mem_cons.mp he with z | z
    · rw [z]
      exact h.1
    · exact canLay_mem h.2 e z
def spAl (K : PySem.W.Frag) (n : Nat) : Sp := fun vs H Q _ => ∃ (v : V) (d : PyData), vs = [v] ∧ De K H v d ∧ fz d = d ∧ lev d < n ∧ (∀ m, hdW m d) ∧ d.canLay0 = true ∧ ∀ (H' : Hp) (u : V), Same H H' → De K (Nw H H') u (lz d) → Q u H'
section
variable {P : Program} {w : World} {K : PySem.W.Frag} {mg : Str → Option Value} {base : Heap} {f : Addr} {fd : FuncData}
abbrev NAl : List Str := ["value", "one"]
theorem ok_al (F : Fun K "_law_as_lists" "_law_as_lists" (top 66) f fd) (gI : mg "isinstance" = none) (gT : mg "tuple" = none) (gS : mg "_law_as_lists" = some (.ref f)) (bS : Binds K fd ["value"] []) : ∀ n : Nat, FnOk P w K mg base CX0 (n + 1) f fd ["value"] (spAl K n) := by
  have S0 : FnScope NAl ["value"] (defScope (top 66)) := ⟨rfl, rfl, rfl, by decide +kernel, rfl, by decide +kernel, by decide +kernel⟩
  have nd := S0.nd
  have kS := F.kp
  intro n
  induction n with
  | zero =>
    refine F.ok S0 (fun vs H Q E h => ?_) (fun cdv A outer s H vs Q E hr h => ?_)
    · obtain ⟨v, d, rfl, _⟩ := h
      rfl
    · obtain ⟨v, d, rfl, _, _, hm, _⟩ := h
      omega
  | succ n GS =>
  refine F.ok S0 (fun vs H Q E h => ?_) (fun cdv A outer s H vs Q E hr h => ?_)
  · obtain ⟨v, d, rfl, _⟩ := h
    rfl
  · obtain ⟨v, d, rfl, hd, hf, hl, hw, hc, kk⟩ := h
    refine ⟨_, (pss_one (ps_ret (pe_ifExp (pt_val (pe_callB (r := rIsi K) call_isi (by rfl) gI PyProof.Rows.boot_isinstance (pa_cons (pv 0) (pa_cons (pe_bltn (v := .ty "tuple") (by rfl) gT PyProof.Rows.boot_tuple rfl) pa_nil)))) (pe_lc (own := [("one", 1)]) (g := gName 1) (tt := tYes) (te := tCall (spAl K n) [] E0 (tCons (tVar 1) tNil)) rfl nd (pi_tup (pv 0)) (blkOk_by (N := NAl) (sc := defScope (top 66)) (by decide +kernel)) (fun _ _ _ _ _ => pg_name (i := 1) nd rfl (Or.inl rfl)) (fun _ _ _ _ _ => pts_nil) (fun _ _ _ _ _ => (pe_call GS hr (by rfl) gS kS bS .nil pass0 (pa_cons (pv 1) pa_nil)))) (pv 0)))), ?_⟩
    obtain ⟨Ty, tx, kt⟩ := ty_tp hd
    refine ⟨v, rfl, v, .ty "tuple", .type Ty, .type "tuple", isTp d, rfl, .ty _, tx, kit_ty kt, _, rfl, ?_⟩
    cases hd with
    | non => exact iteF ⟨_, rfl, kk H _ (Same.refl _) (by simp only [lz]; exact .non)⟩
    | bl b => exact iteF ⟨_, rfl, kk H _ (Same.refl _) (by simp only [lz]; exact .bl b)⟩
    | int i => exact iteF ⟨_, rfl, kk H _ (Same.refl _) (by simp only [lz]; exact .int i)⟩
    | str x => exact iteF ⟨_, rfl, kk H _ (Same.refl _) (by simp only [lz]; exact .str x)⟩
    | lst ha hds =>
      simp only [fz] at hf
      cases hf
    | dic ha hl =>
      simp only [PyData.canLay0] at hc
      cases hc
    | @tup p xs ds hp hds =>
    have hxl := deAll_len hds
    have hfe := (fz_fix hf rfl).2
    have hfe : ∀ e ∈ ds, fz e = e := hfe
    have hlv := lev_tl (d := .tuple ds) rfl
    have hlv : lev (.tuple ds) = levAll ds + 1 := hlv
    have hz := (hw 1 rfl).1
    have hz : ds.length ≤ 1000 := hz
    have hce := canLay_mem (show PyData.canLayAll0 ds = true by simpa only [PyData.canLay0] using hc)
    have hwe : ∀ e ∈ ds, ∀ m, hdW m e := fun e he m => (hw (m + 1) rfl).2 e he
    have b5 : (5000 : Nat) < sizeLine := by decide
    refine iteT ⟨V.ref p, rfl, p, rfl, ⟨xs, .inl (.inl hp)⟩, fun D nD => lc_it (walk_tup (K := K) (xs := xs)) (fun i G => Same H G ∧ ∃ acc : List V, G D = some (.lst acc) ∧ acc.length = i ∧ DeAll K (NwD H D G) acc ((ds.take i).map lz)) ⟨upd_new nD, [], upd_same, rfl, .nil⟩ (fun i G _ q => .inl (.inl (q.1 _ _ hp))) ?_ ?_⟩
    · rintro i x G G' hi ⟨sG, acc, hD, hal, hacc⟩ ⟨rfl, hx⟩
      obtain ⟨dd, hdd, hde⟩ := deAll_at hds hx
      have hm := List.mem_of_getElem? hdd
      refine ⟨rfl, x, rfl, x, dd, rfl, de_mono sG _ _ hde, hfe dd hm, by have := lev_mem hm; omega, hwe dd hm, hce dd hm, fun G2 u s2 hu => ?_⟩
      have hD2 := s2 _ _ hD
      refine ⟨acc, hD2, by omega, same_upd nD (sG.trans s2), acc ++ [u], upd_same, by rw [List.length_append, hal]; rfl, ?_⟩
      have m1 : Same (NwD H D G') (NwD H D (upd G2 D (.lst (acc ++ [u])))) := fun a o h => by
        obtain ⟨n1, n2, e⟩ := nwD_at h
        exact nwD_mk n1 n2 (by rw [upd_ne n2]; exact s2 _ _ e)
      have m2 : Same (Nw G' G2) (NwD H D (upd G2 D (.lst (acc ++ [u])))) := fun a o h => by
        obtain ⟨n1, e⟩ := nw_at h
        have n2 : a ≠ D := fun z => by rw [z, hD] at n1; cases n1
        exact nwD_mk (none_of sG n1) n2 (by rw [upd_ne n2]; exact e)
      rw [take_snoc hdd, List.map_append]
      exact deAll_app (de_monoAll m1 _ _ hacc) (.cons (de_mono m2 _ _ hu) .nil)
    · rintro G ⟨sG, acc, hD, hal, hacc⟩
      rw [hxl, List.take_length] at hacc
      have m : Same (NwD H D G) (Nw H G) := fun a o h => by
        obtain ⟨n1, n2, e⟩ := nwD_at h
        exact nw_mk n1 e
      refine kk G (.ref D) sG ?_
      simp only [lz, lzAll_map]
      exact .lst (nw_mk nD hD) (de_monoAll m _ _ hacc)
end
end SK
namespace SK
open PySem PySem.Spec PyProof.Rows L2 LamX NdefX
open K0 (De DeAll XCl spX withX)
/-! ### the law's routines -/
def KnB (c : Nat) (b1 b2 b3 : PyData) : Prop := ∃ (k1 : Nat) (l1 : List Str) (k2 : Nat) (l2 : List Str) (k3 : Nat) (l3 : List Str), BkR (Str.ofString "down") b1 k1 l1 ∧ BkR (Str.ofString "turn") b2 k2 l2 ∧ BkR (Str.ofString "up") b3 k3 l3 ∧ k1 + k2 + k3 ≤ c
theorem KnB.mono {c c' : Nat} {b1 b2 b3 : PyData} (h : KnB c b1 b2 b3) (q : c ≤ c') : KnB c' b1 b2 b3 := by
  obtain ⟨k1, l1, k2, l2, k3, l3, h1, h2, h3, h4⟩ := h
  exact ⟨k1, l1, k2, l2, k3, l3, h1, h2, h3, Nat.le_trans h4 q⟩
theorem kn_at {b1 b2 b3 : PyData} (h : KnB 30 b1 b2 b3) : ∀ j, j < 3 → ∃ (b : PyData) (blk : Str) (kk : Nat) (ll : List Str), [b1, b2, b3][j]? = some b ∧ blk3[j]? = some blk ∧ blk ∈ blk3 ∧ BkR blk b kk ll ∧ kk ≤ 30 ∧
    ∀ (b' : PyData) (ll' : List Str), BkR blk b' (kk + 1) ll' → ∃ c1 c2 c3 : PyData, [b1, b2, b3].take j ++ [b'] ++ [b1, b2, b3].drop (j + 1) = [c1, c2, c3] ∧ KnB 31 c1 c2 c3 := by
  intro j hj
  obtain ⟨k1, l1, k2, l2, k3, l3, h1, h2, h3, h4⟩ := h
  match j, hj with
  | 0, _ => exact ⟨b1, _, k1, l1, rfl, rfl, by decide +kernel, h1, by omega, fun b' ll' B => ⟨b', b2, b3, rfl, k1 + 1, ll', k2, l2, k3, l3, B, h2, h3, by omega⟩⟩
  | 1, _ => exact ⟨b2, _, k2, l2, rfl, rfl, by decide +kernel, h2, by omega, fun b' ll' B => ⟨b1, b', b3, rfl, k1, l1, k2 + 1, ll', k3, l3, h1, B, h3, by omega⟩⟩
  | 2, _ => exact ⟨b3, _, k3, l3, rfl, rfl, by decide +kernel, h3, by omega, fun b' ll' B => ⟨b1, b2, b', rfl, k1, l1, k2, l2, k3 + 1, ll', h1, h2, B, by omega⟩⟩
theorem StL.split {blk : Str} {n : Nat} : ∀ {ds : List PyData} {k : Nat} {l : List Str} (s : Nat), StL blk n ds k l → ∃ k1 l1 k2 l2, StL blk n (ds.take s) k1 l1 ∧ StL blk n (ds.drop s) k2 l2 ∧ k1 + k2 = k
  | ds, k, l, 0, h => ⟨0, [], k, l, by rw [List.take_zero]; exact .nil, by rw [List.drop_zero]; exact h, by omega⟩
  | [], k, l, s + 1, h => by
    cases h
    exact ⟨0, [], 0, [], .nil, .nil, rfl⟩
  | d :: ds, _, _, s + 1, .cons (k := ka) (l := la) a b => by
    obtain ⟨k1, l1, k2, l2, h1, h2, h3⟩ := b.split s
    exact ⟨ka + k1, la ++ l1, k2, l2, .cons a h1, h2, by omega⟩
theorem BkR.put {blk : Str} {d e : PyData} {k : Nat} {l : List Str} (B : BkR blk d k l) (s : Nat) {le : List Str} (he : StG blk 2 e 1 le) (f : fz e = e) : ∃ ll, BkR blk (.tuple ((elems d).take s ++ [e] ++ (elems d).drop s)) (k + 1) ll := by
  obtain ⟨k1, l1, k2, l2, h1, h2, h3⟩ := B.st.split s
  have hfe := (fz_fix B.fx B.tl).2
  have z := (h1.app (.one he)).app h2
  rw [show k1 + 1 + k2 = k + 1 from by omega] at z
  refine ⟨_, rfl, z, fz_mk fun x hx => ?_⟩
  rcases List.mem_append.mp hx with hx | hx
  · rcases List.mem_append.mp hx with hx | hx
    · exact hfe x (List.mem_of_mem_take hx)
    · rw [List.mem_singleton.mp hx]
      exact f
  · exact hfe x (List.mem_of_mem_drop hx)
theorem deAll_take {K : PySem.W.Frag} {H : Hp} : ∀ {vs : List V} {ds : List PyData} (j : Nat), DeAll K H vs ds → DeAll K H (vs.take j) (ds.take j)
  | _, _, 0, _ => by
    rw [List.take_zero, List.take_zero]
    exact .nil
  | _, _, j + 1, .nil => .nil
  | _, _, j + 1, .cons a b => .cons a (deAll_take j b)
theorem deAll_drop {K : PySem.W.Frag} {H : Hp} : ∀ {vs : List V} {ds : List PyData} (j : Nat), DeAll K H vs ds → DeAll K H (vs.drop j) (ds.drop j)
  | _, _, 0, h => h
  | _, _, j + 1, .nil => .nil
  | _, _, j + 1, .cons a b => deAll_drop j b
theorem deAll_ix {K : PySem.W.Frag} {H : Hp} : ∀ {vs : List V} {ds : List PyData} {j : Nat} {d : PyData}, DeAll K H vs ds → ds[j]? = some d → ∃ v, vs[j]? = some v ∧ De K H v d
  | _, _, j, d, .nil, h => by simp at h
  | _, _, 0, d, .cons a b, h => by
    simp at h
    subst h
    exact ⟨_, rfl, a⟩
  | _, _, j + 1, d, .cons a b, h => by
    obtain ⟨v, h1, h2⟩ := deAll_ix b (by simpa using h)
    exact ⟨v, by simpa using h1, h2⟩
theorem noPart_go {K : PySem.W.Frag} {σ : St} {G : Hp} {x : V} {l : Option Int} {R : VK} (h : rSlA K x l none G R) : tNoPart σ G (fun u H3 => rSlA K x l u H3 R) := h
/-- right blocks, in their order -/
def BsR (bs : List PyData) : Prop := ∀ (j : Nat) (b : PyData), bs[j]? = some b → ∃ blk kk ll, blk3[j]? = some blk ∧ BkR blk b kk ll ∧ kk ≤ 30
def spRo (K : PySem.W.Frag) : Sp := fun vs H Q _ => ∃ (p l : Addr) (ns : List Int) (k lf : Int), vs = [.ref p] ∧ PenAt H p l ns k lf ∧ ns.length ≤ 63 ∧ 0 ≤ k ∧ k + 1000 ≤ 100000 ∧ 0 ≤ lf ∧
  ∀ (H' : Hp) (k' lf' : Int) (v : V) (b1 b2 b3 : PyData), k' ≤ k + 900 → 0 ≤ k' → 0 ≤ lf' → SameBut p H H' → PenAt H' p l ns k' lf' → De K H' v (.tuple [b1, b2, b3]) → KnB 31 b1 b2 b3 → Q v H'
section
variable {P : Program} {w : World} {K : PySem.W.Frag} {mg : Str → Option Value} {base : Heap} {f fD fPk fKn fLb fSz fSi : Addr} {fd fdD fdPk fdKn fdLb fdSz fdSi : FuncData}
abbrev NRo : List Str := ["pen", "known", "blocks", "way", "names", "drawn", "block", "at", "more", "spot", "name"]
theorem ok_ro (F : Fun K "_law_routine" "_law_routine" (top 58) f fd) (gTu : mg "tuple" = none) (gSu : mg "sum" = none) (gN : mg "len" = none)
    (gD : mg "_law_draw" = some (.ref fD)) (kD : PySem.W.keepIn K (.ref fD) = true) (GD : FnOk P w K mg base CX0 1 fD fdD ["pen", "many"] spDraw) (bD : Binds K fdD ["pen", "many"] [])
    (gPk : mg "_law_pick" = some (.ref fPk)) (kPk : PySem.W.keepIn K (.ref fPk) = true) (GPk : FnOk P w K mg base CX0 2 fPk fdPk ["pen", "some"] spPick) (bPk : Binds K fdPk ["pen", "some"] [])
    (gKn : mg "_law_known" = some (.ref fKn)) (kKn : PySem.W.keepIn K (.ref fKn) = true) (GKn : FnOk P w K mg base CX0 1 fKn fdKn ["name"] (spKn K)) (bKn : Binds K fdKn ["name"] [])
    (gLb : mg "_law_block" = some (.ref fLb)) (kLb : PySem.W.keepIn K (.ref fLb) = true) (GLb : FnOk P w K mg base CX0 10 fLb fdLb ["pen", "name", "most", "depth"] (spLb K 3)) (bLb : Binds K fdLb ["pen", "name", "most", "depth"] [])
    (gSz : mg "_law_size" = some (.ref fSz)) (kSz : PySem.W.keepIn K (.ref fSz) = true) (GSz : FnOk P w K mg base CX0 4 fSz fdSz ["block"] (spSz K 3)) (bSz : Binds K fdSz ["block"] [])
    (gSi : mg "_law_simple" = some (.ref fSi)) (kSi : PySem.W.keepIn K (.ref fSi) = true) (GSi : FnOk P w K mg base CX0 3 fSi fdSi ["pen", "name"] (spSi K)) (bSi : Binds K fdSi ["pen", "name"] []) :
    FnOk P w K mg base CX0 11 f fd ["pen"] (spRo K) := by
  have S0 : FnScope NRo ["pen"] (defScope (top 58)) := ⟨rfl, rfl, rfl, by decide +kernel, rfl, by decide +kernel, by decide +kernel⟩
  have nd := S0.nd
  refine F.ok S0 (fun vs H Q E h => ?_) (fun cdv A outer s H vs Q E hr h => ?_)
  · obtain ⟨p, l, ns, k, lf, rfl, _⟩ := h
    rfl
  · obtain ⟨p, l, ns, k, lf, rfl, P0, hn, i0, i1, i2, kk⟩ := h
    have hr1 : Room 1 _ := hr.mono (by decide)
    have hr2 : Room 2 _ := hr.mono (by decide)
    have hr3 : Room 3 _ := hr.mono (by decide)
    have hr4 : Room 4 _ := hr.mono (by decide)
    have hr10 : Room 10 _ := hr.mono (by decide)
    refine ⟨_, (pss_cons (ps_set (i := 1) nd rfl (Or.inl rfl) (pe_call GPk hr2 (by rfl) gPk kPk bPk .nil pass0 (pa_cons (pv 0) (pa_cons (pe_lst (pa_cons pe_str (pa_cons pe_str (pa_cons pe_str (pa_cons pe_str (pa_cons pe_str (pa_cons pe_str pa_nil))))))) pa_nil))))
        (pss_cons (ps_par3 (i := 2) (j := 3) (l := 4) rfl nd rfl rfl rfl (by decide) (by decide) (by decide) rfl rfl rfl (pa_cons (pe_call GKn hr1 (by rfl) gKn kKn bKn .nil pass0 (pa_cons (pv 1) pa_nil)) (pa_cons (pe_call GD hr1 (by rfl) gD kD bD .nil pass0 (pa_cons (pv 0) (pa_cons pe_int pa_nil))) (pa_cons (pe_lst (pa_cons pe_str (pa_cons pe_str (pa_cons pe_str pa_nil)))) pa_nil))) rfl)
        (pss_cons (ps_if (pt_cmpR op_eq (pv 3) pe_int (nomark _)) (pss_cons (ps_set (i := 5) nd rfl (Or.inl rfl) (pe_callTy call_tuple_of (by rfl) gTu PyProof.Rows.boot_tuple (pa_cons (pe_lc (own := [("name", 10)]) (g := gName 10) (tt := tYes) rfl nd (pi_list (pv 4)) (blkOk_by (N := NRo) (sc := defScope (top 58)) (by decide +kernel)) (fun _ _ _ _ _ => pg_name (i := 10) nd rfl (Or.inl rfl)) (fun _ _ _ _ _ => pts_nil) (fun _ _ _ _ _ => (pe_call GLb hr10 (by rfl) gLb kLb bLb .nil pass0 (pa_cons (pv 0) (pa_cons (pv 10) (pa_cons pe_int (pa_cons pe_int pa_nil))))))) pa_nil)))
        (pss_one (ps_ret (pe_ifExp (pt_cmpR op_le (pe_callB (cr_sum rfl) (by rfl) gSu PyProof.Rows.boot_sum (pa_cons (pe_lc (own := [("block", 6)]) (g := gName 6) (tt := tYes) rfl nd (pi_tup (pv 5)) (blkOk_by (N := NRo) (sc := defScope (top 58)) (by decide +kernel)) (fun _ _ _ _ _ => pg_name (i := 6) nd rfl (Or.inl rfl)) (fun _ _ _ _ _ => pts_nil) (fun _ _ _ _ _ => (pe_call GSz hr4 (by rfl) gSz kSz bSz .nil pass0 (pa_cons (pv 6) pa_nil)))) pa_nil)) pe_int (nomark _)) (pv 5) (pv 2))))) pss_nil)
        (pss_cons (ps_if (pt_cmpR op_eq (pv 3) pe_int (nomark _)) (pss_cons (ps_set (i := 7) nd rfl (Or.inl rfl) (pe_call GD hr1 (by rfl) gD kD bD .nil pass0 (pa_cons (pv 0) (pa_cons pe_int pa_nil))))
        (pss_cons (ps_par (i := 8) (j := 9) rfl nd rfl rfl (by decide) rfl rfl (pa_cons (pe_tup (pa_cons (pe_call GSi hr3 (by rfl) gSi kSi bSi .nil pass0 (pa_cons (pv 0) (pa_cons (pe_ix (r := rIx K) ix_seq (pv 4) (pv 7) (fun _ _ => rfl)) pa_nil))) pa_nil)) (pa_cons (pe_call GD hr1 (by rfl) gD kD bD .nil pass0 (pa_cons (pv 0) (pa_cons (pe_op op_add (pe_callB call_len_seq (by rfl) gN PySem.boot_len (pa_cons (pe_ix (r := rIx K) ix_seq (pv 2) (pv 7) (fun _ _ => rfl)) pa_nil)) pe_int) pa_nil))) pa_nil)) rfl)
        (pss_cons (ps_set (i := 6) nd rfl (Or.inl rfl) (pe_op op_catA (pe_op op_catA (pe_slice sl_tupA (pe_ix (r := rIx K) ix_seq (pv 2) (pv 7) (fun _ _ => rfl)) po_none (po_some (pv 9))) (pv 8)) (pe_slice sl_tupA (pe_ix (r := rIx K) ix_seq (pv 2) (pv 7) (fun _ _ => rfl)) (po_some (pv 9)) po_none)))
        (pss_one (ps_ret (pe_op op_catA (pe_op op_catA (pe_slice sl_tupA (pv 2) po_none (po_some (pv 7))) (pe_tup (pa_cons (pv 6) pa_nil))) (pe_slice sl_tupA (pv 2) (po_some (pe_op op_add (pv 7) pe_int)) po_none))))))) pss_nil)
        (pss_one (ps_ret (pv 2))))))), ?_⟩
    have b5 : (5000 : Nat) < sizeLine := by decide
    have keepP : ∀ {G G' : Hp} {k' lf' : Int}, PenAt G p l ns k' lf' → Same G G' → PenAt G' p l ns k' lf' := fun {G G' k' lf'} h s => ⟨s _ _ h.dc, s _ _ h.ls⟩
    refine ⟨V.ref p, rfl, (by show 6 ≤ sizeLine; decide), fun q nq => ?_⟩
    have s0 := upd_new (o := .lst (known6.map V.str)) nq
    have hq0 : upd H q (.lst (known6.map V.str)) q = some (.lst (known6.map V.str)) := upd_same
    have PQ := keepP P0 s0
    refine ⟨p, l, .ref q, ns, k, lf, known6.map V.str, rfl, PQ, hn, i0, by omega, i2, .inl ⟨q, rfl, hq0⟩, by decide, by decide, fun G1 k1 lf1 y e1 e2 e3 hy s1 P1 => ?_⟩
    obtain ⟨x, hx, rfl⟩ := List.mem_map.mp hy
    have sb1 := (SameBut.of (p := p) s0).trans s1
    refine ⟨V.str x, rfl, x, rfl, hx, fun G2 v2 b1 b2 b3 s2 hv2 hk2 => ?_⟩
    have hk2 : KnB 30 b1 b2 b3 := hk2
    have P2 := keepP P1 s2
    refine ⟨V.ref p, rfl, p, l, ns, k1, lf1, 4, rfl, P2, hn, e2, by omega, e3, by decide, by decide, fun G3 k3 lf3 d f1 f2 f3 f4 f5 s3 P3 => ⟨(by show 3 ≤ sizeLine; decide), fun na nna => ⟨v2, V.int d, .ref na, rfl, ?_⟩⟩⟩
    have s4 := upd_new (o := .lst (blk3.map V.str)) nna
    have hn4 : upd G3 na (.lst (blk3.map V.str)) na = some (.lst (blk3.map V.str)) := upd_same
    have P4 := keepP P3 s4
    have hv4 := de_mono s4 _ _ (de_but P2.dc s3 hv2)
    have sb4 := ((sb1.trans (.of s2)).trans s3).trans (.of s4)
    have hGe : upd G3 na (.lst [.str "down", .str "turn", .str "up"]) = upd G3 na (.lst (blk3.map V.str)) := rfl
    rw [hGe]
    generalize upd G3 na (.lst (blk3.map V.str)) = G4 at hn4 P4 hv4 sb4
    clear s4 s3 s2 s1 s0 hGe
    refine ⟨V.int d, rfl, rfl, _, rfl, ite2 (fun c => ?_) (fun c => ?_)⟩
    · have e90 : eD 2 = 90 := by decide
      have c10 : c1 2 = 10 := by decide
      refine ⟨V.ref na, rfl, na, rfl, ⟨_, .inl (.inl hn4)⟩, fun D nD => lc_it (walk_list (K := K) (xs := blk3.map V.str)) (fun i G => ∃ (k' lf' : Int) (acc : List V) (bs : List PyData), SameBut p G4 G ∧ PenAt G p l ns k' lf' ∧ 0 ≤ k' ∧ k' ≤ k3 + 271 * i ∧ 0 ≤ lf' ∧ G D = some (.lst acc) ∧ acc.length = i ∧ DeAll K G acc bs ∧ BsR bs ∧ ∀ e ∈ bs, fz e = e)
        ⟨k3, lf3, [], [], .of (upd_new nD), keepP P4 (upd_new nD), f2, by omega, f3, upd_same, rfl, .nil, fun j b h => by simp at h, fun e he => by cases he⟩ (fun i G _ q => ?_) ?_ ?_⟩
      · obtain ⟨k', lf', acc, bs, sG, _⟩ := q
        exact .inl (.inl (sG _ _ (ne_of hn4 P4.dc (by intro z; cases z)) hn4))
      · rintro i x G G' hi ⟨k5, lf5, acc, bs, sG, PG, g1, g2, g3, hD, hal, hde, hbs, hfx⟩ ⟨rfl, hx⟩
        obtain ⟨blk, hblk, rfl⟩ := map_at (enc := V.str) (ws := blk3) hx
        have hi3 : i < 3 := hi
        have hbl := List.mem_of_getElem? hblk
        refine ⟨rfl, V.ref p, rfl, V.str blk, rfl, p, l, ns, k5, lf5, blk, 3, 2, rfl, by decide, by decide, by decide, hbl, PG, hn, g1, (by rw [e90]; omega), g3, fun G6 k6 lf6 u b kb lb h1 h2 h3 s6 P6 hu ht hf hst hkb => ?_⟩
        rw [e90] at h1
        rw [c10] at hkb
        have hD6 := s6 _ _ (ne_of hD PG.dc (by intro z; cases z)) hD
        have hde6 := de_butAll PG.dc s6 hde
        have fx : ∀ e ∈ bs ++ [b], fz e = e := fun e he => by
          rcases List.mem_append.mp he with he | he
          · exact hfx e he
          · rw [List.mem_singleton.mp he]
            exact hf
        have hlb : bs.length = i := by rw [← deAll_len hde, hal]
        have nDp : D ≠ p := fun z => by rw [z, P4.dc] at nD; cases nD
        have nDl : D ≠ l := fun z => by rw [z, P4.ls] at nD; cases nD
        refine ⟨acc, hD6, by omega, k6, lf6, acc ++ [u], bs ++ [b], fun a o ha e => ?_, ⟨by rw [upd_ne (Ne.symm nDp)]; exact P6.dc, by rw [upd_ne (Ne.symm nDl)]; exact P6.ls⟩, h2, by omega, h3, upd_same, by rw [List.length_append, hal]; rfl, deAll_keep fx (keepN_app hD6) (deAll_app hde6 (.cons hu .nil)), fun j b' hj => ?_, fx⟩
        · rw [upd_ne (ne_of_none e nD)]
          exact (sG.trans s6) _ _ ha e
        · by_cases hji : j < bs.length
          · rw [List.getElem?_append_left hji] at hj
            exact hbs j b' hj
          · have ej : j = bs.length := by
              have z := (List.getElem?_eq_some_iff.mp hj).1
              rw [List.length_append, List.length_singleton] at z
              omega
            subst ej
            rw [List.getElem?_concat_length] at hj
            injection hj with hj
            subst hj
            exact ⟨blk, kb, lb, by rw [hlb]; exact hblk, ⟨ht, hst, hf⟩, by omega⟩
      · rintro G ⟨k5, lf5, acc, bs, sG, PG, g1, g2, g3, hD, hal, hde, hbs, hfx⟩
        have hal : acc.length = 3 := hal
        refine ⟨D, acc, rfl, .inl ⟨.inl (.inl hD), fun t nt => ?_⟩⟩
        have s6 := upd_new (o := .tup acc) nt
        have ht6 : upd G t (.tup acc) t = some (.tup acc) := upd_same
        have P6 := keepP PG s6
        have hde6 := de_monoAll s6 _ _ hde
        have hv6 := de_mono s6 _ _ (de_but P4.dc sG hv4)
        have sb6 := (sb4.trans sG).trans (.of s6)
        generalize upd G t (.tup acc) = G6 at ht6 P6 hde6 hv6 sb6
        have hbl : bs.length = 3 := by rw [← deAll_len hde, hal]
        match acc, bs, hal, hbl, hde6, hbs, ht6 with
        | [u1, u2, u3], [d1, d2, d3], _, _, hde6, hbs, ht6 =>
        obtain ⟨k1', l1', m1, w1, B1, y1⟩ := hbs 0 d1 rfl
        obtain ⟨k2', l2', m2, w2, B2, y2⟩ := hbs 1 d2 rfl
        obtain ⟨k3', l3', m3, w3, B3, y3⟩ := hbs 2 d3 rfl
        cases w1
        cases w2
        cases w3
        cases hde6 with
        | cons z1 hde6 =>
        cases hde6 with
        | cons z2 hde6 =>
        cases hde6 with
        | cons z3 hde6 =>
        have rows : ∀ (i : Nat) (x : V × Nat), [(u1, l1'), (u2, l2'), (u3, l3')][i]? = some x → ∃ (d : PyData) (blk : Str) (ll : List Str), De K G6 x.1 d ∧ BkR blk d x.2 ll ∧ x.2 ≤ 30 := fun i x hx => by
          have hm := List.mem_of_getElem? hx
          simp only [List.mem_cons, List.mem_nil_iff, or_false] at hm
          rcases hm with rfl | rfl | rfl
          · exact ⟨_, _, _, z1, B1, y1⟩
          · exact ⟨_, _, _, z2, B2, y2⟩
          · exact ⟨_, _, _, z3, B3, y3⟩
        refine ⟨V.ref t, rfl, t, rfl, ⟨_, .inl (.inl ht6)⟩, fun D2 nD2 => lcS_tup (K := K) (ws := [(u1, l1'), (u2, l2'), (u3, l3')]) (fun x => x.1) nD2 (fun x => V.int (x.2 : Nat)) (fun _ => true) (.inl (.inl ht6)) (by show 3 < sizeLine; decide) (fun i x G hx sG A B kA kB => ?_) fun G sG hD => ?_⟩
        · obtain ⟨dx, bx, lx, hdx, Bx, hkx⟩ := rows i x hx
          exact ⟨rfl, x.1, rfl, x.1, dx, bx, 2, x.2, lx, rfl, de_mono sG _ _ hdx, Bx.fx, Bx.tl, Bx.st, by decide, by omega, fun H' s => kA rfl H' s⟩
        · have hD : G D2 = some (.lst ([(l1' : Int), (l2' : Int), (l3' : Int)].map V.int)) := hD
          refine ⟨D2, [(l1' : Int), (l2' : Int), (l3' : Int)], rfl, .inl (.inl hD), ?_⟩
          refine ⟨_, 30, rfl, rfl, _, rfl, ite2 (fun cc => ?_) (fun cc => ?_)⟩
          · have cc := of_decide_eq_true cc
            simp only [List.sum_cons, List.sum_nil] at cc
            exact ⟨V.ref t, rfl, kk G k5 lf5 (.ref t) d1 d2 d3 (by omega) g1 g3 (sb6.trans (.of sG)) (keepP P6 sG) (.tup (sG _ _ ht6) (de_monoAll sG _ _ (.cons z1 (.cons z2 (.cons z3 .nil))))) ⟨l1', m1, l2', m2, l3', m3, B1, B2, B3, by omega⟩⟩
          · exact ⟨v2, rfl, kk G k5 lf5 v2 b1 b2 b3 (by omega) g1 g3 (sb6.trans (.of sG)) (keepP P6 sG) (de_mono sG _ _ hv6) (hk2.mono (by decide))⟩
    · refine ⟨V.int d, rfl, rfl, _, rfl, ite2 (fun c1 => ?_) (fun c1 => ?_)⟩
      · refine ⟨V.ref p, rfl, p, l, ns, k3, lf3, 3, rfl, P4, hn, f2, by omega, f3, by decide, by decide, fun G5 k5 lf5 d5 g1 g2 g3 g4 g5 s5 P5 => ?_⟩
        obtain ⟨j, hj⟩ : ∃ j : Nat, d5 = (j : Int) := ⟨d5.toNat, (Int.toNat_of_nonneg g4).symm⟩
        subst hj
        obtain ⟨b, blk, kb, lb, hb1, hb2, hb3, B, hkb, fin⟩ := kn_at hk2 j (by omega)
        have hv5 := de_but P4.dc s5 hv4
        have hn5 := s5 _ _ (ne_of hn4 P4.dc (by intro z; cases z)) hn4
        obtain ⟨a2, us, rfl, ha5, hus⟩ : ∃ (a2 : Addr) (us : List V), v2 = .ref a2 ∧ G5 a2 = some (.tup us) ∧ DeAll K G5 us [b1, b2, b3] := by
          cases hv5 with
          | tup a b => exact ⟨_, _, rfl, a, b⟩
        obtain ⟨u, huj, hde⟩ := deAll_ix hus hb1
        obtain ⟨ab, ws, rfl, hab, hws⟩ := fz_tup hde B.fx B.tl
        have hul := deAll_len hus
        have hwl := deAll_len hws
        have hsl := B.st.len
        have hul : us.length = 3 := hul
        have bix : ∀ {G : Hp} (R : VK), Same G5 G → R (.ref ab) G → rIx K (.ref a2) (.int (j : Nat)) G R := fun {G} R s hR => .inr (.inl ⟨a2, us, (j : Int), .ref ab, rfl, rfl, .inl (.inl (s _ _ ha5)), atI_nat huj, hR⟩)
        have hblkj : (blk3.map V.str)[j]? = some (.str blk) := by rw [List.getElem?_map, hb2]; rfl
        refine ⟨V.ref p, rfl, V.ref na, rfl, V.int (j : Nat), rfl, .inl ⟨na, blk3.map V.str, (j : Int), .str blk, rfl, rfl, .inl (.inl hn5), atI_nat hblkj, ?_⟩⟩
        refine ⟨p, l, ns, k5, lf5, blk, rfl, hb3, P5, hn, g2, by omega, g3, fun G6 k6 lf6 v6 d6 h1 h2 h3 s6 P6 hv6 hs6 => ⟨(by show 1 ≤ sizeLine; decide), fun t7 nt7 => ?_⟩⟩
        have s7 := upd_new (o := .tup [v6]) nt7
        have ht7 : upd G6 t7 (.tup [v6]) t7 = some (.tup [v6]) := upd_same
        have P7 := keepP P6 s7
        have hv7 := de_mono s7 _ _ hv6
        have sb7 := (sb4.trans s5).trans (s6.trans (.of s7))
        have up : ∀ {a : Addr} {o : HO}, a ≠ p → G5 a = some o → upd G6 t7 (.tup [v6]) a = some o := fun {a o} ha e => s7 _ _ (s6 _ _ ha e)
        have ha7 := up (ne_of ha5 P5.dc (by intro z; cases z)) ha5
        have hab7 := up (ne_of hab P5.dc (by intro z; cases z)) hab
        have hus7 := de_monoAll s7 _ _ (de_butAll P5.dc s6 hus)
        have hws7 := de_monoAll s7 _ _ (de_butAll P5.dc s6 hws)
        generalize upd G6 t7 (.tup [v6]) = G7 at ht7 P7 hv7 sb7 ha7 hab7 hus7 hws7
        clear up s7 bix
        have bix : ∀ {G : Hp} (R : VK), Same G7 G → R (.ref ab) G → rIx K (.ref a2) (.int (j : Nat)) G R := fun {G} R s hR => .inr (.inl ⟨a2, us, (j : Int), .ref ab, rfl, rfl, .inl (.inl (s _ _ ha7)), atI_nat huj, hR⟩)
        refine ⟨V.ref p, rfl, V.ref a2, rfl, V.int (j : Nat), rfl, bix _ (Same.refl _) ⟨ab, ws, rfl, .inr (.inl (.inl hab7)), _, 1, rfl, rfl, ?_⟩⟩
        refine ⟨p, l, ns, k6, lf6, _, rfl, P7, hn, h2, by omega, h3, by omega, by omega, fun G8 k8 lf8 d8 q1 q2 q3 q4 q5 s8 P8 => ⟨.ref t7, .int d8, rfl, ?_⟩⟩
        obtain ⟨sp, hsp⟩ : ∃ sp : Nat, d8 = (sp : Int) := ⟨d8.toNat, (Int.toNat_of_nonneg q4).symm⟩
        subst hsp
        have hspl : sp ≤ ws.length := by omega
        have up : ∀ {a : Addr} {o : HO}, a ≠ p → G7 a = some o → G8 a = some o := fun {a o} ha e => s8 _ _ ha e
        have ha8 := up (ne_of ha7 P7.dc (by intro z; cases z)) ha7
        have hab8 := up (ne_of hab7 P7.dc (by intro z; cases z)) hab7
        have ht8 := up (ne_of ht7 P7.dc (by intro z; cases z)) ht7
        have hus8 := de_butAll P7.dc s8 hus7
        have hws8 := de_butAll P7.dc s8 hws7
        have hv8 := de_but P7.dc s8 hv7
        have sb8 := sb7.trans s8
        clear up bix
        have bix : ∀ {G : Hp} (R : VK), Same G8 G → R (.ref ab) G → rIx K (.ref a2) (.int (j : Nat)) G R := fun {G} R s hR => .inr (.inl ⟨a2, us, (j : Int), .ref ab, rfl, rfl, .inl (.inl (s _ _ ha8)), atI_nat huj, hR⟩)
        refine ⟨V.ref a2, rfl, V.int (j : Nat), rfl, bix _ (Same.refl _) ⟨V.int (sp : Nat), rfl, (sp : Int), rfl, sl_any hab8 fun G9 r9 s9 hr9 => ?_⟩⟩
        rw [cut_to ws hspl] at hr9
        refine ⟨V.ref t7, rfl, cat_any hr9 (s9 _ _ ht8) (by rw [List.length_take, List.length_singleton]; omega) fun G10 r10 s10 hr10 => ?_⟩
        have s910 := s9.trans s10
        refine ⟨V.ref a2, rfl, V.int (j : Nat), rfl, bix _ s910 ⟨V.int (sp : Nat), rfl, (sp : Int), rfl, ?_⟩⟩
        refine noPart_go (sl_any (s910 _ _ hab8) fun G11 r11 s11 hr11 => ?_)
        rw [cut_from ws hspl] at hr11
        refine cat_any (s11 _ _ hr10) hr11 (by rw [List.length_append, List.length_take, List.length_singleton, List.length_drop]; omega) fun G12 r12 s12 hr12 => ?_
        have s812 := s910.trans (s11.trans s12)
        have ha12 := s812 _ _ ha8
        have hws12 := de_monoAll s812 _ _ hws8
        have hus12 := de_monoAll s812 _ _ hus8
        have hv12 := de_mono s812 _ _ hv8
        have hnew : De K G12 (.ref r12) (.tuple ((elems b).take sp ++ [d6] ++ (elems b).drop sp)) := .tup hr12 (deAll_app (deAll_app (deAll_take sp hws12) (.cons hv12 .nil)) (deAll_drop sp hws12))
        have P12 := keepP P8 s812
        have sb12 := sb8.trans (.of s812)
        obtain ⟨l6, hg6⟩ := smR_g hs6
        obtain ⟨ll, B'⟩ := B.put sp (hg6.le (Nat.zero_le _)) (sm_fz hs6)
        obtain ⟨c1', c2', c3', hce, hkn⟩ := fin _ _ B'
        refine ⟨V.ref a2, rfl, V.int (j : Nat), rfl, (j : Int), rfl, sl_any ha12 fun G13 r13 s13 hr13 => ?_⟩
        rw [cut_to us (by omega)] at hr13
        refine ⟨V.ref r12, rfl, (by show 1 ≤ sizeLine; decide), fun t14 nt14 => ?_⟩
        have s14 := upd_new (o := .tup [.ref r12]) nt14
        have ht14 : upd G13 t14 (.tup [.ref r12]) t14 = some (.tup [.ref r12]) := upd_same
        generalize upd G13 t14 (.tup [.ref r12]) = G14 at s14 ht14
        refine cat_any (s14 _ _ hr13) ht14 (by rw [List.length_take, List.length_singleton]; omega) fun G15 r15 s15 hr15 => ?_
        have s1215 := s13.trans (s14.trans s15)
        refine ⟨V.ref a2, rfl, V.int (j : Nat), rfl, (j : Int), 1, rfl, rfl, ((j + 1 : Nat) : Int), rfl, ?_⟩
        refine noPart_go (sl_any (s1215 _ _ ha12) fun G16 r16 s16 hr16 => ?_)
        rw [cut_from us (by omega)] at hr16
        refine cat_any (s16 _ _ hr15) hr16 (by rw [List.length_append, List.length_take, List.length_singleton, List.length_drop]; omega) fun G17 r17 s17 hr17 => ?_
        have s1217 := s1215.trans (s16.trans s17)
        have hus17 := de_monoAll s1217 _ _ hus12
        have hall := deAll_app (deAll_app (deAll_take j hus17) (.cons (de_mono s1217 _ _ hnew) .nil)) (deAll_drop (j + 1) hus17)
        rw [hce] at hall
        exact kk G17 k8 lf8 (.ref r17) c1' c2' c3' (by omega) q2 q3 (sb12.trans (.of s1217)) (keepP P12 s1217) (.tup hr17 hall) hkn
      · exact ⟨v2, rfl, kk G4 k3 lf3 v2 b1 b2 b3 (by omega) f2 f3 sb4 P4 hv4 (hk2.mono (by decide))⟩
end
end SK
namespace SK
open PySem PySem.Spec PyProof.Rows L2
/-! ### a comprehension whose elements may raise -/
/-- what a call within a block let out -/
def AirB (Y : Cx) (E0 : XK) (u : Value) (s' : Shared) : Prop := ∃ (pins : List (Addr × Obj)) (σ : L2.St) (H : Hp) (s : Shared), Inv Y pins σ H s ∧ L2.CX Y.prog Y.w Y.stack H s E0 u s'
abbrev withXe (Y : Cx) (xe : Value → Shared → Prop) : Cx := { Y with xe := xe }
section
variable {Y : Cx} {pins : List (Addr × Obj)} {σ : L2.St} {H : Hp} {s : Shared}
theorem ok_xe (k : Y.Ok) (xe : Value → Shared → Prop) : (withXe Y xe).Ok := ⟨k.mod, k.kind, k.glob, k.blt, k.above, k.inj, k.has, k.cab, k.hd, k.frames, k.stk, k.exf, k.bs, k.bsz, k.noex, k.exfs, k.funs, k.frf⟩
theorem ok_unxe {xe : Value → Shared → Prop} (k : (withXe Y xe).Ok) : Y.Ok := ⟨k.mod, k.kind, k.glob, k.blt, k.above, k.inj, k.has, k.cab, k.hd, k.frames, k.stk, k.exf, k.bs, k.bsz, k.noex, k.exfs, k.funs, k.frf⟩
theorem inv_xe (I : Inv Y pins σ H s) (xe : Value → Shared → Prop) : Inv (withXe Y xe) pins σ H s := ⟨ok_xe I.ok xe, I.os, I.bare, I.base, I.loc, I.cell, I.free, I.freeC, I.pin, I.hok, I.len⟩
theorem inv_unxe {xe : Value → Shared → Prop} (I : Inv (withXe Y xe) pins σ H s) : Inv Y pins σ H s := ⟨ok_unxe I.ok, I.os, I.bare, I.base, I.loc, I.cell, I.free, I.freeC, I.pin, I.hok, I.len⟩
end
abbrev blkX (X : Cx) (E0 : XK) (s : Shared) (H : Hp) (scope : Scope) (ce : Env) (fp : List Addr) : Cx := withXe (X.blk s H scope ce fp) (AirB (X.blk s H scope ce fp) E0)
theorem passB {X : Cx} {E0 : XK} {s3 : Shared} {H3 : Hp} {scope : Scope} {ce : Env} {fp : List Addr} : Passes (L2.CX X.prog X.w) (blkX X E0 s3 H3 scope ce fp) E0 := fun pins σ H s e s' I c => ⟨pins, σ, H, s, inv_unxe I, c⟩
theorem air_noted {X : Cx} {E0 : XK} {pins : List (Addr × Obj)} {σ : L2.St} {H3 : Hp} {s3 : Shared} {scope : Scope} {ce : Env} {fp : List Addr} (hs : X.stack = X.env :: X.outer) (hf : X.env.frame = some X.env.locals) (tk : Takes X (fun cls d _ H => E0 cls d H))
    (I3 : Inv X pins σ H3 s3) (f3 : ∀ b ∈ fp, FpOk X pins H3 b) (cL : ce.locals = s3.heap.objs.size) (cF : ce.frame = X.env.frame) {u : Value} {s' : Shared} (x : AirB (X.blk s3 H3 scope ce fp) E0 u s') :
    notedBy (model X.prog X.w) X.A ce (CompFails (model X.prog X.w) X.A X.xe ce) u s' := by
  obtain ⟨pinsB, σB, H, s, I, c⟩ := x
  have IX : Inv X pins σ H s := I3.call' (ch := fp) I.os I.base I.hok I.bare fun b hb => ⟨(f3 b hb).2.2.2.1, (f3 b hb).2.1, (f3 b hb).2.2.2.2.1, (f3 b hb).2.2.2.2.2⟩
  have IX0 : Inv X [] σ H s := IX.pins_of fun p hp => nomatch hp
  -- the block's names
  obtain ⟨m, hn, _⟩ := I.loc
  have hn : s.heap.Ns ce.locals m := hn
  have nC : H ce.locals = none := I.free
  obtain ⟨oC, es, ep, hoC, hdC, rC⟩ := id hn
  have Cfr : ce.locals ∉ frs X.stack := fun hb => by
    obtain ⟨_, o, ho, _⟩ := I3.stack.mem hb
    have z := Heap.lt_size ho
    rw [cL] at z
    exact Nat.lt_irrefl _ z
  obtain ⟨a, B, H', cls, d, rfl, fl, hok, ub, na, os, ag, hE⟩ := c
  have stB : B.StaysIn s'.heap := fl.1
  have hC' : s'.heap.get? ce.locals = some oC := stB _ _ (ub.keep _ _ hoC nC Cfr)
  have hn' : s'.heap.Ns ce.locals m := ⟨oC, es, ep, hC', hdC, rC⟩
  have nC' : H' ce.locals = none := ub.free _ _ hoC nC
  have xe := XE.of_call (W := fun cls d _ H => E0 cls d H ∧ H ce.locals = none) (E := fun cls d H => E0 cls d H ∧ H ce.locals = none) IX0 (fun _ _ _ h => h) ⟨a, B, H', cls, d, rfl, fl, hok, ub, na, os, ag, hE, nC'⟩
  obtain ⟨a2, B2, sI, pins2, σ2, H2, cls2, d2, e2, I2, nb, up, sky, na2, os2, ag2, w2, nC2⟩ := xe
  cases e2
  have I2 : Inv X [] σ2 H2 sI := I2.pins_of fun p hp => nomatch hp
  have fl2 : HandSPX.FlyingZ B2 (X.env :: X.outer) a (Zc cls2 d2) s'.heap := by
    rw [hs] at sky
    obtain ⟨_, _, _, oe, vs, T, oT, ts, g1, g2, g3, g4, g5, g6, g7, g8, g9⟩ := fl
    rcases sky with ⟨_, _, _, oe', vs', k1, k2, k3, k4⟩ | h | ⟨_, _, _, oe', vs', T', oT', ts', k1, k2, k3, k4, k5, k6, k7, k8, k9⟩
    · rw [g1] at k1
      cases k1
      rw [g3] at k3
      cases k3
      rw [g4] at k4
      cases k4
    · exact h
    · rw [g1] at k1
      cases k1
      rw [g3] at k3
      cases k3
      rw [g4] at k4
      cases k4
      rw [g7] at k7
      cases k7
      rw [g8] at k8
      cases k8
      rw [g9] at k9
      cases k9
  have hfr : X.A.frames = some (X.env :: X.outer) := by rw [IX.ok.frames, hs]
  show wpAny (model X.prog X.w) X.A (noteFrame (.ref a) ce) _ _ s'
  rw [noteFrame_env _ cF]
  refine HandSPX.looks_onZ Zc.steady hfr hf fl2 fun h1 hH up1 => ?_
  have hn1 : h1.Ns ce.locals m := up1.ns hn'
  refine ⟨m, hn1, fun h2 m2 hn2 sb => ?_⟩
  have dict2 : ∀ {b : Addr} {o : Obj} {vs : Array Value}, h1.get? b = some o → o.data = .fields vs → b ≠ ce.locals := fun {b o vs} e q z => by
    obtain ⟨oD, _, _, e1, q1, _⟩ := hn1
    rw [z, e1] at e
    cases e
    rw [q1] at q
    cases q
  have hid : ∀ {h : Heap} {b : Addr} {o : Obj}, (PySem.W.hideAll h [ce.locals]).get? b = some o → h.get? b = some o ∧ b ≠ ce.locals := fun {h b o} e => ⟨PySem.W.of_hideAll _ e, fun z => by
    rw [z, PySem.W.hideAll_none [ce.locals] (by simp)] at e
    cases e⟩
  have held : HandSPX.HeldZ (PySem.W.hideAll B2 [ce.locals]) (X.env :: X.outer) a (Zc cls2 d2) X.env.locals h2 := by
    obtain ⟨q1, q2, q3, oe, vs, T, oT, ts, g1, g2, g3, g4, g5, g6, g7, g8, g9⟩ := hH
    refine ⟨fun b o e => ?_, ?_, funFrames_none (Heap.FunFrames.sameBut sb hn2 q3) fun L hL => ?_, oe, vs, T, oT, ts, (sb.2 a (dict2 g1 g3)).trans g1, g2, g3, g4, ?_, g6, (sb.2 T (dict2 g7 g8)).trans g7, g8, g9⟩
    · obtain ⟨e1, e2⟩ := hid e
      exact (sb.2 b e2).trans (q1 b o e1)
    · cases z : (PySem.W.hideAll B2 [ce.locals]).get? a with
      | none => rfl
      | some o =>
        have y := (hid z).1
        rw [q2] at y
        cases y
    · cases z : (PySem.W.hideAll B2 [ce.locals]).get? L with
      | none => rfl
      | some o =>
        have y := (hid z).1
        rw [(q3.mem hL).1] at y
        cases y
    · cases z : (PySem.W.hideAll B2 [ce.locals]).get? T with
      | none => rfl
      | some o =>
        have y := (hid z).1
        rw [g5] at y
        cases y
  obtain ⟨oe, vs, T, oT, ts, g1, g2, g3, g4, g5⟩ := held.2.2.2
  unfold PySem.passOn
  refine wpAny_bind (wpAny_field g1 g3 g4 ?_)
  rw [if_neg (show ¬ ((Value.ref T == Value.none) = true) from by simp), cF, hf]
  refine wpAny_bind (HandSPX.setFlight_onZ held fun h3 hH3 up3 => ?_)
  refine wpAny_throw ?_
  have fC : FpOk X [] H2 ce.locals := by
    have z := (I3.pins_of (pins' := []) fun p hp => nomatch hp).fpOk (b := ce.locals) (H' := H2) (by rw [cL]; exact Nat.le_refl _) nC2
    exact z
  have IJ := I2.turned (t' := sI.toks) (it := ce.locals) (h' := PySem.W.hideAll sI.heap [ce.locals]) (fun b o hb e => PySem.W.hideAll_get _ e (by simpa using hb)) fC.1 fC.2.1 fC.2.2.2.1 fC.2.2.2.2.1 fC.2.2.2.2.2
  refine tk _ _ ⟨a, PySem.W.hideAll B2 [ce.locals], _, [], σ2, H2, cls2, d2, rfl, IJ, fun b o e hb => ?_, fun b o e hnf => ?_, .inr (.inr ?_), na2, os2, ag2, w2⟩
  · obtain ⟨e1, e2⟩ := hid e
    exact PySem.W.hideAll_get _ (nb b o e1 hb) (by simpa using e2)
  · obtain ⟨e1, e2⟩ := hid e
    obtain ⟨sl, y1⟩ := up b o e1 hnf
    obtain ⟨sl1, y2⟩ := up1 b _ y1 hnf
    have y3 := (sb.2 b e2).trans y2
    obtain ⟨sl2, y4⟩ := up3 b _ y3 hnf
    exact ⟨sl2, y4⟩
  · rw [hs]
    exact hH3
end SK
namespace SK
open PySem PySem.Spec PyProof.Rows L2
theorem pe_lcX {X : Cx} {E0 : XK} {elt tg iter : Expr} {ifs : List Expr} {scope : Scope} {own : List (Str × Nat)} {pos : Pos} {wi : TI} {g : TG} {tt : TT} {te : TE} (hst : X.stack = X.env :: X.outer) (hfm : X.env.frame = some X.env.locals) (tk : Takes X (fun cls d _ H => E0 cls d H)) (hc : X.calm = true) (hN : X.N.Nodup) (hi : PI X tg iter wi) (ok : BlkOk X.N X.env.scope scope own)
    (hg : ∀ (s : Shared) (H : Hp) (C : Addr) (cl : List (Str × Addr)) (fp : List Addr), PG (blkX X E0 s H scope (compEnvC scope cl C X.env) fp) tg g)
    (ht : ∀ (s : Shared) (H : Hp) (C : Addr) (cl : List (Str × Addr)) (fp : List Addr), PTs (blkX X E0 s H scope (compEnvC scope cl C X.env) fp) ifs tt)
    (he : ∀ (s : Shared) (H : Hp) (C : Addr) (cl : List (Str × Addr)) (fp : List Addr), PE (blkX X E0 s H scope (compEnvC scope cl C X.env) fp) elt te)
    (hs : ∀ x, foldedSetIterable iter X.env x = pure x := by intro _; rfl) : PE X (.ListComp elt [⟨tg, iter, ifs, 0⟩] scope pos) (tLc wi g tt te (own.map (·.2))) := by
  refine ⟨fun pins s σ H Q I h => ?_⟩
  rw [eval_ListComp]
  have hfr : ∀ y ∈ scope.names, y.2 = .free → ∃ c, X.env.cells.lookup y.1 = some c := fun y hy e => by
    rcases ok.free y hy e with k | k
    · exact I.ok.has _ (.inl k)
    · exact I.ok.has _ (.inr k)
  refine comprehension_at (use := none) rfl hs (closure_ok hfr) ok.kind (fun y hy e => by rw [ok.uniq y hy, e])
    (thn (hi.run pins s σ H _ I h) fun xv t1 hxx => thn hxx fun itv t2 g2 => ?_)
  obtain ⟨it, fp, tn, J, H2, e, J2, T, w2, u2, q⟩ := g2
  subst e
  refine wpAny_newObj_type (newEnv_comp ?_) (by show 0 ≤ sizeLine; decide)
  generalize eD : t2.heap.objs.size = D
  have nD : H2 D = none := J2.hok.fresh (Nat.le_of_eq eD)
  obtain ⟨W, ⟨k0, v0⟩, trn⟩ := q D nD
  -- the new list
  generalize eT3 : ({ t2 with heap := t2.heap.push { cls := .type "list", data := .seq ([] : List Value).toArray } } : Shared) = t3
  have J3 : Inv X pins σ (upd H2 D (.lst [])) t3 := by
    rw [← eT3]
    refine J2.laid (t' := t2.toks) (fun b o e => Heap.get?_push_of_some _ e) (Nat.le_of_eq eD) ⟨Nat.zero_le _, [], 0, .nil, ?_⟩
    rw [← eD]
    exact Heap.get?_push_size _ rfl
  have g3 : t3.heap = t2.heap.push { cls := .type "list", data := .seq ([] : List Value).toArray } := by rw [← eT3]
  have szz : ∀ b ∈ fp, b < t2.heap.objs.size := fun b hb => by
    obtain ⟨o, e, _⟩ := T.obj _ _ w2 b hb
    exact Heap.lt_size e
  have u3 : ∀ b ∈ fp, FpOk X pins (upd H2 D (.lst [])) b ∧ b < t3.heap.objs.size := fun b hb => by
    have hlt := szz b hb
    refine ⟨⟨?_, (u2 b hb).2⟩, by rw [g3, Heap.size_push]; exact Nat.lt_succ_of_lt hlt⟩
    rw [upd_ne (by rw [← eD]; exact Nat.ne_of_lt hlt)]
    exact (u2 b hb).1
  have w3 : tn 0 t3.heap := T.keep _ _ _ w2 fun b _ o e => by rw [g3]; exact Heap.get?_push_of_some _ e
  have J4 := block_start J3 ok hN u3
  have qg := hg t3 (upd H2 D (.lst [])) t3.heap.objs.size (cellsFrom (t3.heap.objs.size + 1) scope.names (cloFrom X.env.cells scope.names [])) fp
  have qt := ht t3 (upd H2 D (.lst [])) t3.heap.objs.size (cellsFrom (t3.heap.objs.size + 1) scope.names (cloFrom X.env.cells scope.names [])) fp
  have qe := he t3 (upd H2 D (.lst [])) t3.heap.objs.size (cellsFrom (t3.heap.objs.size + 1) scope.names (cloFrom X.env.cells scope.names [])) fp
  show codeAny _ _ (.compStart (.ListComp elt [⟨tg, iter, ifs, 0⟩] scope pos) 0 (.ref it) (.ref D) (compEnvC scope (cellsFrom (t3.heap.objs.size + 1) scope.names (cloFrom X.env.cells scope.names [])) t3.heap.objs.size X.env)) (compEnds (model X.prog X.w) X.A X.xe none (EP X pins σ Q) (.ref D) (compEnvC scope (cellsFrom (t3.heap.objs.size + 1) scope.names (cloFrom X.env.cells scope.names [])) t3.heap.objs.size X.env)) { t3 with heap := pushCells (t3.heap.push { cls := .type "dict", data := .dict #[] }) scope.names }
  have nfp : ∀ b ∈ fp, (upd H2 D (.lst [])) b = none := fun b hb => (u3 b hb).1.1
  generalize hcE : compEnvC scope (cellsFrom (t3.heap.objs.size + 1) scope.names (cloFrom X.env.cells scope.names [])) t3.heap.objs.size X.env = ce at J4 qg qt qe ⊢
  have cL : ce.locals = t3.heap.objs.size := by subst hcE; rfl
  have cF : ce.frame = X.env.frame := by subst hcE; rfl
  generalize eH3 : upd H2 D (.lst []) = H3 at J3 J4 qg qt qe v0 nfp u3
  generalize eT4 : ({ t3 with heap := pushCells (t3.heap.push { cls := .type "dict", data := .dict #[] }) scope.names } : Shared) = t4 at J4 ⊢
  have J4 := inv_xe J4 (AirB (X.blk t3 H3 scope ce fp) E0)
  have exc : ∀ (e : Value) (s' : Shared), AirB (X.blk t3 H3 scope ce fp) E0 e s' → notedBy (model X.prog X.w) X.A ce (CompFails (model X.prog X.w) X.A X.xe ce) e s' := fun e s' x => air_noted hst hfm tk J3 (fun b hb => (u3 b hb).1) cL cF x
  have w4 : tn 0 t4.heap := T.keep _ _ _ w3 fun b _ o e => by rw [← eT4]; exact pushCells_keeps _ _ _ _ (Heap.get?_push_of_some _ e)
  have sta : ∀ {σ' : L2.St} {H' : Hp} {s' : Shared}, Inv (blkX X E0 t3 H3 scope ce fp) [] σ' H' s' → (∀ b ∈ fp, H' b = none) → ∀ b ∈ fp, FpOk (blkX X E0 t3 H3 scope ce fp) [] H' b := fun {σ' H' s'} J' hn b hb =>
    ⟨hn b hb, (J'.ok.exf b hb).1, J'.ok.exfs b hb, .inl hb, fun x c e => (J'.ok.exf b hb).2 x c e, fun p hp => absurd (show p ∈ ([] : List (Addr × Obj)) ++ [] from hp) (by simp)⟩
  have lp : codeAny (model X.prog X.w) X.A (.compLoop (.ListComp elt [⟨tg, iter, ifs, 0⟩] scope pos) 0 (.ref it) (.ref D) ce) (compEnds (model X.prog X.w) X.A X.xe none (EP X pins σ Q) (.ref D) ce) t4 := by
    refine compLoop_any (fun n s' => ∃ i H', Inv (blkX X E0 t3 H3 scope ce fp) [] (wipe σ (own.map (·.2))) H' s' ∧ tn i s'.heap ∧ (∀ b ∈ fp, H' b = none) ∧ W i n H') ?_ k0 ⟨0, H3, J4, w4, nfp, v0⟩
    rintro n t5 ⟨i, H5, J5, w5, n5, v5⟩
    rcases trn i n H5 v5 with ⟨stp, qq⟩ | ⟨gg, Nx, hNx, stpp⟩
    · have tdn := T.done (blkX X E0 t3 H3 scope ce fp) rfl rfl rfl hc i [] t5 _ H5 (fun _ _ => False) J5 (sta J5 n5) w5 stp
      refine thnF tdn fun r t6 ⟨er, J6⟩ => ?_
      subst er
      -- back in the def's context
      have J7 : Inv X pins σ H5 t6 := J3.call' (ch := fp) J6.os J6.base J6.hok J6.bare fun b hb => ⟨(u3 b hb).1.2.2.2.1, (u3 b hb).1.2.1, (u3 b hb).1.2.2.2.2.1, (u3 b hb).1.2.2.2.2.2⟩
      have nC : H5 ce.locals = none := J6.free
      obtain ⟨m, hn, _⟩ := J6.loc
      have fC := J3.fpOk (b := ce.locals) (by rw [cL]; exact Nat.le_refl _) nC
      exact ⟨m, hn, fun h'' sb => ⟨.ref D, H5, J7.turned (t' := t6.toks) (fun b o hb e => (sb.2 b hb).trans e) fC.1 fC.2.1 fC.2.2.2.1 fC.2.2.2.2.1 fC.2.2.2.2.2, rfl, qq⟩⟩
    · have tim := T.item (blkX X E0 t3 H3 scope ce fp) rfl rfl rfl hc i [] t5 _ H5 (fun _ _ => False) J5 (sta J5 n5) w5 gg
      refine thnF tim fun r t6 ⟨u, er, g6⟩ => ?_
      subst er
      refine thnF g6 fun _ t7 ⟨x, H7, J7, r7, y7, w7, n7⟩ => ?_
      have K7 := J7.pinned (sta J7 n7) (T.obj _ _ w7)
      refine wpAny_mono (qg.run _ t7 _ H7 x u _ K7 r7 (stpp x H7 y7)) (fun _ t8 ⟨σ8, H8, J8, hw8, y8⟩ => ?_) exc
      refine wpAny_mono (qt.run _ t8 σ8 H8 _ J8 y8) (fun b t9 ⟨H9, J9, y9⟩ => ?_) exc
      -- the turn's end
      have fi : ∀ {s' : Shared} {H' : Hp}, Inv (blkX X E0 t3 H3 scope ce fp) ([] ++ pinsAt fp t7.heap) σ8 H' s' → Nx H' → ∃ m, m < n ∧ ∃ i H', Inv (blkX X E0 t3 H3 scope ce fp) [] (wipe σ (own.map (·.2))) H' s' ∧ tn i s'.heap ∧ (∀ b ∈ fp, H' b = none) ∧ W i m H' := fun {s' H'} J' nx => by
        obtain ⟨m', hm, w'⟩ := hNx H' nx
        have pin' : ∀ b ∈ fp, ∀ o, t7.heap.get? b = some o → s'.heap.get? b = some o ∧ H' b = none := fun b hb o e =>
          let z := J'.pin (b, o) (List.mem_append_right _ (List.mem_append_right _ (mem_pinsAt hb e)))
          ⟨z.1, z.2.1⟩
        have hl : (wipe σ (own.map (·.2))).length = σ8.length := by rw [← hw8, wipe_length]
        refine ⟨m', hm, i + 1, H', (J'.unpinned (pins := [])).weak hl (fun j v e => ?_), T.keep _ _ _ w7 fun b hb o e => (pin' b hb o e).1, fun b hb => ?_, w'⟩
        · rw [← hw8] at e
          exact (wipe_some e).1
        · obtain ⟨o, e, _⟩ := T.obj _ _ w7 b hb
          exact (pin' b hb o e).2
      cases b with
      | false =>
        simp only [Bool.false_eq_true, if_false] at y9 ⊢
        exact fi J9 y9
      | true =>
        simp only [if_true] at y9 ⊢
        refine wpAny_mono (qe.run _ t9 σ8 H9 _ J9 y9) (fun z t10 ⟨yv, H10, J10, r10, acc, hD10, hz10, nx⟩ => ?_) exc
        exact app_ok (X := blkX X E0 t3 H3 scope ce fp) J10 hD10 hz10 r10 fun t11 J11 => fi J11 nx
  exact codeAny_compStart_list lp (T.self X.A 0 _ _ _ w4 lp)
end SK
namespace SK
open PySem PySem.Spec PyProof.Rows L2 LamX NdefX
open K0 (De DeAll XCl spX withX)
/-! ### three blocks, right or wrong -/
/-- a block's result: the number of its first wrong statement, or its number of statements -/
def ResB (blk : Str) (d : PyData) (r : Nat ⊕ Nat) : Prop := (isTL d = false ∧ r = .inl 0) ∨ (isTL d = true ∧ ∃ F, scanF blk F (elems d) 0 = some r ∧ scanH blk (F + 1) (elems d))
inductive Due where
  | none | stm (blk : Str) (n : Nat) | many (n : Nat)
def dueB (r1 r2 r3 : Nat ⊕ Nat) : Due := match r1 with
  | .inl n => .stm "down" n
  | .inr a => match r2 with
    | .inl n => .stm "turn" n
    | .inr b => match r3 with
      | .inl n => .stm "up" n
      | .inr c => if a + b + c ≤ 40 then .none else .many (a + b + c)
def ThrowsD (E : XK) (C CM : Addr) (H : Hp) : Due → Prop
  | .none => True
  | .stm blk n => Thrown E C H [("number", .int (n : Nat)), ("block", .str blk)]
  | .many n => Thrown E CM H [("most", .int 40), ("many", .int (n : Nat)), ("what", .str "statements")]
theorem Thrown.mono {E : XK} {C : Addr} {H H1 : Hp} {gs : List (Str × V)} (t : Thrown E C H gs) (s : Same H H1) : Thrown E C H1 gs := fun H' d s' n e => t H' d (s.trans s') (none_of s n) e
theorem ThrowsD.mono {E : XK} {C CM : Addr} {H H1 : Hp} {u : Due} (t : ThrowsD E C CM H u) (s : Same H H1) : ThrowsD E C CM H1 u := by
  cases u with
  | none => exact trivial
  | stm b n => exact Thrown.mono t s
  | many n => exact Thrown.mono t s
def numR : Nat ⊕ Nat → Nat
  | .inl _ => 0
  | .inr n => n
theorem due_at {r1 r2 r3 : Nat ⊕ Nat} : ∀ {i : Nat} {r : Nat ⊕ Nat} {blk : Str}, (∀ (j : Nat) (q : Nat ⊕ Nat), j < i → [r1, r2, r3][j]? = some q → ∃ n, q = .inr n) → [r1, r2, r3][i]? = some r → blk3[i]? = some blk → ∀ n, r = .inl n → dueB r1 r2 r3 = .stm blk n := by
  intro i r blk hp hr hb n e
  match i, hr, hb with
  | 0, hr, hb =>
    cases hr
    cases hb
    rw [e]
    rfl
  | 1, hr, hb =>
    cases hr
    cases hb
    obtain ⟨a, ea⟩ := hp 0 r1 (by decide) rfl
    rw [ea, e]
    rfl
  | 2, hr, hb =>
    cases hr
    cases hb
    obtain ⟨a, ea⟩ := hp 0 r1 (by decide) rfl
    obtain ⟨b, eb⟩ := hp 1 r2 (by decide) rfl
    rw [ea, eb, e]
    rfl
def spCbX (K : PySem.W.Frag) (C CM : Addr) : Sp := fun vs H Q E => ∃ (v1 v2 v3 : V) (d1 d2 d3 : PyData) (r1 r2 r3 : Nat ⊕ Nat), vs = [v1, v2, v3] ∧ De K H v1 d1 ∧ De K H v2 d2 ∧ De K H v3 d3 ∧ ResB (Str.ofString "down") d1 r1 ∧ ResB (Str.ofString "turn") d2 r2 ∧ ResB (Str.ofString "up") d3 r3 ∧
  ThrowsD E C CM H (dueB r1 r2 r3) ∧ (dueB r1 r2 r3 = .none → ∀ H', Same H H' → Q .non H')
section
variable {P : Program} {w : World} {K : PySem.W.Frag} {mg : Str → Option Value} {base : Heap} {f fN C CM : Addr} {fd fdN : FuncData}
theorem ok_cbX (F : Fun K "check_blocks" "check_blocks" (top 20) f fd) (D : XR P w K mg base "TooMany" CM ["what", "many", "most"]) (gSu : mg "sum" = none) {tM : Tok} (gMo : mg "MOST_STATEMENTS" = some (.int 40 tM))
    (gN : mg "number_of_statements" = some (.ref fN)) (kN : PySem.W.keepIn K (.ref fN) = true) (GN : FnOk P w K mg base (L2.CX P w) 12 fN fdN ["name", "block"] (spNum K C)) (bN : Binds K fdN ["name", "block"] []) :
    FnOk P w K mg base (L2.CX P w) 13 f fd ["down", "turn", "up"] (spCbX K C CM) := by
  have S0 : FnScope NCb ["down", "turn", "up"] (defScope (top 20)) := ⟨rfl, rfl, rfl, by decide +kernel, rfl, by decide +kernel, by decide +kernel⟩
  have nd := S0.nd
  refine F.okX S0 (fun vs H Q E h => ?_) (fun cdv A outer s H vs Q E hr h => ?_)
  · obtain ⟨v1, v2, v3, d1, d2, d3, r1, r2, r3, rfl, _⟩ := h
    rfl
  · obtain ⟨v1, v2, v3, d1, d2, d3, r1, r2, r3, rfl, D1, D2, D3, R1, R2, R3, tt, kk⟩ := h
    obtain ⟨fi, fdi, iC, tI, F1, b1⟩ := D.ini
    have hu64 := hr.units
    have hr2 : Room 2 _ := hr.mono (by decide)
    refine ⟨_, (pss_cons (ps_set (i := 3) nd rfl (Or.inl rfl) (pe_callB (cr_sum rfl) (by rfl) gSu PyProof.Rows.boot_sum (pa_cons (pe_lcX (E0 := E) rfl rfl (takes_of rfl rfl rfl rfl) (own := [("name", 4), ("block", 5)]) (g := gTup K 2 (gCons (gName 4) (gCons (gName 5) gNil))) (tt := tYes) rfl nd (pi_tup (pe_tup (pa_cons (pe_tup (pa_cons pe_str (pa_cons (pv 0) pa_nil))) (pa_cons (pe_tup (pa_cons pe_str (pa_cons (pv 1) pa_nil))) (pa_cons (pe_tup (pa_cons pe_str (pa_cons (pv 2) pa_nil))) pa_nil))))) (blkOk_by (N := NCb) (sc := defScope (top 20)) (by decide +kernel)) (fun _ _ _ _ _ => (pg_tup rfl (pgs_cons (pg_name (i := 4) nd rfl (Or.inl rfl)) (pgs_cons (pg_name (i := 5) nd rfl (Or.inl rfl)) pgs_nil)))) (fun _ _ _ _ _ => pts_nil) (fun _ _ _ _ _ => (pe_call GN hr (by rfl) gN kN bN .nil passB (pa_cons (pv 4) (pa_cons (pv 5) pa_nil))))) pa_nil)))
        (pss_one (ps_if (pt_cmpR op_gt (pv 3) (pe_glob (v := V.int 40) (by rfl) gMo ⟨_, rfl⟩) (nomark _)) (pss_one (ps_raise rfl (takes_of rfl rfl rfl rfl) (pmk_oex D.cl.T iC tI F1 hr2 b1 .nil pass0 (by rfl) D.gC (pa_cons pe_str (pa_cons (pv 3) (pa_cons (pe_glob (v := V.int 40) (by rfl) gMo ⟨_, rfl⟩) pa_nil)))))) pss_nil))), ?_⟩
    refine ⟨v1, rfl, (by show 2 ≤ sizeLine; decide), fun a1 na1 => ?_⟩
    have s1 := upd_new (o := .tup [.str "down", v1]) na1
    have h1 : upd H a1 (.tup [.str "down", v1]) a1 = some (.tup [.str "down", v1]) := upd_same
    generalize upd H a1 (.tup [.str "down", v1]) = G1 at s1 h1
    refine ⟨v2, rfl, (by show 2 ≤ sizeLine; decide), fun a2 na2 => ?_⟩
    have s2 := upd_new (o := .tup [.str "turn", v2]) na2
    have h2 : upd G1 a2 (.tup [.str "turn", v2]) a2 = some (.tup [.str "turn", v2]) := upd_same
    generalize upd G1 a2 (.tup [.str "turn", v2]) = G2 at s2 h2
    refine ⟨v3, rfl, (by show 2 ≤ sizeLine; decide), fun a3 na3 => ?_⟩
    have s3 := upd_new (o := .tup [.str "up", v3]) na3
    have h3 : upd G2 a3 (.tup [.str "up", v3]) a3 = some (.tup [.str "up", v3]) := upd_same
    generalize upd G2 a3 (.tup [.str "up", v3]) = G3 at s3 h3
    refine ⟨(by show 3 ≤ sizeLine; decide), fun t nt => ?_⟩
    have s4 := upd_new (o := .tup [.ref a1, .ref a2, .ref a3]) nt
    have h4 : upd G3 t (.tup [.ref a1, .ref a2, .ref a3]) t = some (.tup [.ref a1, .ref a2, .ref a3]) := upd_same
    generalize upd G3 t (.tup [.ref a1, .ref a2, .ref a3]) = G4 at s4 h4
    have s04 : Same H G4 := s1.trans (s2.trans (s3.trans s4))
    let rr : List (Addr × V × PyData) := [(a1, v1, d1), (a2, v2, d2), (a3, v3, d3)]
    have rows : ∀ (i : Nat) (x : V), [V.ref a1, V.ref a2, V.ref a3][i]? = some x → ∃ (a : Addr) (blk : Str) (v : V) (d : PyData) (r : Nat ⊕ Nat), x = .ref a ∧ G4 a = some (.tup [.str blk, v]) ∧ De K H v d ∧ ResB blk d r ∧ [r1, r2, r3][i]? = some r ∧ blk3[i]? = some blk ∧ blk ∈ blk3 := fun i x hx => by
      match i, hx with
      | 0, hx =>
        cases hx
        exact ⟨a1, _, v1, d1, r1, rfl, s4 _ _ (s3 _ _ (s2 _ _ h1)), D1, R1, rfl, rfl, by decide +kernel⟩
      | 1, hx =>
        cases hx
        exact ⟨a2, _, v2, d2, r2, rfl, s4 _ _ (s3 _ _ h2), D2, R2, rfl, rfl, by decide +kernel⟩
      | 2, hx =>
        cases hx
        exact ⟨a3, _, v3, d3, r3, rfl, s4 _ _ h3, D3, R3, rfl, rfl, by decide +kernel⟩
    refine ⟨t, rfl, ⟨_, .inl (.inl h4)⟩, fun D nD => lc_it (walk_tup (K := K) (xs := [V.ref a1, V.ref a2, V.ref a3])) (fun i G => Same G4 G ∧ (∀ (j : Nat) (q : Nat ⊕ Nat), j < i → [r1, r2, r3][j]? = some q → ∃ n, q = .inr n) ∧ G D = some (.lst (([r1, r2, r3].take i).map fun r => V.int (numR r : Nat)))) ⟨upd_new nD, fun j q h => absurd h (by omega), upd_same⟩ (fun i G _ q => .inl (.inl (q.1 _ _ h4))) ?_ ?_⟩
    · rintro i x G G' hi ⟨sG, hp, hD⟩ ⟨rfl, hx⟩
      obtain ⟨a, blk, v, d, r, rfl, hrow, hde, hres, hri, hbi, hbk⟩ := rows i x hx
      have s0G := s04.trans sG
      have tt' := tt.mono s0G
      refine ⟨a, _, rfl, .inl (.inl (sG _ _ hrow)), rfl, _, _, rfl, _, _, rfl, rfl, rfl, V.str blk, rfl, v, rfl, v, d, blk, rfl, de_mono s0G _ _ hde, hbk, fun z => ?_, fun z => ?_⟩
      · rcases hres with ⟨_, e⟩ | ⟨e, _⟩
        · rw [due_at hp hri hbi 0 e] at tt'
          exact tt'
        · rw [z] at e
          cases e
      · rcases hres with ⟨e, _⟩ | ⟨_, F0, hsc, hsh⟩
        · rw [z] at e
          cases e
        · refine ⟨F0, r, hsc, hsh, fun n e H' s => ?_, fun n e => ?_⟩
          · have hz : (([r1, r2, r3].take i).map fun r => V.int (numR r : Nat)).length < sizeLine := by
              rw [List.length_map, List.length_take]
              show min i 3 < sizeLine
              have b5 : (5000 : Nat) < sizeLine := by decide
              omega
            refine ⟨_, s _ _ hD, hz, same_upd nD (sG.trans s), fun j q hj hq => ?_, ?_⟩
            · by_cases q0 : j = i
              · subst q0
                rw [hri] at hq
                cases hq
                exact ⟨n, e⟩
              · exact hp j q (by omega) hq
            · rw [take_snoc hri, List.map_append, e]
              exact upd_same
          · rw [due_at hp hri hbi n e] at tt'
            exact tt'
    · rintro G ⟨sG, hp, hD⟩
      obtain ⟨n1, e1⟩ := hp 0 r1 (by show 0 < 3; decide) rfl
      obtain ⟨n2, e2⟩ := hp 1 r2 (by show 1 < 3; decide) rfl
      obtain ⟨n3, e3⟩ := hp 2 r3 (by show 2 < 3; decide) rfl
      subst e1 e2 e3
      have hD : G D = some (.lst ([(n1 : Int), (n2 : Int), (n3 : Int)].map V.int)) := hD
      refine ⟨D, [(n1 : Int), (n2 : Int), (n3 : Int)], rfl, .inl (.inl hD), ?_⟩
      have es : [(n1 : Int), (n2 : Int), (n3 : Int)].sum = ((n1 + n2 + n3 : Nat) : Int) := by
        simp only [List.sum_cons, List.sum_nil]
        omega
      rw [es]
      have ed : dueB (.inr n1) (.inr n2) (.inr n3) = if n1 + n2 + n3 ≤ 40 then .none else .many (n1 + n2 + n3) := rfl
      rw [ed] at tt kk
      refine ⟨V.int _, rfl, _, 40, rfl, rfl, _, rfl, ite2 (fun c => ?_) (fun c => ?_)⟩
      · have c : (40 : Int) < ((n1 + n2 + n3 : Nat) : Int) := of_decide_eq_true c
        rw [if_neg (show ¬ n1 + n2 + n3 ≤ 40 by omega)] at tt
        refine ⟨V.int _, rfl, rd_mk rfl (by show 3 ≤ 1000; decide) fun dx H' s' n' q => ?_⟩
        exact tt H' dx ((s04.trans sG).trans s') (none_of (s04.trans sG) n') q
      · have c : ¬ (40 : Int) < ((n1 + n2 + n3 : Nat) : Int) := fun z => c (decide_eq_true z)
        exact kk (if_pos (show n1 + n2 + n3 ≤ 40 by omega)) G (s04.trans sG)
end
def spInitX (K : PySem.W.Frag) (CR C CM : Addr) : Sp := fun vs H Q E => ∃ (x dx : Addr) (v1 v2 v3 : V) (d1 d2 d3 : PyData) (r1 r2 r3 : Nat ⊕ Nat), vs = [.ref x, v1, v2, v3] ∧ H x = some (.ins CR dx []) ∧ De K H v1 d1 ∧ De K H v2 d2 ∧ De K H v3 d3 ∧ ResB (Str.ofString "down") d1 r1 ∧ ResB (Str.ofString "turn") d2 r2 ∧ ResB (Str.ofString "up") d3 r3 ∧
  ThrowsD E C CM H (dueB r1 r2 r3) ∧ (dueB r1 r2 r3 = .none → ((lev d1 < 20 ∧ hdW 20 d1) ∧ (lev d2 < 20 ∧ hdW 20 d2) ∧ (lev d3 < 20 ∧ hdW 20 d3)) ∧ ∀ (H' : Hp) (fs : List (Str × V)) (u1 u2 u3 : V), (∀ b o, b ≠ x → H b = some o → H' b = some o) → H' x = some (.ins CR dx fs) → RoP K H' fs d1 d2 d3 u1 u2 u3 → Q .non H')
section
variable {P : Program} {w : World} {K : PySem.W.Frag} {mg : Str → Option Value} {base : Heap} {f fF fC CR C CM : Addr} {fd fdF fdC : FuncData}
theorem ok_initX (F : Fun K "__init__" "Routine.__init__" (ro 0) f fd) (cT : Cls K CR) (n1 : NoAttr K CR "down") (n2 : NoAttr K CR "turn") (n3 : NoAttr K CR "up")
    (gC : mg "check_blocks" = some (.ref fC)) (kC : PySem.W.keepIn K (.ref fC) = true) (GC : FnOk P w K mg base (L2.CX P w) 13 fC fdC ["down", "turn", "up"] (spCbX K C CM)) (bC : Binds K fdC ["down", "turn", "up"] [])
    (gF : mg "frozen" = some (.ref fF)) (kF : PySem.W.keepIn K (.ref fF) = true) (GF : FnOk P w K mg base CX0 22 fF fdF ["value"] (spFz K 20)) (bF : Binds K fdF ["value"] []) : FnOk P w K mg base (L2.CX P w) 23 f fd ["self", "down", "turn", "up"] (spInitX K CR C CM) := by
  have S0 : FnScope ["self", "down", "turn", "up"] ["self", "down", "turn", "up"] (defScope (ro 0)) := ⟨rfl, rfl, rfl, by decide +kernel, rfl, by decide +kernel, by decide +kernel⟩
  have nd := S0.nd
  refine F.okX S0 (fun vs H Q E h => ?_) (fun cdv A outer s H vs Q E hr h => ?_)
  · obtain ⟨x, dx, v1, v2, v3, d1, d2, d3, r1, r2, r3, rfl, _⟩ := h
    rfl
  · obtain ⟨x, dx, v1, v2, v3, d1, d2, d3, r1, r2, r3, rfl, hx, a1, a2, a3, R1, R2, R3, tt, kk⟩ := h
    have hrF : Room 22 _ := hr
    have hrC : Room 13 _ := hr.mono (by decide)
    refine ⟨_, (pss_cons (ps_expr (pe_call GC hrC (by rfl) gC kC bC .nil (passes_call (takes_of rfl rfl rfl rfl) (fun _ _ _ _ h => h)) (pa_cons (pv 1) (pa_cons (pv 2) (pa_cons (pv 3) pa_nil)))))
        (pss_cons (ps_fld (pv 0) (pe_call GF hrF (by rfl) gF kF bF .nil pass0 (pa_cons (pv 1) pa_nil)) rfl)
        (pss_cons (ps_fld (pv 0) (pe_call GF hrF (by rfl) gF kF bF .nil pass0 (pa_cons (pv 2) pa_nil)) rfl)
        (pss_one (ps_fld (pv 0) (pe_call GF hrF (by rfl) gF kF bF .nil pass0 (pa_cons (pv 3) pa_nil)) rfl))))), ?_⟩
    refine ⟨v1, rfl, v2, rfl, v3, rfl, v1, v2, v3, d1, d2, d3, r1, r2, r3, rfl, a1, a2, a3, R1, R2, R3, tt, fun ed H1 s1 => ?_⟩
    obtain ⟨⟨⟨l1, w1⟩, ⟨l2, w2⟩, ⟨l3, w3⟩⟩, kk⟩ := kk ed
    refine ⟨v1, rfl, v1, d1, rfl, de_mono s1 _ _ a1, l1, w1, fun H2 u1 s2 hu1 => ⟨V.ref x, rfl, x, CR, dx, _, rfl, s2 _ _ (s1 _ _ hx), cT, n1, (by decide), ?_⟩⟩
    have s02 := s1.trans s2
    have hx2 := s02 _ _ hx
    have m23 : ∀ b o, b ≠ x → H2 b = some o → (∀ ps, o ≠ .tbl ps) → upd H2 x (.ins CR dx (putF "down" u1 [])) b = some o := fun b o hb e _ => by
      rw [upd_ne hb]
      exact e
    have c2 := de_insN hx2 m23 (de_mono s02 _ _ a2)
    have c3 := de_insN hx2 m23 (de_mono s02 _ _ a3)
    have cu := de_insN hx2 m23 hu1
    have sb : ∀ b o, b ≠ x → H b = some o → upd H2 x (.ins CR dx (putF "down" u1 [])) b = some o := fun b o hb e => by
      rw [upd_ne hb]
      exact s02 _ _ e
    have hx3 : upd H2 x (.ins CR dx (putF "down" u1 [])) x = some (.ins CR dx (putF "down" u1 [])) := upd_same
    generalize upd H2 x (.ins CR dx (putF "down" u1 [])) = H3 at c2 c3 cu sb hx3
    refine ⟨v2, rfl, v2, d2, rfl, c2, l2, w2, fun H4 u2 s4 hu2 => ⟨V.ref x, rfl, x, CR, dx, _, rfl, s4 _ _ hx3, cT, n2, (by show 1 < 1000; decide), ?_⟩⟩
    have hx4 := s4 _ _ hx3
    have m45 : ∀ b o, b ≠ x → H4 b = some o → (∀ ps, o ≠ .tbl ps) → upd H4 x (.ins CR dx (putF "turn" u2 (putF "down" u1 []))) b = some o := fun b o hb e _ => by
      rw [upd_ne hb]
      exact e
    have c3 := de_insN hx4 m45 (de_mono s4 _ _ c3)
    have cu := de_insN hx4 m45 (de_mono s4 _ _ cu)
    have cu2 := de_insN hx4 m45 hu2
    have sb : ∀ b o, b ≠ x → H b = some o → upd H4 x (.ins CR dx (putF "turn" u2 (putF "down" u1 []))) b = some o := fun b o hb e => by
      rw [upd_ne hb]
      exact s4 _ _ (sb _ _ hb e)
    have hx5 : upd H4 x (.ins CR dx (putF "turn" u2 (putF "down" u1 []))) x = some (.ins CR dx (putF "turn" u2 (putF "down" u1 []))) := upd_same
    generalize upd H4 x (.ins CR dx (putF "turn" u2 (putF "down" u1 []))) = H5 at c3 cu cu2 sb hx5
    refine ⟨v3, rfl, v3, d3, rfl, c3, l3, w3, fun H6 u3 s6 hu3 => ⟨V.ref x, rfl, x, CR, dx, _, rfl, s6 _ _ hx5, cT, n3, (by show 2 < 1000; decide), ?_⟩⟩
    have hx6 := s6 _ _ hx5
    have m67 : ∀ b o, b ≠ x → H6 b = some o → (∀ ps, o ≠ .tbl ps) → upd H6 x (.ins CR dx (putF "up" u3 (putF "turn" u2 (putF "down" u1 [])))) b = some o := fun b o hb e _ => by
      rw [upd_ne hb]
      exact e
    refine kk _ _ u1 u2 u3 (fun b o hb e => ?_) upd_same ⟨?_, ?_, ?_, fun g n1 n2 n3 => ?_, de_insN hx6 m67 (de_mono s6 _ _ cu), de_insN hx6 m67 (de_mono s6 _ _ cu2), de_insN hx6 m67 hu3⟩
    · rw [upd_ne hb]
      exact s6 _ _ (sb _ _ hb e)
    · rw [lookup_putF, if_neg (by decide), lookup_putF, if_neg (by decide), lookup_putF, if_pos rfl]
    · rw [lookup_putF, if_neg (by decide), lookup_putF, if_pos rfl]
    · rw [lookup_putF, if_pos rfl]
    · rw [lookup_putF, if_neg n3, lookup_putF, if_neg n2, lookup_putF, if_neg n1]
      rfl
end
end SK
namespace SK
open PySem PySem.Spec PyProof.Rows L2 LamX NdefX
open K0 (De DeAll XCl spX withX)
/-! ### how a routine is refused -/
def ansD : Due → PyData
  | .none => .none
  | .stm blk n => .tuple [.str "statement", .str blk, .int (n : Nat), .bool true]
  | .many n => .tuple [.str "statements", .int (n : Nat), .int 40]
structure Ex2 (P : Program) (w : World) (K : PySem.W.Frag) (mg : Str → Option Value) (base : Heap) (CB CM tE : Addr) : Prop where
  db : XR P w K mg base "BadStatement" CB ["block", "number"]
  dm : XR P w K mg base "TooMany" CM ["what", "many", "most"]
  gX : mg "TreesError" = some (.ref tE)
  bb : PySem.W.exmOne K (.ref CB) (.ref CB) = some true
  mb : PySem.W.exmOne K (.ref CM) (.ref CB) = some false
  mm : PySem.W.exmOne K (.ref CM) (.ref CM) = some true
  kb : PySem.W.kitOne K (.ref CB) (.ref tE) = some true
theorem lkS {n : Nat} {b : Str} : ([(("number" : Str), V.int (n : Nat)), ("block", V.str b)] : List (Str × V)).lookup ("block" : Str) = some (.str b) ∧ ([(("number" : Str), V.int (n : Nat)), ("block", V.str b)] : List (Str × V)).lookup ("number" : Str) = some (.int (n : Nat)) := by
  constructor
  · simp [List.lookup, show ((("block" : Str)) == ("number" : Str)) = false from by decide +kernel]
  · simp [List.lookup]
theorem lkM {n : Nat} : ([(("most" : Str), V.int 40), ("many", V.int (n : Nat)), ("what", V.str "statements")] : List (Str × V)).lookup ("most" : Str) = some (.int 40) ∧ ([(("most" : Str), V.int 40), ("many", V.int (n : Nat)), ("what", V.str "statements")] : List (Str × V)).lookup ("many" : Str) = some (.int (n : Nat)) ∧
    ([(("most" : Str), V.int 40), ("many", V.int (n : Nat)), ("what", V.str "statements")] : List (Str × V)).lookup ("what" : Str) = some (.str "statements") := by
  refine ⟨?_, ?_, ?_⟩
  · simp [List.lookup]
  · simp [List.lookup, show ((("many" : Str)) == ("most" : Str)) = false from by decide +kernel]
  · simp [List.lookup, show ((("what" : Str)) == ("most" : Str)) = false from by decide +kernel, show ((("what" : Str)) == ("many" : Str)) = false from by decide +kernel]
/-- three blocks as they are handed in, and their results -/
structure Bl3 (K : PySem.W.Frag) (H : Hp) (v : V) (d1 d2 d3 : PyData) (r1 r2 r3 : Nat ⊕ Nat) : Prop where
  at_ : ∃ (p : Addr) (xs : List V), v = .ref p ∧ (SqL K H p xs ∨ SqT K H p xs) ∧ DeAll K H xs [d1, d2, d3]
  q1 : ResB (Str.ofString "down") d1 r1
  q2 : ResB (Str.ofString "turn") d2 r2
  q3 : ResB (Str.ofString "up") d3 r3
  fz : dueB r1 r2 r3 = .none → (lev d1 < 20 ∧ hdW 20 d1) ∧ (lev d2 < 20 ∧ hdW 20 d2) ∧ (lev d3 < 20 ∧ hdW 20 d3)
def spMet (K : PySem.W.Frag) : Sp := fun vs H Q _ => ∃ (v : V) (d1 d2 d3 : PyData) (r1 r2 r3 : Nat ⊕ Nat), vs = [v] ∧ Bl3 K H v d1 d2 d3 r1 r2 r3 ∧ ∀ (H' : Hp) (u : V), Same H H' → De K H' u (ansD (dueB r1 r2 r3)) → Q u H'
section
variable {P : Program} {w : World} {K : PySem.W.Frag} {mg : Str → Option Value} {base : Heap} {f fI CR CB CM tE : Addr} {fd fdI : FuncData}
abbrev NMt : List Str := ["blocks", "e"]
theorem ok_met (F : Fun K "_law_met" "_law_met" (top 60) f fd) (X2 : Ex2 P w K mg base CB CM tE) (gI : mg "isinstance" = none)
    (gC : mg "Routine" = some (.ref CR)) (M : Mk K CR fI) (GI : FnOk P w K mg base (L2.CX P w) 23 fI fdI ["self", "down", "turn", "up"] (spInitX K CR CB CM)) (bI : Binds K fdI ["self", "down", "turn", "up"] []) :
    FnOk P w K mg base CX0 25 f fd ["blocks"] (spMet K) := by
  have S0 : FnScope NMt ["blocks"] (defScope (top 60)) := ⟨rfl, rfl, rfl, by decide +kernel, rfl, by decide +kernel, by decide +kernel⟩
  have nd := S0.nd
  obtain ⟨DB, DM, gX, x1, x2, x3, x4⟩ := X2
  refine F.ok S0 (fun vs H Q E h => ?_) (fun cdv A outer s H vs Q E hr h => ?_)
  · obtain ⟨v, d1, d2, d3, r1, r2, r3, rfl, _⟩ := h
    rfl
  · obtain ⟨v, d1, d2, d3, r1, r2, r3, rfl, ⟨⟨p, xs, rfl, hsq, hds⟩, R1, R2, R3, hfz⟩, kk⟩ := h
    refine ⟨_, (pss_cons (ps_try_asM (i := 1) rfl rfl nd rfl rfl L2.takes0 (fun W pn xe tk _ => pss_one (ps_expr (pe_makeS M GI (hr.mono (by decide)) (by rfl) gC bI (fun σ => passAt tk σ) (pa_cons (pe_ix (r := rIx K) ix_seq (pv 0) pe_int (fun _ _ => rfl)) (pa_cons (pe_ix (r := rIx K) ix_seq (pv 0) pe_int (fun _ _ => rfl)) (pa_cons (pe_ix (r := rIx K) ix_seq (pv 0) pe_int (fun _ _ => rfl)) pa_nil)))))) (HdsAs.cons (c := .ref CB) ⟨rfl, by decide, .inl DB.gC⟩ (fun a oe cls d pn hz hf => pss_one (ps_ret (pe_tup (pa_cons pe_str (pa_cons (pe_xf (xf_of DB.cl) (DB.no _ (by simp)) hz hf (pv 1)) (pa_cons (pe_xf (xf_of DB.cl) (DB.no _ (by simp)) hz hf (pv 1)) (pa_cons (pe_callB (r := rIsD K a cls d) (call_isD hz hf) (by rfl) gI PyProof.Rows.boot_isinstance (pa_cons (pv 1) (pa_cons (pe_glob (v := V.ref tE) (by rfl) gX rfl) pa_nil))) pa_nil))))))) (HdsAs.cons (c := .ref CM) ⟨rfl, by decide, .inl DM.gC⟩ (fun a oe cls d pn hz hf => pss_one (ps_ret (pe_tup (pa_cons (pe_xf (xf_of DM.cl) (DM.no _ (by simp)) hz hf (pv 1)) (pa_cons (pe_xf (xf_of DM.cl) (DM.no _ (by simp)) hz hf (pv 1)) (pa_cons (pe_xf (xf_of DM.cl) (DM.no _ (by simp)) hz hf (pv 1)) pa_nil)))))) HdsAs.nil)))
        (pss_one (ps_ret pe_non))), ?_⟩
    obtain ⟨v1, v2, v3, rfl, y1, y2, y3⟩ : ∃ v1 v2 v3, xs = [v1, v2, v3] ∧ De K H v1 d1 ∧ De K H v2 d2 ∧ De K H v3 d3 := by
      cases hds with
      | cons z1 h =>
      cases h with
      | cons z2 h =>
      cases h with
      | cons z3 h =>
      cases h
      exact ⟨_, _, _, rfl, z1, z2, z3⟩
    have ixF : ∀ (j : Nat) (v' : V) (R : VK), [v1, v2, v3][j]? = some v' → R v' H → rIx K (.ref p) (.int (j : Nat)) H R := fun j v' R hj hR => by
      rcases hsq with h | h
      · exact .inl ⟨p, _, (j : Int), v', rfl, rfl, h, atI_nat hj, hR⟩
      · exact .inr (.inl ⟨p, _, (j : Int), v', rfl, rfl, h, atI_nat hj, hR⟩)
    refine ⟨V.ref p, rfl, ixF 0 v1 _ rfl ⟨V.ref p, rfl, ixF 1 v2 _ rfl ⟨V.ref p, rfl, ixF 2 v3 _ rfl fun x dx nx ndx ne => ?_⟩⟩⟩
    have s0 : Same H (upd (upd H dx (.own x)) x (.ins CR dx [])) := fun b o e => by
      rw [upd_ne (ne_of_none e nx), upd_ne (ne_of_none e ndx)]
      exact e
    have hx0 : upd (upd H dx (.own x)) x (.ins CR dx []) x = some (.ins CR dx []) := upd_same
    generalize upd (upd H dx (.own x)) x (.ins CR dx []) = H0 at s0 hx0 ⊢
    refine ⟨x, dx, v1, v2, v3, d1, d2, d3, r1, r2, r3, rfl, hx0, de_mono s0 _ _ y1, de_mono s0 _ _ y2, de_mono s0 _ _ y3, R1, R2, R3, ?_, fun ed => ?_⟩
    · cases ed : dueB r1 r2 r3 with
      | none => exact trivial
      | stm blk n =>
        intro H1 d s1 n1 hd
        rw [ed] at kk
        refine ⟨true, x1, fun _ q nq => ?_, fun z => nomatch z⟩
        refine ⟨V.ref q, rfl, rfl, rfl, d, _, .str blk, rfl, hd, lkS.1, V.ref q, rfl, rfl, rfl, d, _, .int n, rfl, hd, lkS.2, V.ref q, rfl, CB, d, _, rfl, rfl, ec_of DB.cl, hd, .ref tE, .ref tE, true, rfl, fun u z => z, x4, (by show 4 ≤ sizeLine; decide), fun t nt => ?_⟩
        exact kk _ (.ref t) ((s0.trans s1).trans (upd_new nt)) (.tup upd_same (.cons (.str _) (.cons (.str _) (.cons (.int _) (.cons (.bl _) .nil)))))
      | many n =>
        intro H1 d s1 n1 hd
        rw [ed] at kk
        refine ⟨false, x2, (fun z => nomatch z), fun _ => ⟨true, x3, fun _ q nq => ?_, fun z => nomatch z⟩⟩
        refine ⟨V.ref q, rfl, rfl, rfl, d, _, .str "statements", rfl, hd, lkM.2.2, V.ref q, rfl, rfl, rfl, d, _, .int n, rfl, hd, lkM.2.1, V.ref q, rfl, rfl, rfl, d, _, .int 40, rfl, hd, lkM.1, (by show 3 ≤ sizeLine; decide), fun t nt => ?_⟩
        exact kk _ (.ref t) ((s0.trans s1).trans (upd_new nt)) (.tup upd_same (.cons (.str _) (.cons (.int _) (.cons (.int _) .nil))))
    · refine ⟨hfz ed, fun H1 fs u1 u2 u3 hb hx1 T => ⟨rfl, ?_⟩⟩
      rw [ed] at kk
      exact kk H1 .non (fun b o e => hb b o (fun z => by rw [z, nx] at e; cases e) (s0 _ _ e)) .non
end
end SK
namespace SK
open PySem PySem.Spec PyProof.Rows L2 LamX NdefX
open K0 (De DeAll XCl spX withX)
/-! ### the law's tests -/
def cntD (e : PyData) : Prop := e.canLay0 = true ∧ e.showable = true ∧ e.depth ≤ 8 ∧ e.shown.length ≤ sizeLine ∧ decide (e.shown ∈ (["0", "1", "2"] : List Str)) = okC e
/-- tests that can be looked at by the law -/
def tD : Nat → PyData → Prop
  | 0, _ => True
  | n + 1, d => ∀ h r, isTL d = true → elems d = h :: r → HdOk h ∧ r.length ≤ 1000 ∧ (nm h = some (Str.ofString "others") → ∀ e ∈ r, cntD e) ∧ ∀ e ∈ r, tD n e
theorem tD_hd : ∀ {n : Nat} {d : PyData}, tD n d → hdT n d
  | 0, _, _ => trivial
  | n + 1, d, h => fun hh r e1 e2 => ⟨(h hh r e1 e2).1, fun e he => tD_hd ((h hh r e1 e2).2.2.2 e he)⟩
theorem nm_none {h : PyData} (e : isS h = false) : nm h = none := by
  cases h with
  | str x => cases e
  | _ => rfl
theorem okTL_no {f : PyData → Bool} {h : PyData} {r : List PyData} (e : isS h = false) : okTL f (h :: r) = false := by
  have e1 := nm_none e
  have e2 : ∀ xs : List Str, inS xs h = false := fun xs => by
    unfold inS
    rw [e1]
    induction xs with
    | nil => rfl
    | cons x xs ih => rw [List.any_cons, ih]; rfl
  cases r with
  | nil => exact e2 _
  | cons a r =>
    show okT2 f h a r = false
    unfold okT2
    rw [e1, e2, if_neg (fun z => nomatch z), if_neg (fun z => nomatch z)]
    rfl
theorem okTL_in {f : PyData → Bool} {x : Str} {r : List PyData} (hx : x ∈ (["not", "and", "or"] : List Str)) : okTL f (.str x :: r) = (decide (r.length + 1 = if x = Str.ofString "not" then 2 else 3) && r.all f) := by
  have np : ∀ y ∈ (["not", "and", "or"] : List Str), inS plain10 (.str y) = false := by decide +kernel
  have no : ∀ y ∈ (["not", "and", "or"] : List Str), ¬ y = Str.ofString "others" := by decide +kernel
  have na : ∀ y ∈ (["not", "and", "or"] : List Str), ¬ y = Str.ofString "not" → inS ["and", "or"] (.str y) = true := by decide +kernel
  have e1 : nm (.str x) = some x := rfl
  cases r with
  | nil =>
    rw [decide_eq_false (by split <;> simp)]
    exact np x hx
  | cons a r =>
    show okT2 f (.str x) a r = _
    unfold okT2
    rw [e1, if_neg (fun z => no x hx (Option.some.inj z))]
    by_cases c : x = Str.ofString "not"
    · rw [if_pos (by rw [c]), if_pos c]
      cases r with
      | nil => simp
      | cons b r => simp
    · rw [if_neg (fun z => c (Option.some.inj z)), if_pos (na x hx c), if_neg c]
      cases r with
      | nil => simp [two]
      | cons b r =>
        cases r with
        | nil => simp [two]
        | cons c r => simp [two]
theorem okTL_others {f : PyData → Bool} {r : List PyData} : okTL f (.str "others" :: r) = (decide (r.length + 1 = 2) && r.all okC) := by
  cases r with
  | nil =>
    rw [decide_eq_false (by simp)]
    show inS plain10 (.str "others") = false
    decide +kernel
  | cons a r =>
    show okT2 f (.str "others") a r = _
    unfold okT2
    rw [if_pos (show nm (PyData.str "others") = some (Str.ofString "others") from rfl)]
    cases r with
    | nil => simp
    | cons b r => simp
theorem okTL_else {f : PyData → Bool} {x : Str} {r : List PyData} (hx : ¬ x ∈ (["not", "and", "or"] : List Str)) (ho : ¬ x = Str.ofString "others") : okTL f (.str x :: r) = (decide (r.length + 1 = 1) && decide (x ∈ plain10)) := by
  cases r with
  | nil =>
    show inS plain10 (.str x) = _
    rw [inS_str]
    rfl
  | cons a r =>
    show okT2 f (.str x) a r = _
    unfold okT2
    have e1 : nm (.str x) = some x := rfl
    rw [e1, if_neg (fun z => ho (Option.some.inj z)), if_neg (fun z => hx (by rw [Option.some.inj z]; exact List.mem_cons_self)), inS_str, if_neg (fun z => ?_)]
    · simp
    · refine hx (List.mem_cons_of_mem _ ?_)
      exact of_decide_eq_true z
theorem flat_strs (xs : List Str) : (xs.map V.str).all flatV = true := by
  rw [List.all_eq_true]
  intro v hv
  obtain ⟨x, _, rfl⟩ := List.mem_map.mp hv
  rfl
theorem inV_strs {x : Str} {xs : List Str} : inV (.str x) (xs.map V.str) = decide (x ∈ xs) := by
  unfold inV
  rw [List.any_map, Bool.eq_iff_iff, List.any_eq_true, decide_eq_true_eq]
  constructor
  · rintro ⟨y, hy, e⟩
    have e : eqV (.str y) (.str x) = true := e
    have : y = x := by simpa [eqV] using e
    rw [← this]
    exact hy
  · intro h
    exact ⟨x, h, by simp [eqV]⟩
theorem inV_falses {f : PyData → Bool} (r : List PyData) : (!inV (.bl false) (r.map fun e => V.bl (f e))) = r.all f := by
  unfold inV
  induction r with
  | nil => rfl
  | cons a r ih =>
    rw [List.map_cons, List.any_cons, List.all_cons, ← ih]
    cases f a <;> simp [eqV]
abbrev NIt : List Str := ["value", "most", "inner", "one"]
def spLaT (K : PySem.W.Frag) (n : Nat) : Sp := fun vs H Q _ => ∃ (v : V) (d : PyData) (m : Nat), vs = [v, .int (m : Nat)] ∧ m < n ∧ De K H v d ∧ tD m d ∧ ∀ H', Same H H' → Q (.bl (okT m d)) H'
section
variable {P : Program} {w : World} {K : PySem.W.Frag} {mg : Str → Option Value} {base : Heap} {f : Addr} {fd : FuncData}
theorem ok_laT (F : Fun K "_law_is_test" "_law_is_test" (top 61) f fd) (gN : mg "len" = none) (gI : mg "isinstance" = none) (gT : mg "tuple" = none) (gL : mg "list" = none) (gSt : mg "str" = none) (gRp : mg "repr" = none) (hsys : ∃ o, K.lookup sysModules = some o)
    (gS : mg "_law_is_test" = some (.ref f)) (bS : Binds K fd ["value", "most"] []) : ∀ n : Nat, FnG P w K mg base CX0 (n + 1) f fd ["value", "most"] (spLaT K n) := by
  have S0 : FnScope NIt ["value", "most"] (defScope (top 61)) := ⟨rfl, rfl, rfl, by decide +kernel, rfl, by decide +kernel, by decide +kernel⟩
  have nd := S0.nd
  have kS := F.kp
  intro n
  induction n with
  | zero =>
    refine FnG.ok F S0 (fun vs H Q E h => ?_) (fun cdv A outer s H vs Q E hg hr h => ?_)
    · obtain ⟨v, d, m, rfl, hm, _⟩ := h
      omega
    · obtain ⟨v, d, m, rfl, hm, _⟩ := h
      omega
  | succ n GS =>
  refine FnG.ok F S0 (fun vs H Q E h => ?_) (fun cdv A outer s H vs Q E hg hr h => ?_)
  · obtain ⟨v, d, m, rfl, _⟩ := h
    rfl
  · obtain ⟨v, d, m, rfl, hm, hd, hh, kk⟩ := h
    have hu64 := hr.units
    have b5 : (5000 : Nat) < sizeLine := by decide
    refine ⟨_, (pss_cons (ps_if (PW.pt (pw_or (pt_cmpR op_eq (pv 1) pe_int (nomark _)) (pw_or (pt_not (pt_val (pe_callB (r := rIsiT K) call_isiT (by rfl) gI PyProof.Rows.boot_isinstance (pa_cons (pv 0) (pa_cons (pe_tup (pa_cons (pe_bltn (v := .ty "tuple") (by rfl) gT PyProof.Rows.boot_tuple rfl) (pa_cons (pe_bltn (v := .ty "list") (by rfl) gL PyProof.Rows.boot_list rfl) pa_nil))) pa_nil))))) (pw_or (pt_cmpR op_eq (pe_callB call_len_seq (by rfl) gN PySem.boot_len (pa_cons (pv 0) pa_nil)) pe_int (nomark _)) (pw_or1 (pt_not (pt_val (pe_callB (r := rIsi K) call_isi (by rfl) gI PyProof.Rows.boot_isinstance (pa_cons (pe_ix (r := rIx K) ix_seq (pv 0) pe_int (fun _ _ => rfl)) (pa_cons (pe_bltn (v := .ty "str") (by rfl) gSt PyProof.Rows.boot_str rfl) pa_nil)))))))))) (pss_one (ps_ret pe_bl)) pss_nil)
        (pss_cons (ps_if (pt_cmpR (r := rIn K false) op_in_seq (pe_ix (r := rIx K) ix_seq (pv 0) pe_int (fun _ _ => rfl)) (pe_tup (pa_cons pe_str (pa_cons pe_str (pa_cons pe_str pa_nil)))) (by rfl)) (pss_cons (ps_setLc (i := 2) (own := [("one", 3)]) (g := gName 3) (tt := tYes) rfl nd rfl rfl (sw_true rfl rfl rfl (by decide +kernel)) (pi_either (pi_list (pe_slice (SlR.or sl_list sl_tupA) (pv 0) (po_some pe_int) po_none)) (pi_tup (pe_slice (SlR.or sl_list sl_tupA) (pv 0) (po_some pe_int) po_none))) (blkOk_by (N := NIt) (sc := defScope (top 61)) (by decide +kernel)) (fun _ _ _ _ _ => pg_name (i := 3) nd rfl (Or.inl rfl)) (fun _ _ _ _ _ => pts_nil) (fun _ _ _ _ _ => (pe_callG GS hg hr (by rfl) gS kS bS pass0 (pa_cons (pv 3) (pa_cons (pe_op op_sub (pv 1) pe_int) pa_nil)))))
        (pss_one (ps_ret (pe_and (pe_cmpR op_eq (pe_callB call_len_seq (by rfl) gN PySem.boot_len (pa_cons (pv 0) pa_nil)) (pe_ifExp (pt_cmpR op_eq (pe_ix (r := rIx K) ix_seq (pv 0) pe_int (fun _ _ => rfl)) pe_str (nomark _)) pe_int pe_int) (nomark _)) (pe_one (pe_cmpR (r := rIn K true) op_notIn_seq pe_bl (pv 2) (by rfl))))))) pss_nil)
        (pss_cons (ps_if (pt_cmpR op_eq (pe_ix (r := rIx K) ix_seq (pv 0) pe_int (fun _ _ => rfl)) pe_str (nomark _)) (pss_one (ps_ret (pe_and (pe_cmpR op_eq (pe_callB call_len_seq (by rfl) gN PySem.boot_len (pa_cons (pv 0) pa_nil)) pe_int (nomark _)) (pe_one (pe_cmpR (r := rIn K false) op_in_seq (pe_callB (r := rRepD K) (call_repD hg hu64 hsys) (by rfl) gRp PyProof.Rows.boot_repr (pa_cons (pe_ix (r := rIx K) ix_seq (pv 0) pe_int (fun _ _ => rfl)) pa_nil)) (pe_tup (pa_cons pe_str (pa_cons pe_str (pa_cons pe_str pa_nil)))) (by rfl)))))) pss_nil)
        (pss_one (ps_ret (pe_and (pe_cmpR op_eq (pe_callB call_len_seq (by rfl) gN PySem.boot_len (pa_cons (pv 0) pa_nil)) pe_int (nomark _)) (pe_one (pe_cmpR (r := rIn K false) op_in_seq (pe_ix (r := rIx K) ix_seq (pv 0) pe_int (fun _ _ => rfl)) (pe_lst (pa_cons pe_str (pa_cons pe_str (pa_cons pe_str (pa_cons pe_str (pa_cons pe_str (pa_cons pe_str (pa_cons pe_str (pa_cons pe_str (pa_cons pe_str (pa_cons pe_str pa_nil))))))))))) (by rfl))))))))), ?_⟩
    refine ⟨V.int (m : Nat), rfl, rfl, _, rfl, ?_⟩
    match m, hm, hh, kk with
    | 0, _, _, kk => exact iteT (kk H (Same.refl _))
    | m + 1, hm, hh, kk =>
    have ne0 : ¬ V.int ((m + 1 : Nat) : Int) = V.int 0 := fun z => by
      injection z with z
      omega
    rw [decide_eq_false ne0]
    refine iteF ⟨v, rfl, (by show 2 ≤ sizeLine; decide), fun tp hp => ?_⟩
    have s1 := upd_new (o := .tup [.ty "tuple", .ty "list"]) hp
    have t1 : upd H tp (.tup [.ty "tuple", .ty "list"]) tp = some (.tup [.ty "tuple", .ty "list"]) := upd_same
    generalize upd H tp (.tup [.ty "tuple", .ty "list"]) = H1 at s1 t1
    obtain ⟨Ty, tx, _, _, b1, b2, k1, k2, kt⟩ := ty_of (de_mono s1 d v hd)
    refine ⟨v, tp, [.ty "tuple", .ty "list"], .type Ty, [.type "tuple", .type "list"], isTL d, rfl, t1, .cons (.ty _) (.cons (.ty _) .nil), tx, (by rw [← kt]; exact kit_two k1 k2), isTL d, rfl, ?_⟩
    rcases tl_shape hd with e | ⟨p, xs, rfl, hds, hsq, e⟩
    · rw [e]
      refine iteT ?_
      have z := kk H1 s1
      unfold okT at z
      rw [e, Bool.false_and] at z
      exact z
    rw [e]
    have kk : ∀ b, okTL (okT m) (elems d) = b → ∀ H', Same H H' → Q (.bl b) H' := fun b eb H' s => by
      have z := kk H' s
      unfold okT at z
      rw [e, Bool.true_and, eb] at z
      exact z
    have hh : ∀ h r, elems d = h :: r → HdOk h ∧ r.length ≤ 1000 ∧ (nm h = some (Str.ofString "others") → ∀ e ∈ r, cntD e) ∧ ∀ e ∈ r, tD m e := fun h r eh => hh h r e eh
    generalize elems d = ds at hds kk hh
    have sq : ∀ {H' : Hp}, Same H H' → (SqL K H' p xs ∨ SqT K H' p xs) := fun {H'} s => hsq.elim (fun h => .inl (Same.seq s h)) (fun h => .inr (Same.seqT s h))
    have ixF : ∀ {H' : Hp} (j : Nat) (v' : V) (R : VK), Same H H' → xs[j]? = some v' → R v' H' → rIx K (.ref p) (.int (j : Nat)) H' R := fun {H'} j v' R s hj hR => by
      rcases sq s with h | h
      · exact .inl ⟨p, xs, (j : Int), v', rfl, rfl, h, atI_nat hj, hR⟩
      · exact .inr (.inl ⟨p, xs, (j : Int), v', rfl, rfl, h, atI_nat hj, hR⟩)
    cases hds with
    | nil =>
      refine iteF ⟨V.ref p, rfl, p, [], rfl, sq s1, rfl, _, rfl, iteT ?_⟩
      exact kk false rfl H1 s1
    | @cons v1 vr h r hd1 hdr =>
    have hxl := deAll_len hdr
    obtain ⟨hh1, hrl, hho, hhr⟩ := hh h r rfl
    refine iteF ⟨V.ref p, rfl, p, _, rfl, sq s1, rfl, _, rfl, ?_⟩
    rw [decide_eq_false (fun z : V.int _ = V.int 0 => by injection z with z; simp at z; omega)]
    obtain ⟨T4, x4, k4, _⟩ := ty_of (de_mono s1 _ _ hd1)
    refine iteF ⟨V.ref p, rfl, ixF 0 v1 _ s1 rfl ⟨v1, .ty "str", .type T4, .type "str", isS h, rfl, .ty _, x4, kit_ty k4, isS h, rfl, ?_⟩⟩
    cases es : isS h with
    | false => exact iteT (kk false (okTL_no es) H1 s1)
    | true =>
    obtain ⟨x, rfl⟩ : ∃ x, h = .str x := by
      cases h with
      | str x => exact ⟨x, rfl⟩
      | _ => cases es
    cases hd1
    refine iteF ⟨V.ref p, rfl, ixF 0 _ _ s1 rfl ⟨(by show 3 ≤ sizeLine; decide), fun q nq => ?_⟩⟩
    have s2 := upd_new (o := .tup [.str "not", .str "and", .str "or"]) nq
    have hq2 : upd H1 q (.tup [.str "not", .str "and", .str "or"]) q = some (.tup [.str "not", .str "and", .str "or"]) := upd_same
    generalize upd H1 q (.tup [.str "not", .str "and", .str "or"]) = H2 at s2 hq2
    have s12 := s1.trans s2
    refine ⟨q, (["not", "and", "or"] : List Str).map V.str, rfl, .inr (.inl (.inl hq2)), rfl, flat_strs ["not", "and", "or"], _, rfl, ?_⟩
    rw [if_neg Bool.false_ne_true, inV_strs]
    have subE : ((m + 1 : Nat) : Int) - 1 = (m : Int) := by omega
    by_cases c1 : x ∈ (["not", "and", "or"] : List Str)
    · rw [decide_eq_true c1]
      have hcut : cutV (V.str x :: vr) (some ((1 : Nat) : Int)) none = vr := cut_from (V.str x :: vr) (k := 1) (by simp)
      refine iteT ?_
      rcases hsq with hq | hq
      · refine .inl ⟨V.ref p, rfl, 1, rfl, .inl ⟨p, _, rfl, Same.seq s12 hq, fun u nu => ?_⟩⟩
        have s3 := upd_new (o := .lst vr) nu
        have hu3 : upd H2 u (.lst vr) u = some (.lst vr) := upd_same
        rw [show cutV (V.str x :: vr) (some 1) none = vr from hcut]
        generalize upd H2 u (.lst vr) = H3 at s3 hu3 ⊢
        have s3' := s12.trans s3
        refine ⟨u, rfl, ⟨vr, .inl (.inl hu3)⟩, fun D nD => lc_it (walk_list (K := K) (xs := vr)) (fun i G => Same H3 G ∧ G D = some (.lst ((r.take i).map fun e => V.bl (okT m e)))) ⟨upd_new nD, upd_same⟩ (fun i G _ q => .inl (.inl (q.1 _ _ hu3))) ?_ ?_⟩
        · rintro i x G G' hi ⟨sG, hD⟩ ⟨rfl, hx⟩
          obtain ⟨dd, hdd, hde⟩ := deAll_at hdr hx
          have hm' := List.mem_of_getElem? hdd
          refine ⟨rfl, x, rfl, V.int ((m + 1 : Nat) : Int), rfl, ((m + 1 : Nat) : Int), 1, rfl, rfl, x, dd, m, (by show [x, V.int (((m + 1 : Nat) : Int) - 1)] = _; rw [subE]), by omega, de_mono (s3'.trans sG) _ _ hde, hhr dd hm', fun G2 s2' => ?_⟩
          have hD2 := s2' _ _ hD
          refine ⟨_, hD2, by rw [List.length_map, List.length_take]; omega, same_upd nD (sG.trans s2'), ?_⟩
          rw [take_snoc hdd, List.map_append]
          exact upd_same
        · rintro G ⟨sG, hD⟩
          rw [hxl, List.take_length] at hD
          have sG := s3'.trans sG
          refine ⟨V.ref p, rfl, p, _, rfl, sq sG, V.ref p, rfl, ixF 0 _ _ sG rfl ⟨rfl, _, rfl, ?_⟩⟩
          have e0 := okTL_in (f := okT m) (r := r) c1
          have hfl : (r.map fun e => V.bl (okT m e)).all flatV = true := by
            rw [List.all_eq_true]
            intro y hy
            obtain ⟨z, _, rfl⟩ := List.mem_map.mp hy
            rfl
          by_cases c2 : x = Str.ofString "not"
          · rw [decide_eq_true (show V.str x = V.str "not" by rw [c2])]
            refine iteT ⟨rfl, _, rfl, ?_⟩
            rw [if_pos c2] at e0
            by_cases c3 : r.length + 1 = 2
            · rw [decide_eq_true (show V.int ((V.str x :: vr).length : Nat) = V.int 2 by rw [List.length_cons, hxl, c3]; rfl)]
              refine iteT ⟨V.ref D, rfl, D, _, rfl, .inl (.inl (.inl hD)), rfl, hfl, ?_⟩
              rw [if_pos rfl, inV_falses]
              exact kk _ (by rw [e0, decide_eq_true c3, Bool.true_and]) _ sG
            · rw [decide_eq_false (fun z : V.int ((V.str x :: vr).length : Nat) = V.int 2 => by injection z with z; rw [List.length_cons, hxl] at z; omega)]
              exact iteF (kk _ (by rw [e0, decide_eq_false c3, Bool.false_and]) _ sG)
          · rw [decide_eq_false (fun z : V.str x = V.str "not" => c2 (by injection z))]
            refine iteF ⟨rfl, _, rfl, ?_⟩
            rw [if_neg c2] at e0
            by_cases c3 : r.length + 1 = 3
            · rw [decide_eq_true (show V.int ((V.str x :: vr).length : Nat) = V.int 3 by rw [List.length_cons, hxl, c3]; rfl)]
              refine iteT ⟨V.ref D, rfl, D, _, rfl, .inl (.inl (.inl hD)), rfl, hfl, ?_⟩
              rw [if_pos rfl, inV_falses]
              exact kk _ (by rw [e0, decide_eq_true c3, Bool.true_and]) _ sG
            · rw [decide_eq_false (fun z : V.int ((V.str x :: vr).length : Nat) = V.int 3 => by injection z with z; rw [List.length_cons, hxl] at z; omega)]
              exact iteF (kk _ (by rw [e0, decide_eq_false c3, Bool.false_and]) _ sG)
      · refine .inr ⟨V.ref p, rfl, 1, rfl, .inr ⟨p, _, rfl, Same.seqT s12 hq, fun z => ?_, fun _ u nu => ?_⟩⟩
        · exfalso
          have z := z.1
          rw [show (some (1 : Int)) = some ((1 : Nat) : Int) from rfl, HT.sIx_nat] at z
          simp at z
        have s3 := upd_new (o := .tup vr) nu
        have hu3 : upd H2 u (.tup vr) u = some (.tup vr) := upd_same
        rw [show cutV (V.str x :: vr) (some 1) none = vr from hcut]
        generalize upd H2 u (.tup vr) = H3 at s3 hu3 ⊢
        have s3' := s12.trans s3
        refine ⟨u, rfl, ⟨vr, .inl (.inl hu3)⟩, fun D nD => lc_it (walk_tup (K := K) (xs := vr)) (fun i G => Same H3 G ∧ G D = some (.lst ((r.take i).map fun e => V.bl (okT m e)))) ⟨upd_new nD, upd_same⟩ (fun i G _ q => .inl (.inl (q.1 _ _ hu3))) ?_ ?_⟩
        · rintro i x G G' hi ⟨sG, hD⟩ ⟨rfl, hx⟩
          obtain ⟨dd, hdd, hde⟩ := deAll_at hdr hx
          have hm' := List.mem_of_getElem? hdd
          refine ⟨rfl, x, rfl, V.int ((m + 1 : Nat) : Int), rfl, ((m + 1 : Nat) : Int), 1, rfl, rfl, x, dd, m, (by show [x, V.int (((m + 1 : Nat) : Int) - 1)] = _; rw [subE]), by omega, de_mono (s3'.trans sG) _ _ hde, hhr dd hm', fun G2 s2' => ?_⟩
          have hD2 := s2' _ _ hD
          refine ⟨_, hD2, by rw [List.length_map, List.length_take]; omega, same_upd nD (sG.trans s2'), ?_⟩
          rw [take_snoc hdd, List.map_append]
          exact upd_same
        · rintro G ⟨sG, hD⟩
          rw [hxl, List.take_length] at hD
          have sG := s3'.trans sG
          refine ⟨V.ref p, rfl, p, _, rfl, sq sG, V.ref p, rfl, ixF 0 _ _ sG rfl ⟨rfl, _, rfl, ?_⟩⟩
          have e0 := okTL_in (f := okT m) (r := r) c1
          have hfl : (r.map fun e => V.bl (okT m e)).all flatV = true := by
            rw [List.all_eq_true]
            intro y hy
            obtain ⟨z, _, rfl⟩ := List.mem_map.mp hy
            rfl
          by_cases c2 : x = Str.ofString "not"
          · rw [decide_eq_true (show V.str x = V.str "not" by rw [c2])]
            refine iteT ⟨rfl, _, rfl, ?_⟩
            rw [if_pos c2] at e0
            by_cases c3 : r.length + 1 = 2
            · rw [decide_eq_true (show V.int ((V.str x :: vr).length : Nat) = V.int 2 by rw [List.length_cons, hxl, c3]; rfl)]
              refine iteT ⟨V.ref D, rfl, D, _, rfl, .inl (.inl (.inl hD)), rfl, hfl, ?_⟩
              rw [if_pos rfl, inV_falses]
              exact kk _ (by rw [e0, decide_eq_true c3, Bool.true_and]) _ sG
            · rw [decide_eq_false (fun z : V.int ((V.str x :: vr).length : Nat) = V.int 2 => by injection z with z; rw [List.length_cons, hxl] at z; omega)]
              exact iteF (kk _ (by rw [e0, decide_eq_false c3, Bool.false_and]) _ sG)
          · rw [decide_eq_false (fun z : V.str x = V.str "not" => c2 (by injection z))]
            refine iteF ⟨rfl, _, rfl, ?_⟩
            rw [if_neg c2] at e0
            by_cases c3 : r.length + 1 = 3
            · rw [decide_eq_true (show V.int ((V.str x :: vr).length : Nat) = V.int 3 by rw [List.length_cons, hxl, c3]; rfl)]
              refine iteT ⟨V.ref D, rfl, D, _, rfl, .inl (.inl (.inl hD)), rfl, hfl, ?_⟩
              rw [if_pos rfl, inV_falses]
              exact kk _ (by rw [e0, decide_eq_true c3, Bool.true_and]) _ sG
            · rw [decide_eq_false (fun z : V.int ((V.str x :: vr).length : Nat) = V.int 3 => by injection z with z; rw [List.length_cons, hxl] at z; omega)]
              exact iteF (kk _ (by rw [e0, decide_eq_false c3, Bool.false_and]) _ sG)
    · rw [decide_eq_false c1]
      refine iteF ⟨V.ref p, rfl, ixF 0 _ _ s12 rfl ⟨rfl, _, rfl, ?_⟩⟩
      by_cases c2 : x = Str.ofString "others"
      · rw [decide_eq_true (show V.str x = V.str "others" by rw [c2])]
        subst c2
        have e0 := okTL_others (f := okT m) (r := r)
        refine iteT ⟨V.ref p, rfl, p, _, rfl, sq s12, rfl, _, rfl, ?_⟩
        cases hdr with
        | nil =>
          exact iteF (kk false (by rw [e0]; rfl) _ s12)
        | @cons v2 vr2 e2 r2 hd2 hdr2 =>
          cases hdr2 with
          | nil =>
            obtain ⟨q1, q2, q3, q4, q5⟩ := hho rfl e2 (by simp)
            refine iteT ⟨V.ref p, rfl, ixF 1 v2 _ s12 rfl ⟨v2, e2, rfl, de_mono s12 _ _ hd2, q1, q2, q3, q4, (by show 3 ≤ sizeLine; decide), fun q' nq' => ?_⟩⟩
            have s3 := upd_new (o := .tup [.str "0", .str "1", .str "2"]) nq'
            have hq3 : upd H2 q' (.tup [.str "0", .str "1", .str "2"]) q' = some (.tup [.str "0", .str "1", .str "2"]) := upd_same
            refine ⟨q', (["0", "1", "2"] : List Str).map V.str, rfl, .inr (.inl (.inl hq3)), rfl, flat_strs ["0", "1", "2"], ?_⟩
            rw [if_neg Bool.false_ne_true, inV_strs, q5]
            exact kk _ (by rw [e0]; simp) _ (s12.trans s3)
          | cons h3 h4 =>
            rw [decide_eq_false (fun z : V.int _ = V.int 2 => by injection z with z; simp at z; omega)]
            exact iteF (kk false (by rw [e0]; simp) _ s12)
      · rw [decide_eq_false (fun z : V.str x = V.str "others" => c2 (by injection z))]
        have e0 := okTL_else (f := okT m) (r := r) c1 c2
        refine iteF ⟨V.ref p, rfl, p, _, rfl, sq s12, rfl, _, rfl, ?_⟩
        cases hdr with
        | nil =>
          refine iteT ⟨V.ref p, rfl, ixF 0 _ _ s12 rfl ⟨(by show 10 ≤ sizeLine; decide), fun q' nq' => ?_⟩⟩
          have s3 := upd_new (o := .lst (plain10.map V.str)) nq'
          have hq3 : upd H2 q' (.lst (plain10.map V.str)) q' = some (.lst (plain10.map V.str)) := upd_same
          refine ⟨q', plain10.map V.str, rfl, .inl (.inl (.inl hq3)), rfl, flat_strs plain10, ?_⟩
          rw [if_neg Bool.false_ne_true, inV_strs]
          exact kk _ (by rw [e0]; simp) _ (s12.trans s3)
        | cons h3 h4 =>
          rw [decide_eq_false (fun z : V.int _ = V.int 1 => by injection z with z; simp at z; omega)]
          exact iteF (kk false (by rw [e0]; simp) _ s12)
end
end SK
namespace SK
open PySem PySem.Spec PyProof.Rows L2 LamX NdefX
open K0 (De DeAll XCl spX withX)
/-! ### the law's statements -/
def bD (c : PyData) : Prop := c.canLay0 = true ∧ c.showable = true ∧ c.depth ≤ 8 ∧ c.shown.length ≤ sizeLine ∧ decide (c.shown ∈ (["True", "False"] : List Str)) = isB c
/-- what the law looks at in a statement -/
def sdX (d : PyData) : Prop := ∀ h a r, isTL d = true → elems d = h :: a :: r → (nm h = some (Str.ofString "set") → ∀ c, r = [c] → bD c) ∧ (nm h = some (Str.ofString "if") → tD 6 a)
def sD (d : PyData) : Prop := hdS d ∧ sdX d
def letT (x : Str) : Str := if x = "mark" then "down turn up" else if x = "unmark" then "down turn up" else if x = "make" then "down" else if x = "cut" then "turn up" else if x = "keep" then "down turn" else "down up"
def letL5 : List (Key × V) := [(Sum.inr "mark", .str "down turn up"), (Sum.inr "unmark", .str "down turn up"), (Sum.inr "make", .str "down"), (Sum.inr "cut", .str "turn up"), (Sum.inr "keep", .str "down turn")]
def letL : List (Key × V) := [(Sum.inr "mark", .str "down turn up"), (Sum.inr "unmark", .str "down turn up"), (Sum.inr "make", .str "down"), (Sum.inr "cut", .str "turn up"), (Sum.inr "keep", .str "down turn"), (Sum.inr "stop", .str "down up")]
theorem letL_merge : mergeK [] letL5 = letL5 := by kernel_rfl
theorem letL_put : putK letL5 (Sum.inr "stop") (.str "down up") = letL := by kernel_rfl
theorem letL_yes : ∀ x ∈ letK, valV letL (Sum.inr x) = some (.str (letT x)) := by
  intro x hx
  unfold letK at hx
  simp only [List.mem_cons, List.mem_nil_iff, or_false] at hx
  rcases hx with rfl | rfl | rfl | rfl | rfl | rfl <;> kernel_rfl
theorem letL_no {x : Str} (h : x ∉ letK) : valV letL (Sum.inr x) = none := by
  unfold valV
  rw [List.find?_eq_none.mpr fun kv hkv => ?_]
  · rfl
  · intro z
    have z : kv.1 = Sum.inr x := of_decide_eq_true z
    have q : ∀ kv ∈ letL, ∃ y ∈ letK, kv.1 = Sum.inr y := by
      intro kv hkv
      simp only [letL, List.mem_cons, List.mem_nil_iff, or_false] at hkv
      rcases hkv with rfl | rfl | rfl | rfl | rfl | rfl <;> exact ⟨_, by decide +kernel, rfl⟩
    obtain ⟨y, hy, e⟩ := q kv hkv
    rw [e] at z
    injection z with z
    exact h (z ▸ hy)
theorem letT_split : ∀ x ∈ letK, Txt.split (letT x) " " = letD x := by decide +kernel
theorem letT_len : ∀ x ∈ letK, (letT x).length ≤ 12 := by decide +kernel
theorem letD_flat {x : Str} : ((letD x).map V.str).all flatV = true := flat_strs _
theorem okSL_one {blk x : Str} (h : x = Str.ofString "if" ∨ x = Str.ofString "set" ∨ x = Str.ofString "return") : okSL blk [.str x] = false := by
  show wordLet (.str x) blk = false
  show decide (blk ∈ letD x) = false
  rcases h with rfl | rfl | rfl
  · rw [show letD (Str.ofString "if") = [] by decide +kernel]
    simp
  · rw [show letD (Str.ofString "set") = [] by decide +kernel]
    simp
  · rw [show letD (Str.ofString "return") = [] by decide +kernel]
    simp
abbrev NIr : List Str := ["value", "name", "kind", "size", "lists", "answers", "let"]
def spRi (K : PySem.W.Frag) : Sp := fun vs H Q _ => ∃ (v : V) (d : PyData) (blk : Str), vs = [v, .str blk] ∧ De K H v d ∧ blk ∈ blk3 ∧ sD d ∧ ∀ H', Same H H' → Q (.bl (okS blk d)) H'
section
variable {P : Program} {w : World} {K : PySem.W.Frag} {mg : Str → Option Value} {base : Heap} {f fT : Addr} {fd fdT : FuncData}
theorem ok_ri (F : Fun K "_law_is_right" "_law_is_right" (top 62) f fd) (gN : mg "len" = none) (gI : mg "isinstance" = none) (gTp : mg "tuple" = none) (gL : mg "list" = none) (gSt : mg "str" = none) (gRp : mg "repr" = none) (hsys : ∃ o, K.lookup sysModules = some o)
    (gT : mg "_law_is_test" = some (.ref fT)) (kT : PySem.W.keepIn K (.ref fT) = true) (GT : FnG P w K mg base CX0 8 fT fdT ["value", "most"] (spLaT K 7)) (bT : Binds K fdT ["value", "most"] []) : FnG P w K mg base CX0 9 f fd ["value", "name"] (spRi K) := by
  have S0 : FnScope NIr ["value", "name"] (defScope (top 62)) := ⟨rfl, rfl, rfl, by decide +kernel, rfl, by decide +kernel, by decide +kernel⟩
  have nd := S0.nd
  refine FnG.ok F S0 (fun vs H Q E h => ?_) (fun cdv A outer s H vs Q E hg hr h => ?_)
  · obtain ⟨v, d, blk, rfl, _⟩ := h
    rfl
  · obtain ⟨v, d, blk, rfl, hd, hb, ⟨hh, hx⟩, kk⟩ := h
    have hu64 := hr.units
    have hu := hu_of hr
    have b5 : (5000 : Nat) < sizeLine := by decide
    refine ⟨_, (pss_cons (ps_if (PW.pt (pw_or (pt_not (pt_val (pe_callB (r := rIsiT K) call_isiT (by rfl) gI PyProof.Rows.boot_isinstance (pa_cons (pv 0) (pa_cons (pe_tup (pa_cons (pe_bltn (v := .ty "tuple") (by rfl) gTp PyProof.Rows.boot_tuple rfl) (pa_cons (pe_bltn (v := .ty "list") (by rfl) gL PyProof.Rows.boot_list rfl) pa_nil))) pa_nil))))) (pw_or (pt_cmpR op_eq (pe_callB call_len_seq (by rfl) gN PySem.boot_len (pa_cons (pv 0) pa_nil)) pe_int (nomark _)) (pw_or1 (pt_not (pt_val (pe_callB (r := rIsi K) call_isi (by rfl) gI PyProof.Rows.boot_isinstance (pa_cons (pe_ix (r := rIx K) ix_seq (pv 0) pe_int (fun _ _ => rfl)) (pa_cons (pe_bltn (v := .ty "str") (by rfl) gSt PyProof.Rows.boot_str rfl) pa_nil))))))))) (pss_one (ps_ret pe_bl)) pss_nil)
        (pss_cons (ps_par (i := 2) (j := 3) rfl nd rfl rfl (by decide) rfl rfl (pa_cons (pe_ix (r := rIx K) ix_seq (pv 0) pe_int (fun _ _ => rfl)) (pa_cons (pe_callB call_len_seq (by rfl) gN PySem.boot_len (pa_cons (pv 0) pa_nil)) pa_nil)) rfl)
        (pss_cons (ps_if (pt_cmpR op_eq (pv 2) pe_str (nomark _)) (pss_cons (ps_set (i := 4) nd rfl (Or.inl rfl) (pe_and (pe_cmpR op_eq (pv 3) pe_int (nomark _)) (pe_and (pe_callB (r := rIsiT K) call_isiT (by rfl) gI PyProof.Rows.boot_isinstance (pa_cons (pe_ix (r := rIx K) ix_seq (pv 0) pe_int (fun _ _ => rfl)) (pa_cons (pe_tup (pa_cons (pe_bltn (v := .ty "tuple") (by rfl) gTp PyProof.Rows.boot_tuple rfl) (pa_cons (pe_bltn (v := .ty "list") (by rfl) gL PyProof.Rows.boot_list rfl) pa_nil))) pa_nil))) (pe_one (pe_callB (r := rIsiT K) call_isiT (by rfl) gI PyProof.Rows.boot_isinstance (pa_cons (pe_ix (r := rIx K) ix_seq (pv 0) pe_int (fun _ _ => rfl)) (pa_cons (pe_tup (pa_cons (pe_bltn (v := .ty "tuple") (by rfl) gTp PyProof.Rows.boot_tuple rfl) (pa_cons (pe_bltn (v := .ty "list") (by rfl) gL PyProof.Rows.boot_list rfl) pa_nil))) pa_nil)))))))
        (pss_one (ps_ret (pe_and (pv 4) (pe_and (pe_cmpR op_gt (pe_callB call_len_seq (by rfl) gN PySem.boot_len (pa_cons (pe_ix (r := rIx K) ix_seq (pv 0) pe_int (fun _ _ => rfl)) pa_nil)) pe_int (nomark _)) (pe_one (pe_callG GT hg hr (by rfl) gT kT bT pass0 (pa_cons (pe_ix (r := rIx K) ix_seq (pv 0) pe_int (fun _ _ => rfl)) (pa_cons pe_int pa_nil))))))))) pss_nil)
        (pss_cons (ps_if (pt_cmpR op_eq (pv 2) pe_str (nomark _)) (pss_one (ps_ret (pe_and (pe_cmpR op_eq (pv 3) pe_int (nomark _)) (pe_and (pe_cmpR (r := rInD K false) (op_inD hu64) (pe_ix (r := rIx K) ix_seq (pv 0) pe_int (fun _ _ => rfl)) (pe_lst (pa_cons pe_str (pa_cons pe_str (pa_cons pe_str pa_nil)))) (by rfl)) (pe_one (pe_cmpR (r := rIn K false) op_in_seq (pe_callB (r := rRepD K) (call_repD hg hu64 hsys) (by rfl) gRp PyProof.Rows.boot_repr (pa_cons (pe_ix (r := rIx K) ix_seq (pv 0) pe_int (fun _ _ => rfl)) pa_nil)) (pe_tup (pa_cons pe_str (pa_cons pe_str pa_nil))) (by rfl))))))) pss_nil)
        (pss_cons (ps_if (pt_cmpR op_eq (pv 2) pe_str (nomark _)) (pss_cons (ps_set (i := 5) nd rfl (Or.inl rfl) (pe_and (pe_cmpR op_gt (pv 3) pe_int (nomark _)) (pe_one (pe_cmpR (r := rInD K false) (op_inD hu64) (pe_ix (r := rIx K) ix_seq (pv 0) pe_int (fun _ _ => rfl)) (pe_lst (pa_cons pe_str (pa_cons pe_str (pa_cons pe_str (pa_cons pe_str pa_nil))))) (by rfl)))))
        (pss_one (ps_ret (pe_and (pv 5) (pe_one (pe_or (pe_cmpR op_eq (pv 3) pe_int (nomark _)) (pe_one (pe_and (pe_cmpR op_eq (pv 3) pe_int (nomark _)) (pe_and (pe_cmpR (r := rEqD K) (op_eqD hu64) (pe_ix (r := rIx K) ix_seq (pv 0) pe_int (fun _ _ => rfl)) pe_str (nomark _)) (pe_one (pe_cmpR op_eq (pv 1) pe_str (nomark _)))))))))))) pss_nil)
        (pss_cons (ps_set (i := 6) nd rfl (Or.inl rfl) (pe_disp (pps_cons pe_str pe_str (pps_cons pe_str pe_str (pps_cons pe_str pe_str (pps_cons pe_str pe_str (pps_cons pe_str pe_str pps_nil))))) rfl rfl (by simp) (by decide)))
        (pss_cons (ps_dput hu (pv 6) pe_str pe_str rfl)
        (pss_one (ps_ret (pe_and (pe_cmpR op_eq (pv 3) pe_int (nomark _)) (pe_and (pe_cmp (pc_din hu (pv 2) (pv 6)) (by rfl)) (pe_one (pe_cmpR (r := rIn K false) op_in_seq (pv 1) (pe_m1 PySem.F.slot_str_split PySem.F.type_str_split mt_split (pe_dget hu (pv 6) (pv 2) (fun _ _ => rfl)) pe_str) (by rfl)))))))))))))), ?_⟩
    refine ⟨v, rfl, (by show 2 ≤ sizeLine; decide), fun tp hp => ?_⟩
    have s1 := upd_new (o := .tup [.ty "tuple", .ty "list"]) hp
    have t1 : upd H tp (.tup [.ty "tuple", .ty "list"]) tp = some (.tup [.ty "tuple", .ty "list"]) := upd_same
    generalize upd H tp (.tup [.ty "tuple", .ty "list"]) = H1 at s1 t1
    obtain ⟨Ty, tx, _, _, b1, b2, k1, k2, kt⟩ := ty_of (de_mono s1 d v hd)
    refine ⟨v, tp, [.ty "tuple", .ty "list"], .type Ty, [.type "tuple", .type "list"], isTL d, rfl, t1, .cons (.ty _) (.cons (.ty _) .nil), tx, (by rw [← kt]; exact kit_two k1 k2), isTL d, rfl, ?_⟩
    rcases tl_shape hd with e | ⟨p, xs, rfl, hds, hsq, e⟩
    · rw [e]
      refine iteT ?_
      have z := kk H1 s1
      unfold okS at z
      rw [e, Bool.false_and] at z
      exact z
    rw [e]
    have kk : ∀ b, okSL blk (elems d) = b → ∀ H', Same H H' → Q (.bl b) H' := fun b eb H' s => by
      have z := kk H' s
      unfold okS at z
      rw [e, Bool.true_and, eb] at z
      exact z
    have hh := fun h r => hh h r e
    have hx := fun h a r => hx h a r e
    generalize elems d = ds at hds kk hh hx
    have hds0 := hds
    have sq : ∀ {H' : Hp}, Same H H' → (SqL K H' p xs ∨ SqT K H' p xs) := fun {H'} s => hsq.elim (fun h => .inl (Same.seq s h)) (fun h => .inr (Same.seqT s h))
    have ixF : ∀ {H' : Hp} (j : Nat) (v' : V) (R : VK), Same H H' → xs[j]? = some v' → R v' H' → rIx K (.ref p) (.int (j : Nat)) H' R := fun {H'} j v' R s hj hR => by
      rcases sq s with h | h
      · exact .inl ⟨p, xs, (j : Int), v', rfl, rfl, h, atI_nat hj, hR⟩
      · exact .inr (.inl ⟨p, xs, (j : Int), v', rfl, rfl, h, atI_nat hj, hR⟩)
    cases hds with
    | nil =>
      refine iteF ⟨V.ref p, rfl, p, [], rfl, sq s1, rfl, _, rfl, iteT ?_⟩
      exact kk false rfl H1 s1
    | @cons v1 vr h r hd1 hdr =>
    have hxl := deAll_len hdr
    obtain ⟨hh1, hhr⟩ := hh h r rfl
    refine iteF ⟨V.ref p, rfl, p, _, rfl, sq s1, rfl, _, rfl, ?_⟩
    rw [decide_eq_false (fun z : V.int _ = V.int 0 => by injection z with z; simp at z; omega)]
    obtain ⟨T4, x4, k4, _⟩ := ty_of (de_mono s1 _ _ hd1)
    refine iteF ⟨V.ref p, rfl, ixF 0 v1 _ s1 rfl ⟨v1, .ty "str", .type T4, .type "str", isS h, rfl, .ty _, x4, kit_ty k4, isS h, rfl, ?_⟩⟩
    cases es : isS h with
    | false =>
      refine iteT (kk false ?_ H1 s1)
      have en := nm_none es
      cases r with
      | nil =>
        show wordLet h blk = false
        unfold wordLet
        rw [en]
      | cons a r =>
        show okS2 blk h (h :: a :: r) = false
        unfold okS2
        rw [en, if_neg (fun z => nomatch z), if_neg (fun z => nomatch z)]
        rfl
    | true =>
    obtain ⟨x, rfl⟩ : ∃ x, h = .str x := by
      cases h with
      | str x => exact ⟨x, rfl⟩
      | _ => cases es
    cases hd1
    refine iteF ⟨V.ref p, rfl, ixF 0 _ _ s1 rfl ⟨V.ref p, rfl, p, _, rfl, sq s1, V.str x, V.int _, rfl, ?_⟩⟩
    have en : nm (.str x) = some x := rfl
    have sz : ∀ {n : Nat}, (V.int ((V.str x :: vr).length : Nat) = V.int (n : Nat)) ↔ r.length + 1 = n := fun {n} => by
      rw [List.length_cons, hxl]
      constructor
      · intro z
        injection z with z
        omega
      · intro z
        rw [z]
    have isl : ∀ {H' : Hp} (u : V) (dd : PyData), De K H' u dd → ∃ T : String, TyX K H' u (.type T) ∧ PySem.W.kitAny K (.type T) [.type "tuple", .type "list"] = some (isTL dd) := fun {H'} u dd hde => by
      obtain ⟨T9, x9, _, _, b9, c9, k9, m9, t9⟩ := ty_of hde
      exact ⟨T9, x9, by rw [← t9]; exact kit_two k9 m9⟩
    have lst : ∀ {H' : Hp} (ws : List Str) (a : PyData) (u : V) (R : VK), HdOk a → De K H' u a → PyData.canLayAll0 (ws.map PyData.str) = true → (∀ H2, Same H' H2 → R (.bl (inS ws a)) H2) → ∀ q, H' q = none → rInD K false u (.ref q) (upd H' q (.lst (ws.map V.str))) R := fun {H'} ws a u R ha hde hl k q nq => by
      have s9 := upd_new (o := .lst (ws.map V.str)) nq
      refine ⟨q, _, ws.map PyData.str, a, rfl, .inl (.inl (.inl upd_same)), dp_strs ws, ha.dp (de_mono s9 _ _ hde), ha.lay.1, hl, ha.lay.2, ?_⟩
      rw [if_neg Bool.false_ne_true, any_strs]
      exact k _ s9
    refine ⟨V.str x, rfl, rfl, _, rfl, ?_⟩
    by_cases c1 : x = Str.ofString "if"
    · rw [decide_eq_true (show V.str x = V.str "if" by rw [c1])]
      refine iteT ⟨V.int _, rfl, rfl, _, rfl, ?_⟩
      by_cases c4 : r.length + 1 = 4
      · rw [decide_eq_true (show V.int ((V.str x :: vr).length : Nat) = V.int 4 from (sz (n := 4)).mpr c4)]
        obtain ⟨a, b1, b2, rfl⟩ : ∃ a b1 b2, r = [a, b1, b2] := by
          match r, c4 with
          | [a, b1, b2], _ => exact ⟨a, b1, b2, rfl⟩
        cases hdr with
        | @cons v2 _ _ _ d2 hdr =>
        cases hdr with
        | @cons v3 _ _ _ d3 hdr =>
        cases hdr with
        | @cons v4 _ _ _ d4 hdr =>
        cases hdr
        have ht := (hx (.str x) a [b1, b2] rfl).2 (by rw [c1]; rfl)
        have e0 : okSL blk [.str x, a, b1, b2] = (okT 6 a && (isTL b1 && (!(elems b1).isEmpty && isTL b2))) := by
          show okS2 blk (.str x) _ = _
          unfold okS2
          rw [c1, if_neg (by decide +kernel), if_neg (by decide +kernel)]
          rfl
        refine iteT ⟨V.ref p, rfl, ixF 2 v3 _ s1 rfl ⟨(by show 2 ≤ sizeLine; decide), fun q nq => ?_⟩⟩
        have s2 := upd_new (o := .tup [.ty "tuple", .ty "list"]) nq
        have hq2 : upd H1 q (.tup [.ty "tuple", .ty "list"]) q = some (.tup [.ty "tuple", .ty "list"]) := upd_same
        generalize upd H1 q (.tup [.ty "tuple", .ty "list"]) = H2 at s2 hq2
        have s2 := s1.trans s2
        obtain ⟨T9, x9, k9⟩ := isl v3 b1 (de_mono s2 _ _ d3)
        refine ⟨v3, q, [.ty "tuple", .ty "list"], .type T9, [.type "tuple", .type "list"], isTL b1, rfl, hq2, .cons (.ty _) (.cons (.ty _) .nil), x9, k9, _, rfl, ?_⟩
        cases e1 : isTL b1 with
        | false =>
          refine iteF ⟨V.bl false, rfl, _, rfl, iteF ?_⟩
          exact kk _ (by rw [e0, e1, Bool.false_and, Bool.and_false]) _ s2
        | true =>
        refine iteT ⟨V.ref p, rfl, ixF 3 v4 _ s2 rfl ⟨(by show 2 ≤ sizeLine; decide), fun q' nq' => ?_⟩⟩
        have s3 := upd_new (o := .tup [.ty "tuple", .ty "list"]) nq'
        have hq3 : upd H2 q' (.tup [.ty "tuple", .ty "list"]) q' = some (.tup [.ty "tuple", .ty "list"]) := upd_same
        generalize upd H2 q' (.tup [.ty "tuple", .ty "list"]) = H3 at s3 hq3
        have s3 := s2.trans s3
        obtain ⟨T8, x8, k8⟩ := isl v4 b2 (de_mono s3 _ _ d4)
        refine ⟨v4, q', [.ty "tuple", .ty "list"], .type T8, [.type "tuple", .type "list"], isTL b2, rfl, hq3, .cons (.ty _) (.cons (.ty _) .nil), x8, k8, V.bl (isTL b2), rfl, _, rfl, ?_⟩
        cases e2 : isTL b2 with
        | false =>
          refine iteF ?_
          exact kk _ (by rw [e0, e2, Bool.and_false, Bool.and_false, Bool.and_false]) _ s3
        | true =>
        rcases tl_shape d3 with z | ⟨p3, ys, rfl, hys, hsq3, _⟩
        · rw [e1] at z
          cases z
        have hsq3 : SqL K H3 p3 ys ∨ SqT K H3 p3 ys := hsq3.elim (fun h => .inl (Same.seq s3 h)) (fun h => .inr (Same.seqT s3 h))
        refine iteT ⟨V.ref p, rfl, ixF 2 _ _ s3 rfl ⟨p3, ys, rfl, hsq3, _, _, rfl, rfl, _, rfl, ?_⟩⟩
        have hyl := deAll_len hys
        cases hel : elems b1 with
        | nil =>
          rw [hel] at hyl
          rw [decide_eq_false (show ¬ (0 : Int) < ((ys.length : Nat) : Int) by rw [hyl]; simp)]
          exact iteF (kk _ (by rw [e0, hel]; simp) _ s3)
        | cons e0' es' =>
          rw [hel] at hyl
          rw [decide_eq_true (show (0 : Int) < ((ys.length : Nat) : Int) by rw [hyl]; simp)]
          refine iteT ⟨V.ref p, rfl, ixF 1 v2 _ s3 rfl ⟨v2, a, 6, rfl, by omega, de_mono s3 _ _ d2, ht, fun H4 s4 => ?_⟩⟩
          exact kk _ (by rw [e0, e1, e2, hel]; simp) _ (s3.trans s4)
      · rw [decide_eq_false (fun z : V.int _ = V.int 4 => c4 ((sz (n := 4)).mp z))]
        refine iteF ⟨V.bl false, rfl, _, rfl, iteF ?_⟩
        refine kk _ ?_ _ s1
        cases r with
        | nil => exact okSL_one (.inl c1)
        | cons a r =>
          show okS2 blk (.str x) _ = _
          unfold okS2
          rw [c1, if_neg (by decide +kernel), if_neg (by decide +kernel)]
          match r, c4 with
          | [], _ => simp [okIf]
          | [_], _ => simp [okIf]
          | [_, _], z => exact absurd rfl z
          | _ :: _ :: _ :: _, _ => simp [okIf]
    rw [decide_eq_false (fun z : V.str x = V.str "if" => c1 (by injection z))]
    refine iteF ⟨V.str x, rfl, rfl, _, rfl, ?_⟩
    by_cases c2 : x = Str.ofString "set"
    · rw [decide_eq_true (show V.str x = V.str "set" by rw [c2])]
      refine iteT ⟨V.int _, rfl, rfl, _, rfl, ?_⟩
      by_cases c4 : r.length + 1 = 3
      · rw [decide_eq_true (show V.int ((V.str x :: vr).length : Nat) = V.int 3 from (sz (n := 3)).mpr c4)]
        obtain ⟨a, c, rfl⟩ : ∃ a c, r = [a, c] := by
          match r, c4 with
          | [a, c], _ => exact ⟨a, c, rfl⟩
        cases hdr with
        | @cons v2 _ _ _ d2 hdr =>
        cases hdr with
        | @cons v3 _ _ _ d3 hdr =>
        cases hdr
        obtain ⟨ha, _⟩ := (hhr a [c] rfl).1 (.inl (by rw [c2]; rfl))
        obtain ⟨q1, q2, q3, q4, q5⟩ := (hx (.str x) a [c] rfl).1 (by rw [c2]; rfl) c rfl
        have e0 : okSL blk [.str x, a, c] = (inS ["f", "x", "y"] a && isB c) := by
          show okS2 blk (.str x) _ = _
          unfold okS2
          rw [c2, if_pos (by decide +kernel)]
          rfl
        refine iteT ⟨V.ref p, rfl, ixF 1 v2 _ s1 rfl ⟨(by show 3 ≤ sizeLine; decide), lst ["f", "x", "y"] a v2 _ ha (de_mono s1 _ _ d2) (by decide +kernel) fun H2 s2 => ⟨_, rfl, ?_⟩⟩⟩
        have s2 := s1.trans s2
        cases e1 : inS ["f", "x", "y"] a with
        | false => exact iteF (kk _ (by rw [e0, e1, Bool.false_and]) _ s2)
        | true =>
        refine iteT ⟨V.ref p, rfl, ixF 2 v3 _ s2 rfl ⟨v3, c, rfl, de_mono s2 _ _ d3, q1, q2, q3, q4, (by show 2 ≤ sizeLine; decide), fun q' nq' => ?_⟩⟩
        have s3 := upd_new (o := .tup [.str "True", .str "False"]) nq'
        refine ⟨q', (["True", "False"] : List Str).map V.str, rfl, .inr (.inl (.inl upd_same)), rfl, flat_strs ["True", "False"], ?_⟩
        rw [if_neg Bool.false_ne_true, inV_strs, q5]
        exact kk _ (by rw [e0, e1, Bool.true_and]) _ (s2.trans s3)
      · rw [decide_eq_false (fun z : V.int _ = V.int 3 => c4 ((sz (n := 3)).mp z))]
        refine iteF ?_
        refine kk _ ?_ _ s1
        cases r with
        | nil => exact okSL_one (.inr (.inl c2))
        | cons a r =>
          show okS2 blk (.str x) _ = _
          unfold okS2
          rw [c2, if_pos (by decide +kernel)]
          match r, c4 with
          | [], _ => simp [okSet]
          | [_], z => exact absurd rfl z
          | _ :: _ :: _, _ => simp [okSet]
    rw [decide_eq_false (fun z : V.str x = V.str "set" => c2 (by injection z))]
    refine iteF ⟨V.str x, rfl, rfl, _, rfl, ?_⟩
    by_cases c3 : x = Str.ofString "return"
    · rw [decide_eq_true (show V.str x = V.str "return" by rw [c3])]
      refine iteT ⟨V.int _, rfl, _, _, rfl, rfl, _, rfl, ?_⟩
      cases hdr with
      | nil =>
        refine iteF ⟨V.bl false, rfl, _, rfl, iteF ?_⟩
        exact kk _ (okSL_one (.inr (.inr c3))) _ s1
      | @cons v2 vr2 a r2 d2 hdr =>
      rw [decide_eq_true (show (1 : Int) < (((V.str x :: v2 :: vr2).length : Nat) : Int) by simp; omega)]
      obtain ⟨ha, hc⟩ := (hhr a r2 rfl).1 (.inr (by rw [c3]; rfl))
      have e0 : okSL blk (.str x :: a :: r2) = (inS ans4 a && okRc blk r2) := by
        show okS2 blk (.str x) _ = _
        unfold okS2
        rw [c3, if_neg (by decide +kernel), if_pos (by decide +kernel)]
        rfl
      refine iteT ⟨V.ref p, rfl, ixF 1 v2 _ s1 rfl ⟨(by show 4 ≤ sizeLine; decide), lst ans4 a v2 _ ha (de_mono s1 _ _ d2) (by decide +kernel) fun H2 s2 => ⟨_, rfl, _, rfl, ?_⟩⟩⟩
      have s2 := s1.trans s2
      cases e1 : inS ans4 a with
      | false => exact iteF (kk _ (by rw [e0, e1, Bool.false_and]) _ s2)
      | true =>
      rw [e1, Bool.true_and] at e0
      refine iteT ⟨V.int _, rfl, rfl, _, rfl, ?_⟩
      cases hdr with
      | nil => exact iteT (kk _ (by rw [e0]; rfl) _ s2)
      | @cons v3 vr3 c r3 d3 hdr =>
      have hl3 := deAll_len hdr
      rw [decide_eq_false (fun z : V.int _ = V.int 2 => by have := (sz (n := 2)).mp z; simp at this)]
      refine iteF ⟨V.int _, rfl, rfl, _, rfl, ?_⟩
      cases hdr with
      | cons _ _ =>
        rw [decide_eq_false (fun z : V.int _ = V.int 3 => by have := (sz (n := 3)).mp z; simp at this)]
        exact iteF (kk _ (by rw [e0]; rfl) _ s2)
      | nil =>
      have hc := hc c rfl (by rw [c3]; rfl)
      refine iteT ⟨V.ref p, rfl, ixF 2 v3 _ s2 rfl ⟨c, .str "cut", hc.dp (de_mono s2 _ _ d3), .str _, hc.shaped, by decide +kernel, _, rfl, ?_⟩⟩
      rw [eqv_sr]
      by_cases c5 : nm c = some (Str.ofString "cut")
      · rw [decide_eq_true c5]
        refine iteT ⟨V.str blk, rfl, rfl, ?_⟩
        refine kk _ ?_ _ s2
        rw [e0]
        show (decide (nm c = some (Str.ofString "cut")) && decide (blk = Str.ofString "turn")) = _
        rw [decide_eq_true c5, Bool.true_and]
        by_cases c6 : blk = Str.ofString "turn"
        · rw [decide_eq_true c6, decide_eq_true (show V.str blk = V.str "turn" by rw [c6])]
        · rw [decide_eq_false c6, decide_eq_false (fun z : V.str blk = V.str "turn" => c6 (by injection z))]
      · rw [decide_eq_false c5]
        refine iteF (kk _ ?_ _ s2)
        rw [e0]
        show (decide (nm c = some (Str.ofString "cut")) && decide (blk = Str.ofString "turn")) = _
        rw [decide_eq_false c5, Bool.false_and]
    rw [decide_eq_false (fun z : V.str x = V.str "return" => c3 (by injection z))]
    refine iteF fun L nL => ⟨upd_same, letL5, rfl, (by show 5 ≤ 15; decide), ?_⟩
    rw [letL_merge]
    refine ⟨V.ref L, rfl, L, _, rfl, DPut.k (k := Sum.inr "stop") upd_same (by show 5 < sizeLine; decide), ?_⟩
    rw [letL_put]
    have s2 : Same H1 (upd (upd (upd H1 L (.dK [])) L (.dK letL5)) L (.dK letL)) := fun b o e => by
      have n := ne_of_none e nL
      rw [upd_ne n, upd_ne n, upd_ne n]
      exact e
    have hL : (upd (upd (upd H1 L (.dK [])) L (.dK letL5)) L (.dK letL)) L = some (.dK letL) := upd_same
    generalize upd (upd (upd H1 L (.dK [])) L (.dK letL5)) L (.dK letL) = H2 at s2 hL
    have s2 := s1.trans s2
    have gk := DGet.k (k := (Sum.inr x : Key)) hL
    refine ⟨V.int _, rfl, rfl, _, rfl, ?_⟩
    cases r with
    | cons a r =>
      rw [decide_eq_false (fun z : V.int _ = V.int 1 => by have := (sz (n := 1)).mp z; simp at this)]
      refine iteF (kk _ ?_ _ s2)
      show okS2 blk (.str x) _ = _
      unfold okS2
      rw [en, if_neg (fun z => c2 (Option.some.inj z)), if_neg (fun z => c3 (Option.some.inj z)), decide_eq_false (fun z => c1 (Option.some.inj z)), Bool.false_and]
    | nil =>
    rw [decide_eq_true (show V.int ((V.str x :: vr).length : Nat) = V.int 1 from (sz (n := 1)).mpr rfl)]
    have e0 : okSL blk [.str x] = decide (blk ∈ letD x) := rfl
    by_cases hk : x ∈ letK
    · rw [letL_yes x hk] at gk
      refine iteT ⟨V.str x, rfl, V.ref L, rfl, L, _, rfl, gk, _, rfl, iteT ⟨V.str blk, rfl, V.ref L, rfl, V.str x, rfl, L, _, rfl, gk, ⟨letT x, rfl⟩, letT x, _, rfl, rfl, rfl, ?_, fun q nq => ?_⟩⟩
      · have := letT_len x hk
        omega
      · refine ⟨q, _, rfl, .inl (.inl (.inl upd_same)), rfl, flat_strs _, ?_⟩
        rw [if_neg Bool.false_ne_true, letT_split x hk, inV_strs]
        exact kk _ e0 _ (s2.trans (upd_new nq))
    · rw [letL_no hk] at gk
      refine iteT ⟨V.str x, rfl, V.ref L, rfl, L, _, rfl, gk, _, rfl, iteF (kk _ ?_ _ s2)⟩
      rw [e0, letD_no hk]
      simp
end
end SK
namespace SK
open PySem PySem.Spec PyProof.Rows L2 LamX NdefX
/-! ### zip of a list and a tuple -/
def ItzM (K : PySem.W.Frag) (a b : Addr) : It :=
  ⟨fun i H => ∃ (xs ys : List V) (x y : V), SqL K H a xs ∧ SqT K H b ys ∧ xs[i]? = some x ∧ ys[i]? = some y,
    fun i H v H' => ∃ T x y, v = .ref T ∧ H T = none ∧ H' = upd H T (.tup [x, y]) ∧ (∀ xs, SqL K H a xs → xs[i]? = some x) ∧ ∀ ys, SqT K H b ys → ys[i]? = some y,
    fun i H => ∃ xs ys : List V, SqL K H a xs ∧ SqT K H b ys ∧ (i ≤ xs.length ∧ i ≤ ys.length ∧ (i = xs.length ∨ i = ys.length))⟩
theorem zipSep {z TI TO i1 i2 a b : Addr} (D : ZipApart z TI TO i1 i2 a b) : ZipSep2 z TI TO i1 i2 [i1, a] [i2, b] where
  TIz := D.TIz
  TOz := D.TOz
  TITO := D.TITO
  TIi1 := D.TIi1
  mem1 := by simp
  zf1 := by simp [Ne.symm D.i1z, Ne.symm D.l1z]
  Tf1 := by simp [D.TOi1, Ne.symm D.l1TO]
  TIi2 := D.TIi2
  mem2 := by simp
  zf2 := by simp [Ne.symm D.i2z, Ne.symm D.l2z]
  Tf2 := by simp [D.TOi2, Ne.symm D.l2TO]
  sep1_2 := by simp [D.i12, Ne.symm D.l2i1]
  sep2_1 := by simp [Ne.symm D.i12, Ne.symm D.l1i2]
theorem turn_zipM {P : Program} {w : World} {K : PySem.W.Frag} {elts : List Expr} {kk : Nat} {tpos : Pos} {a b z TI TO i1 i2 : Addr} (D : ZipApart z TI TO i1 i2 a b) :
    Turn P w K (.Tuple elts kk tpos) (ItzM K a b) [z, TI, TO, i1, i2] z (fun i h => IsZip h z TI TO .none ∧ PySem.IsPair h TI (.ref i1) (.ref i2) ∧ (∃ x y, PySem.IsPair h TO x y) ∧ h.IsListIter i1 a i ∧ h.IsTupleIter i2 b i) where
  mem := by simp
  obj := fun i h st c hc => by
    obtain ⟨hz, hTI, ⟨x, y, hTO⟩, ⟨o1, e1, _, d1⟩, ⟨o2, e2, _, d2⟩⟩ := st
    have e' : c = z ∨ c = TI ∨ c = TO ∨ c = i1 ∨ c = i2 := by simpa using hc
    rcases e' with q | q | q | q | q
    · rw [q]; exact ⟨_, hz, fun v q => nomatch q⟩
    · rw [q]; exact ⟨_, hTI, fun v q => nomatch q⟩
    · rw [q]; exact ⟨_, hTO, fun v q => nomatch q⟩
    · rw [q]; exact ⟨o1, e1, fun v q => by rw [d1] at q; cases q⟩
    · rw [q]; exact ⟨o2, e2, fun v q => by rw [d2] at q; cases q⟩
  keep := fun i h h' st k => by
    obtain ⟨hz, hTI, ⟨x, y, hTO⟩, h1, h2⟩ := st
    exact ⟨k z (by simp) _ hz, k TI (by simp) _ hTI, ⟨x, y, k TO (by simp) _ hTO⟩, h1.at fun o q => k i1 (by simp) o q, h2.at fun o q => k i2 (by simp) o q⟩
  item := by
    intro X hP hw hK hc i pins s σ H E I hf st hg
    subst hP hw hK
    obtain ⟨hz, hTI, ⟨x0, y0, hTO⟩, h1, h2⟩ := st
    obtain ⟨xs, ys, x, y, hqx, hqy, hx, hy⟩ := hg
    obtain ⟨its, rv, p, _⟩ := I.list hqx
    obtain ⟨its2, rv2, p2, _⟩ := I.tuple hqy
    obtain ⟨u, hu, ru⟩ := rv.get hx
    obtain ⟨u2, hu2, ru2⟩ := rv2.get hy
    have hzl : z < s.heap.objs.size := Heap.lt_size hz
    have hd : X.A.in1.handled = none := I.ok.hd hc
    have p2' : s.heap.IsTuple b its2.toArray := p2
    have l1 : i < its.toArray.size := by simpa using (List.getElem?_eq_some_iff.mp hu).1
    have l2 : i < its2.toArray.size := by simpa using (List.getElem?_eq_some_iff.mp hu2).1
    refine wpAny_pyNext_zipD2_item (zipSep D) (Draws.list hd i1 a D.l1i1 its.toArray) (Draws.tuple hd i2 b D.l2i2 its2.toArray) hz hTI hTO ⟨h1, p.isList⟩ ⟨h2, p2'⟩ l1 l2 fun v1 v2 h' tk e1 e2 z' TO' st1 st2 hT hsz hk => ?_
    obtain ⟨h1', _⟩ := st1
    obtain ⟨h2', _⟩ := st2
    have e1 : v1 = u := by
      have z : its.toArray[i]? = some v1 := e1
      have q : its.toArray[i]? = some u := by simpa using hu
      rw [q] at z
      exact (Option.some.inj z).symm
    have e2 : v2 = u2 := by
      have z : its2.toArray[i]? = some v2 := e2
      have q : its2.toArray[i]? = some u2 := by simpa using hu2
      rw [q] at z
      exact (Option.some.inj z).symm
    subst e1 e2
    refine ⟨_, rfl, wpAny_letOwnedTupleGo_zip (s := { s with heap := h', toks := tk }) z' fun h'' z'' sb => ?_⟩
    have hT2 : h''.get? s.heap.objs.size = some { cls := .type "tuple", data := .seq #[v1, v2] } := (sb.2 _ (Nat.ne_of_gt hzl)).trans hT
    have new : ObjOk X.prog X.w (upd H s.heap.objs.size (.tup [x, y])) h'' s.heap.objs.size (.tup [x, y]) :=
      ⟨by show 2 ≤ sizeLine; decide, [v1, v2], .cons ru (.cons ru2 .nil), ⟨_, hT2, rfl, _, rfl⟩⟩
    have I1 : Inv X pins σ (upd H s.heap.objs.size (.tup [x, y])) { s with heap := h'', toks := tk } :=
      I.turnedNew (t' := tk) (ch := [z, TI, TO, i1, i2]) (fun c o hb q => (sb.2 c (fun q' => hb (by simp [q']))).trans (hk c o (fun q' => hb (by simp [q'])) (fun q' => hb (by simp [q'])) (fun q' => hb (by simp [q'])) (fun q' => hb (by simp [q'])) q)) hf (Nat.le_refl _) new
    refine ⟨.ref s.heap.objs.size, _, I1, rfl, ⟨_, x, y, rfl, I.hok.fresh (Nat.le_refl _), rfl, fun l hl => by rw [I.list_inj hl hqx]; exact hx, fun l hl => by rw [I.tuple_inj hl hqy]; exact hy⟩, ⟨z'', ?_, ⟨v1, v2, ?_⟩, ?_, ?_⟩, fun c hcm => ?_⟩
    · exact (sb.2 _ D.TIz).trans (hk _ _ D.TIz D.TITO D.TIi1 D.TIi2 hTI)
    · exact (sb.2 _ D.TOz).trans TO'
    · exact h1'.at fun o q => (sb.2 _ D.i1z).trans q
    · exact h2'.at fun o q => (sb.2 _ D.i2z).trans q
    · have hlt : c < s.heap.objs.size := by
        have e' : c = z ∨ c = TI ∨ c = TO ∨ c = i1 ∨ c = i2 := by simpa using hcm
        rcases e' with q | q | q | q | q
        · rw [q]; exact hzl
        · rw [q]; exact Heap.lt_size hTI
        · rw [q]; exact Heap.lt_size hTO
        · rw [q]; obtain ⟨_, e1, _⟩ := h1; exact Heap.lt_size e1
        · rw [q]; obtain ⟨_, e2, _⟩ := h2; exact Heap.lt_size e2
      rw [upd_ne (Nat.ne_of_lt hlt)]
      exact (hf c hcm).1
  done := by
    intro X hP hw hK hc i pins s σ H E I hf st hg
    subst hP hw hK
    obtain ⟨hz, hTI, ⟨x0, y0, hTO⟩, h1, h2⟩ := st
    obtain ⟨xs, ys, hqx, hqy, g1, g2, hend⟩ := hg
    obtain ⟨its, rv, p, _⟩ := I.list hqx
    obtain ⟨its2, rv2, p2, _⟩ := I.tuple hqy
    have l1 : xs.length = its.toArray.size := by simpa using rv.length
    have l2 : ys.length = its2.toArray.size := by simpa using rv2.length
    have hd : X.A.in1.handled = none := I.ok.hd hc
    have p2' : s.heap.IsTuple b its2.toArray := p2
    exact wpAny_pyNext_zipD2_end (zipSep D) (Draws.list hd i1 a D.l1i1 its.toArray) (Draws.tuple hd i2 b D.l2i2 its2.toArray) hz hTI hTO ⟨h1, p.isList⟩ ⟨h2, p2'⟩ (by omega) (by omega) (by omega) fun h' tk hk => ⟨rfl, I.turnedL (t' := tk) (ch := [z, TI, TO, i1, i2]) (fun c o hb q =>
      hk c o (fun q' => hb (by simp [q'])) (fun q' => hb (by simp [q'])) (fun q' => hb (by simp [q'])) (fun q' => hb (by simp [q'])) q) hf⟩
  self := fun A i s Q E st h => wpAny_pyIter_zip st.1 h
def iZipM (K : PySem.W.Frag) (ta : TA) : TI := fun σ H R => ta σ H fun vs H1 => ∃ a b xs ys, vs = [.ref a, .ref b] ∧ SqL K H1 a xs ∧ SqT K H1 b ys ∧ R (ItzM K a b) H1
theorem pi_zipM {X : Cx} {e e2 : Expr} {ta : TA} {p pos tpos : Pos} {elts : List Expr} {kk : Nat} (hg : Gl X "zip") (hm : X.mg "zip" = none) (ha : PA X [e, e2] ta)
    (hs : starEach [e, e2] X.env = (false, eval e X.env) :: starEach [e2] X.env := by rfl) (hpl : (backTo pos (starEach [e2] X.env)).any (·.1) = false := by rfl) :
    PI X (.Tuple elts kk tpos) (.Call (.Name "zip" p) [e, e2] [] pos) (iZipM X.K ta) := by
  refine ⟨fun pins s σ H R I h => ?_⟩
  refine Call_ (ld_blt I hg hm PyProof.Rows.boot_zip (PyProof.Rows.callWith_type1 (thn (ha.run pos pins s σ H _ I h) fun us s1 ⟨vs, H1, I1, r1, q1⟩ => ?_) hs hpl))
  obtain ⟨a, b, xs, ys, ex, hqx, hqy, q⟩ := q1
  subst ex
  cases r1 with
  | cons r rr =>
    cases rr with
    | cons r' rr =>
      cases rr
      cases r
      cases r'
      have fresh5 : ∀ c, c ∈ [s1.heap.objs.size + 4, s1.heap.objs.size + 2, s1.heap.objs.size + 3, s1.heap.objs.size, s1.heap.objs.size + 1] → FpOk X pins H1 c := fun c hcm => by
        have e' : c = s1.heap.objs.size + 4 ∨ c = s1.heap.objs.size + 2 ∨ c = s1.heap.objs.size + 3 ∨ c = s1.heap.objs.size ∨ c = s1.heap.objs.size + 1 := by simpa using hcm
        have hle : s1.heap.objs.size ≤ c := by
          rcases e' with z | z | z | z | z
          · rw [z]; exact Nat.le_add_right _ _
          · rw [z]; exact Nat.le_add_right _ _
          · rw [z]; exact Nat.le_add_right _ _
          · rw [z]; exact Nat.le_refl _
          · rw [z]; exact Nat.le_add_right _ _
        exact I1.fpOk hle (I1.hok.fresh hle)
      obtain ⟨its, rv, p1, _⟩ := I1.list hqx
      obtain ⟨its2, rv2, p2, _⟩ := I1.tuple hqy
      obtain ⟨o2, ho2, _⟩ := id p2
      have p2' : s1.heap.IsTuple b its2.toArray := p2
      refine zip_begins2 (begins_list a its.toArray) (begins_tuple b its2.toArray) p1.isList p2' fun h' hz hTI hTO h1 h2 hsz hk => wpAny_pyIter_zip hz ?_
      have I2 : Inv X pins σ H1 { s1 with heap := h' } := I1.kept (t' := s1.toks) hk
      exact ⟨s1.heap.objs.size + 4, [s1.heap.objs.size + 4, s1.heap.objs.size + 2, s1.heap.objs.size + 3, s1.heap.objs.size, s1.heap.objs.size + 1], _, _, H1, rfl, I2, turn_zipM (PySem.W.ktu_apart s1.heap.objs.size a b p1.lt (Heap.lt_size ho2)), ⟨hz, hTI, ⟨_, _, hTO⟩, ⟨_, h1, rfl, rfl⟩, ⟨_, h2, rfl, rfl⟩⟩, fresh5, q⟩
theorem walk_zipM {K : PySem.W.Frag} {a b : Addr} {xs ys : List V} {n : Nat} (h1 : xs.length = n) (h2 : ys.length = n) : Walk (ItzM K a b) n (fun H => SqL K H a xs ∧ SqT K H b ys) (YPair (fun i => xs[i]?) (fun i => ys[i]?)) := by
  refine ⟨fun i _ hi q => ?_, fun _ q => ⟨xs, ys, q.1, q.2, by omega⟩, fun i H v H' _ q y => ?_⟩
  · exact ⟨xs, ys, xs[i]'(by omega), ys[i]'(by omega), q.1, q.2, by simp, by simp⟩
  · obtain ⟨T, x, z, h1, h2, h3, h4, h5⟩ := y
    exact ⟨T, x, z, h1, h2, h3, h4 xs q.1, h5 ys q.2⟩
end SK
namespace SK
open PySem PySem.Spec PyProof.Rows L2 LamX NdefX
open K0 (De DeAll XCl spX withX)
/-! ### the error that is due -/
def rNeE (K : PySem.W.Frag) : R2 := fun x y H Q => ∃ (a b : Addr) (xs : List V), x = .ref a ∧ y = .ref b ∧ SqL K H a xs ∧ SqL K H b [] ∧ Q (.bl (!xs.isEmpty)) H
theorem op_neE {X : Cx} (hu : X.A.units < cLine) : OpR X (compareOp .NotEq) (rNeE X.K) := by
  intro pins s σ H x y v u Q I rx ry h
  obtain ⟨a, b, xs, rfl, rfl, h1, h2, q⟩ := h
  obtain rfl : v = Value.ref a := rx
  obtain rfl : u = Value.ref b := ry
  obtain ⟨its, r1, p1, z1⟩ := I.list h1
  obtain ⟨js, r2, p2, z2⟩ := I.list h2
  cases r2
  have hl := r1.length
  show wpAny (model X.prog X.w) X.A (richCompare .NotEq (.ref a) (.ref b)) (EP X pins σ Q) X.xe s
  cases xs with
  | nil =>
    cases r1
    refine SeqAt.RcNeAt.lists (e := fun _ => true) p1.isList p2.isList rfl hu (fun j h1 h2 => absurd h1 (by simp)) X.prog X.w _ _ ⟨.bl false, H, I, ?_, q⟩
    rfl
  | cons x0 xr =>
    cases r1 with
    | cons g1 g2 =>
      refine SeqAt.RcNeAt.lists_lengths p1.isList p2.isList (by simp) hu X.prog X.w _ _ ⟨.bl true, H, I, rfl, q⟩

def scanL (blk : Str) : Nat → List PyData → Prop
  | 0, _ => True
  | F + 1, ws => ws.length ≤ 5000 ∧ ∀ d r, ws = d :: r → sD d ∧ (okS blk d = true → (elems d).length ≤ 5000 ∧ scanL blk F (inner d ++ r))
theorem scanL_H {blk : Str} : ∀ {F : Nat} {ws : List PyData}, scanL blk F ws → scanH blk F ws
  | 0, _, _ => trivial
  | F + 1, ws, h => ⟨h.1, fun d r e => ⟨(h.2 d r e).1.1, fun o => ⟨((h.2 d r e).2 o).1, scanL_H ((h.2 d r e).2 o).2⟩⟩⟩
def ResL (blk : Str) (d : PyData) (r : Nat ⊕ Nat) : Prop := (isTL d = false ∧ r = .inl 0) ∨ (isTL d = true ∧ ∃ F, scanF blk F (elems d) 0 = some r ∧ scanL blk (F + 1) (elems d))
theorem ResL.toB {blk : Str} {d : PyData} {r : Nat ⊕ Nat} (h : ResL blk d r) : ResB blk d r := h.elim .inl fun ⟨e, F, h1, h2⟩ => .inr ⟨e, F, h1, scanL_H h2⟩
abbrev NDu : List Str := ["blocks", "total", "name", "block", "number", "waiting", "told"]
def spDue (K : PySem.W.Frag) : Sp := fun vs H Q _ => ∃ (p : Addr) (v1 v2 v3 : V) (d1 d2 d3 : PyData) (r1 r2 r3 : Nat ⊕ Nat), vs = [.ref p] ∧ H p = some (.tup [v1, v2, v3]) ∧ De K H v1 d1 ∧ De K H v2 d2 ∧ De K H v3 d3 ∧
  ResL (Str.ofString "down") d1 r1 ∧ ResL (Str.ofString "turn") d2 r2 ∧ ResL (Str.ofString "up") d3 r3 ∧ ∀ (H' : Hp) (u : V), Same H H' → De K H' u (ansD (dueB r1 r2 r3)) → Q u H'
section
variable {P : Program} {w : World} {K : PySem.W.Frag} {mg : Str → Option Value} {base : Heap} {f fR : Addr} {fd fdR : FuncData}
theorem ok_due (F : Fun K "_law_due" "_law_due" (top 63) f fd) (gI : mg "isinstance" = none) (gT : mg "tuple" = none) (gL : mg "list" = none) (gLs : mg "list" = none) (gZ : mg "zip" = none)
    (gR : mg "_law_is_right" = some (.ref fR)) (kR : PySem.W.keepIn K (.ref fR) = true) (GR : FnG P w K mg base CX0 9 fR fdR ["value", "name"] (spRi K)) (bR : Binds K fdR ["value", "name"] []) : FnG P w K mg base CX0 10 f fd ["blocks"] (spDue K) := by
  have S0 : FnScope NDu ["blocks"] (defScope (top 63)) := ⟨rfl, rfl, rfl, by decide +kernel, rfl, by decide +kernel, by decide +kernel⟩
  have nd := S0.nd
  refine FnG.ok F S0 (fun vs H Q E h => ?_) (fun cdv A outer s H vs Q E hg hr h => ?_)
  · obtain ⟨p, v1, v2, v3, d1, d2, d3, r1, r2, r3, rfl, _⟩ := h
    rfl
  · obtain ⟨p, v1, v2, v3, d1, d2, d3, r1, r2, r3, rfl, hp, D1, D2, D3, R1, R2, R3, kk⟩ := h
    have hu64 := hr.units
    have hu1 : _ < cLine := Nat.lt_of_le_of_lt (Nat.le_add_right _ 64) hr.units
    have b5 : (5000 : Nat) < sizeLine := by decide
    refine ⟨_, (pss_cons (ps_set (i := 1) nd rfl (Or.inl rfl) pe_int)
        (pss_cons (ps_for PassesOwn.never rfl (pi_zipM (by rfl) gZ (pa_cons (pe_lst (pa_cons pe_str (pa_cons pe_str (pa_cons pe_str pa_nil)))) (pa_cons (pv 0) pa_nil))) (pg_tup rfl (pgs_cons (pg_name (i := 2) nd rfl (Or.inl rfl)) (pgs_cons (pg_name (i := 3) nd rfl (Or.inl rfl)) pgs_nil))) (pss_cons (ps_if (pt_not (pt_val (pe_callB (r := rIsiT K) call_isiT (by rfl) gI PyProof.Rows.boot_isinstance (pa_cons (pv 3) (pa_cons (pe_tup (pa_cons (pe_bltn (v := .ty "tuple") (by rfl) gT PyProof.Rows.boot_tuple rfl) (pa_cons (pe_bltn (v := .ty "list") (by rfl) gL PyProof.Rows.boot_list rfl) pa_nil))) pa_nil))))) (pss_one (ps_ret (pe_tup (pa_cons pe_str (pa_cons (pv 2) (pa_cons pe_int (pa_cons pe_bl pa_nil))))))) pss_nil)
        (pss_cons (ps_par (i := 4) (j := 5) rfl nd rfl rfl (by decide) rfl rfl (pa_cons pe_int (pa_cons (pe_callTy call_list_of (by rfl) gLs PyProof.Rows.boot_list (pa_cons (pv 3) pa_nil)) pa_nil)) rfl)
        (pss_cons (ps_while PassesOwn.never (pt_cmpR (op_neE hu1) (pv 5) (pe_lst pa_nil) (nomark _)) (pss_cons (ps_set (i := 6) nd rfl (Or.inl rfl) (pe_bm PySem.F.plainAttrs_list PySem.F.slot_list_pop PySem.F.type_list_pop mt_popAt (pv 5) (pa_cons pe_int pa_nil)))
        (pss_cons (ps_if (pt_not (pt_val (pe_callG GR hg hr (by rfl) gR kR bR pass0 (pa_cons (pv 6) (pa_cons (pv 2) pa_nil))))) (pss_one (ps_ret (pe_tup (pa_cons pe_str (pa_cons (pv 2) (pa_cons (pv 4) (pa_cons pe_bl pa_nil))))))) pss_nil)
        (pss_cons (ps_set (i := 4) nd rfl (Or.inl rfl) (pe_op op_add (pv 4) pe_int))
        (pss_one (ps_if (pt_cmpR (r := rEqD K) (op_eqD hu64) (pe_ix (r := rIx K) ix_seq (pv 6) pe_int (fun _ _ => rfl)) pe_str (nomark _)) (pss_one (ps_set (i := 5) nd rfl (Or.inl rfl) (pe_op op_cat (pe_op op_cat (pe_callTy call_list_of (by rfl) gLs PyProof.Rows.boot_list (pa_cons (pe_ix (r := rIx K) ix_seq (pv 6) pe_int (fun _ _ => rfl)) pa_nil)) (pe_callTy call_list_of (by rfl) gLs PyProof.Rows.boot_list (pa_cons (pe_ix (r := rIx K) ix_seq (pv 6) pe_int (fun _ _ => rfl)) pa_nil))) (pv 5)))) pss_nil))))))
        (pss_one (ps_set (i := 1) nd rfl (Or.inl rfl) (pe_op op_add (pv 1) (pv 4))))))))
        (pss_one (ps_ret (pe_ifExp (pt_cmpR op_gt (pv 1) pe_int (nomark _)) (pe_tup (pa_cons pe_str (pa_cons (pv 1) (pa_cons pe_int pa_nil)))) pe_non))))), ?_⟩
    refine ⟨(by show 3 ≤ sizeLine; decide), fun a na => ⟨V.ref p, rfl, ?_⟩⟩
    have s1 := upd_new (o := .lst (blk3.map V.str)) na
    have h1 : upd H a (.lst (blk3.map V.str)) a = some (.lst (blk3.map V.str)) := upd_same
    show ∃ a' b' xs' ys', _
    refine ⟨a, p, blk3.map V.str, [v1, v2, v3], rfl, .inl (.inl h1), .inl (.inl (s1 _ _ hp)), ?_⟩
    change ∃ W : Nat → Nat → L2.St → Hp → Prop, (∃ m, W 0 m _ (upd H a (.lst (blk3.map V.str)))) ∧ _
    generalize upd H a (.lst (blk3.map V.str)) = H1 at s1 h1 ⊢
    have hp1 := s1 _ _ hp
    refine for_it (walk_zipM (K := K) (xs := blk3.map V.str) (ys := [v1, v2, v3]) (n := 3) rfl rfl) (fun i σ G => ∃ x2 x3 x4 x5 x6, σ = [some (V.ref p), some (V.int ((([r1, r2, r3].take i).map numR).sum : Nat)), x2, x3, x4, x5, x6] ∧ Same H1 G ∧ ∀ (j : Nat) (q : Nat ⊕ Nat), j < i → [r1, r2, r3][j]? = some q → ∃ n, q = .inr n)
      ⟨none, none, none, none, none, rfl, Same.refl _, fun j q h => absurd h (by omega)⟩ (fun i σ G _ q => by
        obtain ⟨_, _, _, _, _, _, sG, _⟩ := q
        exact ⟨.inl (.inl (sG _ _ h1)), .inl (.inl (sG _ _ hp1))⟩) ?_ ?_
    · rintro i x σ G G' hi ⟨x2, x3, x4, x5, x6, rfl, sG, hpr⟩ ⟨T, xa, xb, rfl, nT, rfl, hxa, hxb⟩
      have s0G := s1.trans sG
      obtain ⟨blk, d, r, rfl, hde, hres, hri, hbi, hbk⟩ : ∃ (blk : Str) (d : PyData) (r : Nat ⊕ Nat), xa = .str blk ∧ De K H xb d ∧ ResL blk d r ∧ [r1, r2, r3][i]? = some r ∧ blk3[i]? = some blk ∧ blk ∈ blk3 := by
        match i, hi, hxa, hxb with
        | 0, _, hxa, hxb =>
          cases hxa
          cases hxb
          exact ⟨_, d1, r1, rfl, D1, R1, rfl, rfl, by decide +kernel⟩
        | 1, _, hxa, hxb =>
          cases hxa
          cases hxb
          exact ⟨_, d2, r2, rfl, D2, R2, rfl, rfl, by decide +kernel⟩
        | 2, _, hxa, hxb =>
          cases hxa
          cases hxb
          exact ⟨_, d3, r3, rfl, D3, R3, rfl, rfl, by decide +kernel⟩
      have duA : ∀ n, r = .inl n → dueB r1 r2 r3 = .stm blk n := due_at hpr hri hbi
      have s2 := upd_new (o := .tup [V.str blk, xb]) nT
      have hT2 : upd G T (.tup [V.str blk, xb]) T = some (.tup [V.str blk, xb]) := upd_same
      generalize upd G T (.tup [V.str blk, xb]) = G2 at s2 hT2
      have s12 := sG.trans s2
      have s02 := s1.trans s12
      refine ⟨T, _, rfl, .inl (.inl hT2), rfl, _, _, rfl, _, _, rfl, rfl, ?_⟩
      refine ⟨xb, rfl, (by show 2 ≤ sizeLine; decide), fun tp np => ?_⟩
      have s3 := upd_new (o := .tup [.ty "tuple", .ty "list"]) np
      have t3 : upd G2 tp (.tup [.ty "tuple", .ty "list"]) tp = some (.tup [.ty "tuple", .ty "list"]) := upd_same
      generalize upd G2 tp (.tup [.ty "tuple", .ty "list"]) = G3 at s3 t3
      have s13 := s12.trans s3
      have s03 := s1.trans s13
      obtain ⟨Ty, tx, _, _, b1, b2, k1, k2, kt⟩ := ty_of (de_mono s03 _ _ hde)
      refine ⟨xb, tp, [.ty "tuple", .ty "list"], .type Ty, [.type "tuple", .type "list"], isTL d, rfl, t3, .cons (.ty _) (.cons (.ty _) .nil), tx, (by rw [← kt]; exact kit_two k1 k2), isTL d, rfl, ?_⟩
      rcases hres with ⟨e, er⟩ | ⟨e, F0, hsc, hsl⟩
      · rw [e]
        refine iteT ⟨V.str blk, rfl, (by show 4 ≤ sizeLine; decide), fun t nt => ?_⟩
        refine kk _ (.ref t) (s03.trans (upd_new nt)) ?_
        rw [duA 0 er]
        exact .tup upd_same (.cons (.str _) (.cons (.str _) (.cons (.int _) (.cons (.bl _) .nil))))
      rw [e]
      rcases tl_shape hde with z | ⟨pb, xs, rfl, hds, hsq, _⟩
      · rw [e] at z
        cases z
      refine iteF ⟨V.ref pb, rfl, pb, xs, rfl, hsq.elim (fun h => .inl (Same.seq s03 h)) (fun h => .inr (Same.seqT s03 h)), fun q nq => ⟨V.int 0, V.ref q, rfl, ?_⟩⟩
      have s4 := upd_new (o := .lst xs) nq
      have hq4 : upd G3 q (.lst xs) q = some (.lst xs) := upd_same
      have nq1 : H1 q = none := none_of s13 nq
      have s14 := s13.trans s4
      generalize upd G3 q (.lst xs) = G4 at s4 hq4 s14
      generalize elems d = ds at hds hsc hsl
      refine ⟨fun m σ G => ∃ (ws : List PyData) (ys : List V) (n : Nat) (q : Addr) (x6 : Option V), σ = [some (.ref p), some (V.int ((([r1, r2, r3].take i).map numR).sum : Nat)), some (.str blk), some (.ref pb), some (.int (n : Nat)), some (.ref q), x6] ∧ H1 q = none ∧ G q = some (.lst ys) ∧ DeAll K H ys ws ∧ scanF blk m ws n = some r ∧ scanL blk (m + 1) ws ∧ Same H1 G, ⟨F0, ds, xs, 0, q, x6, rfl, nq1, hq4, hds, hsc, hsl, s14⟩, ?_⟩
      clear hds hsc hsl hq4 nq1 nq s4 s14 s3 t3 tx
      rintro m σ G5 ⟨ws, ys, n, q, x6, rfl, nq, hq, hdw, hsc, hsl, sG5⟩
      refine ⟨V.ref q, rfl, Nat.zero_le _, fun e5 ne5 => ?_⟩
      have s6 := upd_new (o := .lst []) ne5
      have he6 : upd G5 e5 (.lst []) e5 = some (.lst []) := upd_same
      have hq6 := s6 _ _ hq
      have s16 := sG5.trans s6
      generalize upd G5 e5 (.lst []) = G6 at s6 he6 hq6 s16
      refine ⟨q, e5, ys, rfl, rfl, .inl (.inl hq6), .inl (.inl he6), _, rfl, ?_⟩
      cases hdw with
      | nil =>
        have er : r = .inr n := by
          have z : scanF blk m [] n = some (.inr n) := by cases m <;> rfl
          rw [z] at hsc
          exact (Option.some.inj hsc).symm
        refine iteF ⟨V.int _, rfl, V.int n, rfl, _, _, rfl, rfl, ?_⟩
        refine ⟨some (.str blk), some (.ref pb), some (.int (n : Nat)), some (.ref q), x6, ?_, s16, fun j q' hj hq' => ?_⟩
        · show [some (V.ref p), some (V.int (_ + _)), _, _, _, _, _] = _
          have et : ((([r1, r2, r3].take i).map numR).sum : Int) + ((n : Nat) : Int) = ((([r1, r2, r3].take (i + 1)).map numR).sum : Nat) := by
            rw [take_snoc hri, List.map_append, List.sum_append, er]
            simp [numR]
          rw [et]
        · by_cases q0 : j = i
          · subst q0
            rw [hri] at hq'
            cases hq'
            exact ⟨n, er⟩
          · exact hpr j q' (by omega) hq'
      | @cons w1 wr dd rr hd1 hdr =>
        cases m with
        | zero => cases hsc
        | succ m =>
        have hsc : (if okS blk dd = true then scanF blk m (inner dd ++ rr) (n + 1) else some (.inl n)) = some r := hsc
        obtain ⟨hwl, hsl⟩ := hsl
        obtain ⟨hdd, hnx⟩ := hsl dd rr rfl
        refine iteT ⟨fun σ G => ∃ (ws : List PyData) (ys : List V) (n : Nat) (q : Addr) (x6 : Option V), σ = [some (.ref p), some (V.int ((([r1, r2, r3].take i).map numR).sum : Nat)), some (.str blk), some (.ref pb), some (.int (n : Nat)), some (.ref q), x6] ∧ H1 q = none ∧ G q = some (.lst ys) ∧ DeAll K H ys ws ∧ scanF blk m ws n = some r ∧ scanL blk (m + 1) ws ∧ Same H1 G, fun σ' H' h => ⟨m, by omega, h⟩, ?_⟩
        refine ⟨V.ref q, rfl, .inl ⟨rfl, _, .inl (.inl hq6)⟩, q, w1 :: wr, 0, 0, w1, rfl, rfl, hq6, by decide, by decide, seq_ix (j := 0) rfl (by simp), rfl, ?_⟩
        show gName 6 w1 _ (upd G6 q (.lst wr)) _
        have s7 : Same H1 (upd G6 q (.lst wr)) := fun c u h => by
          rw [upd_ne (ne_of_none h nq)]
          exact s16 _ _ h
        have hq7 : upd G6 q (.lst wr) q = some (.lst wr) := upd_same
        generalize upd G6 q (.lst wr) = G7 at s7 hq7
        have s07 := s1.trans s7
        refine ⟨w1, rfl, V.str blk, rfl, w1, dd, blk, rfl, de_mono s07 _ _ hd1, hbk, hdd, fun G8 s8 => ⟨okS blk dd, rfl, ?_⟩⟩
        have s18 := s7.trans s8
        have s08 := s07.trans s8
        have hq8 := s8 _ _ hq7
        cases eo : okS blk dd with
        | false =>
          rw [eo, if_neg Bool.false_ne_true] at hsc
          have er : r = .inl n := (Option.some.inj hsc).symm
          refine iteT ⟨V.str blk, rfl, V.int n, rfl, (by show 4 ≤ sizeLine; decide), fun t nt => ?_⟩
          refine kk _ (.ref t) (s08.trans (upd_new nt)) ?_
          rw [duA n er]
          exact .tup upd_same (.cons (.str _) (.cons (.str _) (.cons (.int _) (.cons (.bl _) .nil))))
        | true =>
        rw [eo, if_pos rfl] at hsc
        obtain ⟨hel, hnx⟩ := hnx eo
        obtain ⟨ht, h', r', ee, hif⟩ := okS_shape eo
        rcases tl_shape hd1 with z | ⟨p1, us, rfl, hus, hsu, _⟩
        · rw [z] at ht
          cases ht
        have squ : ∀ {H' : Hp}, Same H H' → (SqL K H' p1 us ∨ SqT K H' p1 us) := fun {H'} s => hsu.elim (fun h => .inl (Same.seq s h)) (fun h => .inr (Same.seqT s h))
        have ixF : ∀ {H' : Hp} (j : Nat) (v' : V) (R : VK), Same H H' → us[j]? = some v' → R v' H' → rIx K (.ref p1) (.int (j : Nat)) H' R := fun {H'} j v' R s hj hR => by
          rcases squ s with h | h
          · exact .inl ⟨p1, us, (j : Int), v', rfl, rfl, h, atI_nat hj, hR⟩
          · exact .inr (.inl ⟨p1, us, (j : Int), v', rfl, rfl, h, atI_nat hj, hR⟩)
        have hh' : HdOk h' := (hdd.1 h' r' ht ee).1
        rw [ee] at hus
        cases hus with
        | @cons u0 ur _ _ hu0 hur =>
        refine iteF ⟨V.int n, rfl, (n : Int), 1, rfl, rfl, ?_⟩
        refine ⟨V.ref p1, rfl, ixF 0 u0 _ s08 rfl ⟨h', .str "if", hh'.dp (de_mono s08 _ _ hu0), .str _, hh'.shaped, by decide +kernel, _, rfl, ?_⟩⟩
        rw [eqv_sr]
        by_cases c1 : nm h' = some (Str.ofString "if")
        · rw [decide_eq_true c1]
          obtain ⟨t, b1', b2', rfl, hT1, hT2⟩ := hif c1
          cases hur with
          | @cons u1 _ _ _ hu1 hur =>
          cases hur with
          | @cons u2 _ _ _ hu2 hur =>
          cases hur with
          | @cons u3 _ _ _ hu3 hur =>
          cases hur
          rcases tl_shape hu2 with z | ⟨p2, ys1, rfl, hy1, hs2, _⟩
          · rw [z] at hT1
            cases hT1
          rcases tl_shape hu3 with z | ⟨p3, ys2, rfl, hy2, hs3, _⟩
          · rw [z] at hT2
            cases hT2
          have ei : inner dd = elems b1' ++ elems b2' := by
            unfold inner
            rw [ee]
            exact if_pos c1
          have hz5 := hnx.1
          rw [ei] at hsc hnx hz5
          have l1 := deAll_len hy1
          have l2 := deAll_len hy2
          have l3 := deAll_len hdr
          rw [List.length_append, List.length_append] at hz5
          refine iteT ⟨V.ref p1, rfl, ixF 2 (.ref p2) _ s08 rfl ⟨p2, ys1, rfl, hs2.elim (fun h => .inl (Same.seq s08 h)) (fun h => .inr (Same.seqT s08 h)), fun a9 n9 => ?_⟩⟩
          have s9 := upd_new (o := .lst ys1) n9
          have h9 : upd G8 a9 (.lst ys1) a9 = some (.lst ys1) := upd_same
          generalize upd G8 a9 (.lst ys1) = G9 at s9 h9
          have s09 := s08.trans s9
          refine ⟨V.ref p1, rfl, ixF 3 (.ref p3) _ s09 rfl ⟨p3, ys2, rfl, hs3.elim (fun h => .inl (Same.seq s09 h)) (fun h => .inr (Same.seqT s09 h)), fun a10 n10 => ?_⟩⟩
          have s10 := upd_new (o := .lst ys2) n10
          have h10 : upd G9 a10 (.lst ys2) a10 = some (.lst ys2) := upd_same
          generalize upd G9 a10 (.lst ys2) = G10 at s10 h10
          refine ⟨a9, a10, ys1, ys2, rfl, rfl, s10 _ _ h9, h10, by omega, fun a11 n11 => ?_⟩
          have s11 := upd_new (o := .lst (ys1 ++ ys2)) n11
          have h11 : upd G10 a11 (.lst (ys1 ++ ys2)) a11 = some (.lst (ys1 ++ ys2)) := upd_same
          generalize upd G10 a11 (.lst (ys1 ++ ys2)) = G11 at s11 h11
          have s1b := ((s18.trans s9).trans s10).trans s11
          refine ⟨V.ref q, rfl, a11, q, ys1 ++ ys2, wr, rfl, rfl, h11, s11 _ _ (s10 _ _ (s9 _ _ hq8)), by rw [List.length_append]; omega, fun a12 n12 => ?_⟩
          exact ⟨elems b1' ++ elems b2' ++ rr, ys1 ++ ys2 ++ wr, n + 1, a12, _, rfl, none_of s1b n12, upd_same, deAll_app (deAll_app hy1 hy2) hdr, hsc, hnx, s1b.trans (upd_new n12)⟩
        · rw [decide_eq_false c1]
          have ei : inner dd = [] := by
            unfold inner
            rw [ee]
            split
            · rename_i e
              injection e with e1 e2
              rw [← e1, if_neg c1]
            · rfl
          rw [ei, List.nil_append] at hsc hnx
          exact iteF ⟨rr, wr, n + 1, q, _, rfl, nq, hq8, hdr, hsc, hnx, s18⟩
    · rintro σ G ⟨x2, x3, x4, x5, x6, rfl, sG, hpr⟩
      have s0G := s1.trans sG
      obtain ⟨n1, e1⟩ := hpr 0 r1 (by show 0 < 3; decide) rfl
      obtain ⟨n2, e2⟩ := hpr 1 r2 (by show 1 < 3; decide) rfl
      obtain ⟨n3, e3⟩ := hpr 2 r3 (by show 2 < 3; decide) rfl
      subst e1 e2 e3
      have es : (((([.inr n1, .inr n2, .inr n3] : List (Nat ⊕ Nat)).take 3).map numR).sum : Nat) = n1 + n2 + n3 := by
        show n1 + (n2 + (n3 + 0)) = _
        omega
      rw [es]
      have ed : dueB (.inr n1) (.inr n2) (.inr n3) = if n1 + n2 + n3 ≤ 40 then .none else .many (n1 + n2 + n3) := rfl
      rw [ed] at kk
      refine ⟨V.int _, rfl, _, 40, rfl, rfl, _, rfl, ite2 (fun c => ?_) (fun c => ?_)⟩
      · have c : (40 : Int) < ((n1 + n2 + n3 : Nat) : Int) := of_decide_eq_true c
        rw [if_neg (show ¬ n1 + n2 + n3 ≤ 40 by omega)] at kk
        refine ⟨V.int _, rfl, (by show 3 ≤ sizeLine; decide), fun t nt => ?_⟩
        exact kk _ (.ref t) (s0G.trans (upd_new nt)) (.tup upd_same (.cons (.str _) (.cons (.int _) (.cons (.int _) .nil))))
      · have c : ¬ (40 : Int) < ((n1 + n2 + n3 : Nat) : Int) := fun z => c (decide_eq_true z)
        rw [if_pos (show n1 + n2 + n3 ≤ 40 by omega)] at kk
        exact kk _ .non s0G .non
end
end SK
namespace SK
open PySem PySem.Spec PyProof.Rows L2 LamX NdefX
open K0 (De DeAll XCl spX withX)
/-! ### data of the law: statements, right or wrong -/
theorem cnt_int : ∀ i : Int, 0 ≤ i → i ≤ 2 → cntD (.int i) := by
  intro i h0 h1
  have h : i = 0 ∨ i = 1 ∨ i = 2 := by omega
  rcases h with rfl | rfl | rfl
  · exact ⟨by decide +kernel, by decide +kernel, by decide +kernel, by decide +kernel, by decide +kernel⟩
  · exact ⟨by decide +kernel, by decide +kernel, by decide +kernel, by decide +kernel, by decide +kernel⟩
  · exact ⟨by decide +kernel, by decide +kernel, by decide +kernel, by decide +kernel, by decide +kernel⟩
theorem tD_no {n : Nat} {d : PyData} (h : isTL d = false) : tD n d := by
  cases n with
  | zero => exact trivial
  | succ n =>
    intro a r z
    rw [h] at z
    cases z
theorem tD_mk {n : Nat} {d h : PyData} {r : List PyData} (e : elems d = h :: r) (k1 : HdOk h) (k2 : r.length ≤ 1000) (k3 : nm h = some (Str.ofString "others") → ∀ x ∈ r, cntD x) (k4 : ∀ m, ∀ x ∈ r, tD m x) : tD n d := by
  cases n with
  | zero => exact trivial
  | succ n =>
    intro a s _ z
    rw [e] at z
    injection z with z1 z2
    subst z1 z2
    exact ⟨k1, k2, k3, k4 n⟩
theorem tD_nil {n : Nat} {d : PyData} (e : elems d = []) : tD n d := by
  cases n with
  | zero => exact trivial
  | succ n =>
    intro a s _ z
    rw [e] at z
    cases z
theorem tsG_tD {n : Nat} {d : PyData} (h : TsG n d) : ∀ m, tD m d := by
  induction h with
  | @w n d x ht he hx => exact fun m => tD_mk he (.str x (plain_str x hx)) (by simp) (fun _ y hy => by cases hy) (fun _ y hy => by cases hy)
  | @oth n d i ht he h0 h1 =>
    exact fun m => tD_mk he (.str _ (by decide +kernel)) (by simp) (fun _ y hy => by
      rw [List.mem_singleton.mp hy]
      exact cnt_int i h0 h1) (fun _ y hy => by
      rw [List.mem_singleton.mp hy]
      exact tD_no rfl)
  | @neg n d e ht he _ ih =>
    exact fun m => tD_mk he (.str _ (by decide +kernel)) (by simp) (fun z => absurd (Option.some.inj z) (by decide)) (fun j y hy => by
      rw [List.mem_singleton.mp hy]
      exact ih j)
  | @bin n d a b x ht he hx _ _ ia ib =>
    obtain ⟨q1, q2, _⟩ := andor_ok x hx
    exact fun m => tD_mk he (.str x q1) (by simp) (fun z => absurd (Option.some.inj z) q2) (fun j y hy => by
      simp only [List.mem_cons, List.mem_nil_iff, or_false] at hy
      rcases hy with rfl | rfl
      · exact ia j
      · exact ib j)
inductive GdL (S : PyData → Nat → Prop) : List PyData → Nat → Prop
  | nil : GdL S [] 0
  | cons {d : PyData} {n : Nat} {ds : List PyData} {m : Nat} : S d n → GdL S ds m → GdL S (d :: ds) (n + m)
theorem GdL.app {S : PyData → Nat → Prop} {as bs : List PyData} {n m : Nat} (h : GdL S as n) (k : GdL S bs m) : GdL S (as ++ bs) (n + m) := by
  induction h with
  | nil =>
    rw [Nat.zero_add]
    exact k
  | cons h1 _ ih =>
    rw [Nat.add_assoc]
    exact .cons h1 ih
theorem GdL.map {S S' : PyData → Nat → Prop} (f : ∀ d n, S d n → S' d n) {as : List PyData} {n : Nat} (h : GdL S as n) : GdL S' as n := by
  induction h with
  | nil => exact .nil
  | cons h1 _ ih => exact .cons (f _ _ h1) ih
theorem GdL.len {S : PyData → Nat → Prop} (p : ∀ d n, S d n → 1 ≤ n) {as : List PyData} {n : Nat} (h : GdL S as n) : as.length ≤ n := by
  induction h with
  | nil => exact Nat.le_refl _
  | cons h1 _ ih =>
    have := p _ _ h1
    rw [List.length_cons]
    omega
theorem GdL.mem {S : PyData → Nat → Prop} {as : List PyData} {n : Nat} (h : GdL S as n) : ∀ d ∈ as, ∃ m, S d m ∧ m ≤ n := by
  induction h with
  | nil => exact fun _ z => by cases z
  | @cons d0 n0 ds m h1 _ ih =>
    intro d hd
    rcases List.mem_cons.mp hd with rfl | hd
    · exact ⟨_, h1, Nat.le_add_right _ _⟩
    · obtain ⟨m', a, b⟩ := ih d hd
      exact ⟨m', a, by omega⟩
theorem GdL.split {S : PyData → Nat → Prop} {as : List PyData} {n : Nat} (h : GdL S as n) : ∀ j : Nat, ∃ a b, GdL S (as.take j) a ∧ GdL S (as.drop j) b ∧ a + b = n := by
  induction h with
  | nil => exact fun j => ⟨0, 0, by rw [List.take_nil]; exact .nil, by rw [List.drop_nil]; exact .nil, rfl⟩
  | @cons d0 n0 ds m h1 h2 ih =>
    intro j
    cases j with
    | zero => exact ⟨0, n0 + m, .nil, .cons h1 h2, by omega⟩
    | succ j =>
      obtain ⟨a, b, h3, h4, e⟩ := ih j
      exact ⟨n0 + a, b, .cons h1 h3, h4, by omega⟩
def GB (S : PyData → Nat → Prop) (b : PyData) (m : Nat) : Prop := (∃ ds, b = .tuple ds ∧ GdL S ds m) ∨ (isTL b = false ∧ m = 0)
theorem GB.el {S : PyData → Nat → Prop} {b : PyData} {m : Nat} (h : GB S b m) : GdL S (elems b) m := by
  rcases h with ⟨ds, rfl, h⟩ | ⟨h, rfl⟩
  · exact h
  · cases b with
    | tuple _ => cases h
    | list _ => cases h
    | _ => exact .nil
theorem GB.map {S S' : PyData → Nat → Prop} (f : ∀ d n, S d n → S' d n) {b : PyData} {n : Nat} (h : GB S b n) : GB S' b n := h.imp (fun ⟨ds, e, k⟩ => ⟨ds, e, k.map f⟩) id
/-- a statement or what stands for one, that is no if with four parts -/
structure LeafD (d : PyData) : Prop where
  sd : sD d
  inr : inner d = []
  lv : lev d ≤ 8
  w : ∀ j, hdW j d
  ln : (elems d).length ≤ 5
  no : ∀ h a b c, d = .tuple [h, a, b, c] → nm h ≠ some (Str.ofString "if")
def GS : Nat → PyData → Nat → Prop
  | 0, d, n => LeafD d ∧ n = 1
  | k + 1, d, n => (LeafD d ∧ n = 1) ∨ ∃ t b1 b2 m1 m2, d = .tuple [.str "if", t, b1, b2] ∧ tD 6 t ∧ lev t ≤ 7 ∧ (∀ j, hdW j t) ∧ GB (GS k) b1 m1 ∧ GB (GS k) b2 m2 ∧ n = m1 + m2 + 1
theorem gs_leaf {d : PyData} (h : LeafD d) : ∀ k, GS k d 1
  | 0 => ⟨h, rfl⟩
  | k + 1 => .inl ⟨h, rfl⟩
theorem gs_mono : ∀ (k : Nat) (d : PyData) (n : Nat), GS k d n → GS (k + 1) d n
  | 0, d, n, h => .inl h
  | k + 1, d, n, h => by
    rcases h with h | ⟨t, b1, b2, m1, m2, e, h1, h2, h3, h4, h5, h6⟩
    · exact .inl h
    · exact .inr ⟨t, b1, b2, m1, m2, e, h1, h2, h3, h4.map (gs_mono k), h5.map (gs_mono k), h6⟩
theorem gs_le {d : PyData} {n k : Nat} (h : GS k d n) : ∀ j, GS (k + j) d n
  | 0 => h
  | j + 1 => gs_mono _ _ _ (gs_le h j)
theorem gs_pos : ∀ (k : Nat) (d : PyData) (n : Nat), GS k d n → 1 ≤ n
  | 0, d, n, h => by rw [h.2]; exact Nat.le_refl _
  | k + 1, d, n, h => by
    rcases h with h | ⟨t, b1, b2, m1, m2, e, h1, h2, h3, h4, h5, h6⟩
    · rw [h.2]
      exact Nat.le_refl _
    · omega
theorem ifD {t b1 b2 : PyData} (ht : tD 6 t) : sD (.tuple [.str "if", t, b1, b2]) := by
  constructor
  · intro h r _ e
    injection e with e1 e2
    subst e1 e2
    refine ⟨.str _ (by decide +kernel), fun a r' z => ?_⟩
    injection z with z1 z2
    subst z1 z2
    exact ⟨fun q => by
      rcases q with q | q
      · exact absurd (Option.some.inj q) (by decide)
      · exact absurd (Option.some.inj q) (by decide), fun _ => tD_hd ht⟩
  · intro h a r _ e
    injection e with e1 e2
    injection e2 with e2 e3
    subst e1 e2 e3
    exact ⟨fun q => absurd (Option.some.inj q) (by decide), fun _ => ht⟩
theorem gs_sD : ∀ (k : Nat) (d : PyData) (n : Nat), GS k d n → sD d ∧ (elems d).length ≤ 5
  | 0, d, n, h => ⟨h.1.sd, h.1.ln⟩
  | k + 1, d, n, h => by
    rcases h with h | ⟨t, b1, b2, m1, m2, rfl, h1, h2, h3, h4, h5, h6⟩
    · exact ⟨h.1.sd, h.1.ln⟩
    · exact ⟨ifD h1, by show 4 ≤ 5; decide⟩
theorem gs_inner : ∀ (k : Nat) (d : PyData) (n : Nat), GS k d n → ∃ m, n = m + 1 ∧ GdL (GS k) (inner d) m
  | 0, d, n, h => ⟨0, h.2, by rw [h.1.inr]; exact .nil⟩
  | k + 1, d, n, h => by
    rcases h with h | ⟨t, b1, b2, m1, m2, rfl, h1, h2, h3, h4, h5, h6⟩
    · exact ⟨0, h.2, by rw [h.1.inr]; exact .nil⟩
    · refine ⟨m1 + m2, h6, ?_⟩
      show GdL (GS (k + 1)) (if nm (PyData.str "if") = some (Str.ofString "if") then elems b1 ++ elems b2 else []) (m1 + m2)
      rw [if_pos (show nm (PyData.str "if") = some (Str.ofString "if") from rfl)]
      exact (h4.el.map (gs_mono k)).app (h5.el.map (gs_mono k))
theorem levAll_le {n : Nat} : ∀ {ds : List PyData}, (∀ e ∈ ds, lev e ≤ n) → levAll ds ≤ n
  | [], _ => Nat.zero_le _
  | d :: ds, h => by
    simp only [levAll]
    exact Nat.max_le.mpr ⟨h d List.mem_cons_self, levAll_le fun e he => h e (List.mem_cons_of_mem _ he)⟩
theorem lev_no {d : PyData} (h : isTL d = false) : lev d = 0 := by
  cases d with
  | tuple _ => cases h
  | list _ => cases h
  | _ => simp [lev]
theorem gb_lev {k c : Nat} (f : ∀ d n, GS k d n → lev d ≤ c) {b : PyData} {m : Nat} (h : GB (GS k) b m) : lev b ≤ c + 1 := by
  rcases h with ⟨ds, rfl, h⟩ | ⟨h, _⟩
  · rw [lev_tl rfl]
    have := levAll_le (n := c) (ds := ds) fun e he => by
      obtain ⟨m', a, _⟩ := h.mem e he
      exact f _ _ a
    show levAll ds + 1 ≤ _
    omega
  · rw [lev_no h]
    omega
theorem gs_lev : ∀ (k : Nat) (d : PyData) (n : Nat), GS k d n → lev d ≤ 8 + 2 * k
  | 0, d, n, h => h.1.lv
  | k + 1, d, n, h => by
    rcases h with h | ⟨t, b1, b2, m1, m2, rfl, h1, h2, h3, h4, h5, h6⟩
    · have := h.1.lv
      omega
    · have z1 := gb_lev (gs_lev k) h4
      have z2 := gb_lev (gs_lev k) h5
      rw [lev_tl rfl]
      show levAll [.str "if", t, b1, b2] + 1 ≤ _
      simp only [levAll]
      rw [show lev (.str "if") = 0 from by simp [lev]]
      omega
theorem gb_w {k : Nat} (f : ∀ d n, GS k d n → n ≤ 1000 → ∀ j, hdW j d) {b : PyData} {m : Nat} (h : GB (GS k) b m) (hm : m ≤ 1000) : ∀ j, hdW j b := by
  intro j
  rcases h with ⟨ds, rfl, h⟩ | ⟨h, _⟩
  · refine hdW_mk (Nat.le_trans (h.len (gs_pos k)) hm) fun i _ e he => ?_
    obtain ⟨m', a, b⟩ := h.mem e he
    exact f _ _ a (by omega) i
  · exact hdW_no h j
theorem gs_w : ∀ (k : Nat) (d : PyData) (n : Nat), GS k d n → n ≤ 1000 → ∀ j, hdW j d
  | 0, d, n, h, _ => h.1.w
  | k + 1, d, n, h, hn => by
    rcases h with h | ⟨t, b1, b2, m1, m2, rfl, h1, h2, h3, h4, h5, h6⟩
    · exact h.1.w
    · have z1 := gb_w (gs_w k) h4 (by omega)
      have z2 := gb_w (gs_w k) h5 (by omega)
      intro j
      refine hdW_mk (by show 4 ≤ 1000; decide) fun i _ e he => ?_
      simp only [elems, List.mem_cons, List.mem_nil_iff, or_false] at he
      rcases he with rfl | rfl | rfl | rfl
      · exact hdW_no rfl i
      · exact h3 i
      · exact z1 i
      · exact z2 i
theorem gl_scan {blk : Str} {k : Nat} : ∀ (F : Nat) {ws : List PyData} {n : Nat}, GdL (GS k) ws n → n ≤ F → ∀ m : Nat, ∃ r, scanF blk F ws m = some r := by
  intro F
  induction F with
  | zero =>
    intro ws n h hn m
    cases h with
    | nil => exact ⟨_, rfl⟩
    | cons h1 h2 =>
      have := gs_pos _ _ _ h1
      omega
  | succ F ih =>
    intro ws n h hn m
    cases h with
    | nil => exact ⟨_, rfl⟩
    | @cons d n1 ds m1 h1 h2 =>
      obtain ⟨m2, e, hi⟩ := gs_inner _ _ _ h1
      show ∃ r, (if okS blk d = true then scanF blk F (inner d ++ ds) (m + 1) else some (.inl m)) = some r
      split
      · exact ih (hi.app h2) (by omega) (m + 1)
      · exact ⟨_, rfl⟩
theorem gl_scanL {blk : Str} {k : Nat} : ∀ (F : Nat) {ws : List PyData} {n : Nat}, GdL (GS k) ws n → n ≤ 5000 → scanL blk F ws := by
  intro F
  induction F with
  | zero => exact fun _ _ => trivial
  | succ F ih =>
    intro ws n h hn
    refine ⟨Nat.le_trans (h.len (gs_pos k)) hn, fun d r e => ?_⟩
    subst e
    cases h with
    | @cons _ n1 _ m1 h1 h2 =>
      obtain ⟨m2, e, hi⟩ := gs_inner _ _ _ h1
      obtain ⟨q1, q2⟩ := gs_sD _ _ _ h1
      exact ⟨q1, fun _ => ⟨by omega, ih (hi.app h2) (by omega)⟩⟩
theorem gb_res {blk : Str} {k : Nat} {b : PyData} {n : Nat} (h : GB (GS k) b n) (hn : n ≤ 1000) : ∃ r, ResL blk b r := by
  rcases h with ⟨ds, rfl, h⟩ | ⟨h, _⟩
  · obtain ⟨r, hr⟩ := gl_scan (blk := blk) n h (Nat.le_refl _) 0
    exact ⟨r, .inr ⟨rfl, n, hr, gl_scanL _ h (by omega)⟩⟩
  · exact ⟨_, .inl ⟨h, rfl⟩⟩
theorem gb_fz {k : Nat} {b : PyData} {n : Nat} (h : GB (GS k) b n) (hk : k ≤ 5) (hn : n ≤ 1000) : lev b < 20 ∧ hdW 20 b := by
  have := gb_lev (gs_lev k) h
  exact ⟨by omega, gb_w (gs_w k) h hn 20⟩
/-! ### right ones -/
theorem bD_bool (b : Bool) : bD (.bool b) := by
  cases b
  · exact ⟨by decide +kernel, by decide +kernel, by decide +kernel, by decide +kernel, by decide +kernel⟩
  · exact ⟨by decide +kernel, by decide +kernel, by decide +kernel, by decide +kernel, by decide +kernel⟩
theorem sdX_small {d : PyData} (h : ∀ x a r, isTL d = true → elems d = x :: a :: r → (nm x = some (Str.ofString "set") → ∀ c, r = [c] → bD c) ∧ (nm x = some (Str.ofString "if") → tD 6 a)) : sdX d := h
mutual
theorem stG_gs {blk : Str} : ∀ {n : Nat} {d : PyData} {k : Nat} {l : List Str}, StG blk n d k l → fz d = d → GS n d k
  | _, d, _, _, .one (x := x) ht he hx, f => by
    have hs : StG blk 0 d 1 _ := .one ht he hx
    have z := gs_leaf (d := d) ⟨⟨stG_hd hs, fun h a r _ e => by rw [he] at e; cases e⟩, by unfold inner; rw [he], by have := stG_lev hs; omega, stG_w hs (by omega), by rw [he]; show 1 ≤ 5; decide, fun h a b c e => by rw [e] at he; cases he⟩
    exact z _
  | _, d, _, _, .set (x := x) (b := b) ht he hx, f => by
    have hs : StG blk 0 d 1 _ := .set ht he hx
    have z := gs_leaf (d := d) ⟨⟨stG_hd hs, fun h a r _ e => by
      rw [he] at e
      injection e with e1 e2
      injection e2 with e2 e3
      subst e1 e2 e3
      exact ⟨fun _ c hc => by
        injection hc with hc
        subst hc
        exact bD_bool b, fun q => absurd (Option.some.inj q) (by decide)⟩⟩, by unfold inner; rw [he], by have := stG_lev hs; omega, stG_w hs (by omega), by rw [he]; show 3 ≤ 5; decide, fun h a b c e => by rw [e] at he; cases he⟩
    exact z _
  | _, d, _, _, .ret (a := x) ht he hx, f => by
    have hs : StG blk 0 d 1 _ := .ret ht he hx
    have z := gs_leaf (d := d) ⟨⟨stG_hd hs, fun h a r _ e => by
      rw [he] at e
      injection e with e1 e2
      injection e2 with e2 e3
      subst e1 e2 e3
      exact ⟨fun q => absurd (Option.some.inj q) (by decide), fun q => absurd (Option.some.inj q) (by decide)⟩⟩, by unfold inner; rw [he], by have := stG_lev hs; omega, stG_w hs (by omega), by rw [he]; show 2 ≤ 5; decide, fun h a b c e => by rw [e] at he; cases he⟩
    exact z _
  | _, d, _, _, .retc (a := x) ht he hx hb, f => by
    have hs : StG blk 0 d 1 _ := .retc ht he hx hb
    have z := gs_leaf (d := d) ⟨⟨stG_hd hs, fun h a r _ e => by
      rw [he] at e
      injection e with e1 e2
      injection e2 with e2 e3
      subst e1 e2 e3
      exact ⟨fun q => absurd (Option.some.inj q) (by decide), fun q => absurd (Option.some.inj q) (by decide)⟩⟩, by unfold inner; rw [he], by have := stG_lev hs; omega, stG_w hs (by omega), by rw [he]; show 3 ≤ 5; decide, fun h a b c e => by rw [e] at he; cases he⟩
    exact z _
  | _, d, _, _, .iff (n := n) (t := t) (b1 := b1) (b2 := b2) (k1 := k1) (k2 := k2) ht he tt h1 hn h2 s1 s2, f => by
    obtain ⟨e0, m⟩ := fz_fix f ht
    rw [he] at e0 m
    have m2 := m b1 (by simp)
    have m3 := m b2 (by simp)
    obtain ⟨e1, f1⟩ := fz_fix m2 h1
    obtain ⟨e2, f2⟩ := fz_fix m3 h2
    have g1 := stL_gs s1 f1
    have g2 := stL_gs s2 f2
    exact .inr ⟨t, b1, b2, k1, k2, e0, tsG_tD tt 6, by have := tsG_lev tt; omega, tsG_w tt, .inl ⟨_, e1, g1⟩, .inl ⟨_, e2, g2⟩, by omega⟩
theorem stL_gs {blk : Str} : ∀ {n : Nat} {ds : List PyData} {k : Nat} {l : List Str}, StL blk n ds k l → (∀ e ∈ ds, fz e = e) → GdL (GS n) ds k
  | _, _, _, _, .nil, _ => .nil
  | _, _, _, _, .cons a b, f => .cons (stG_gs a (f _ List.mem_cons_self)) (stL_gs b fun e he => f e (List.mem_cons_of_mem _ he))
end
theorem BkR.gb {blk : Str} {d : PyData} {k : Nat} {l : List Str} (B : BkR blk d k l) : ∃ ds, d = .tuple ds ∧ GdL (GS 2) ds k := by
  obtain ⟨e, m⟩ := fz_fix B.fx B.tl
  exact ⟨_, e, stL_gs B.st m⟩
end SK
namespace SK
open PySem PySem.Spec PyProof.Rows L2 LamX NdefX
open K0 (De DeAll XCl spX withX)
/-! ### the law's odd statements -/
theorem fa_nil {P : PyData → Prop} : ∀ d ∈ ([] : List PyData), P d := fun d h => by cases h
theorem fa_cons {P : PyData → Prop} {a : PyData} {l : List PyData} (h : P a) (k : ∀ d ∈ l, P d) : ∀ d ∈ a :: l, P d := fun d hd => by
  rcases List.mem_cons.mp hd with rfl | hd
  · exact h
  · exact k d hd
theorem fa_app {P : PyData → Prop} {a l : List PyData} (h : ∀ d ∈ a, P d) (k : ∀ d ∈ l, P d) : ∀ d ∈ a ++ l, P d := fun d hd => (List.mem_append.mp hd).elim (h d) (k d)
theorem w_sc {d : PyData} (h : isTL d = false) : ∀ j, hdW j d := hdW_no h
theorem w_tup {ds : List PyData} (hl : ds.length ≤ 1000) (h : ∀ e ∈ ds, ∀ j, hdW j e) : ∀ j, hdW j (.tuple ds) := fun j => hdW_mk hl fun i _ e he => h e he i
theorem w_lst {ds : List PyData} (hl : ds.length ≤ 1000) (h : ∀ e ∈ ds, ∀ j, hdW j e) : ∀ j, hdW j (.list ds) := fun j => hdW_mk hl fun i _ e he => h e he i
theorem aw_nil : ∀ e ∈ ([] : List PyData), ∀ j, hdW j e := fun e h => by cases h
theorem aw_cons {a : PyData} {l : List PyData} (h : ∀ j, hdW j a) (k : ∀ e ∈ l, ∀ j, hdW j e) : ∀ e ∈ a :: l, ∀ j, hdW j e := fa_cons h k
structure TD (x : PyData) : Prop where
  t : ∀ m, tD m x
  l : lev x ≤ 7
  w : ∀ j, hdW j x
theorem sd_none {d : PyData} (e : elems d = []) : sD d := ⟨fun h r _ z => (by rw [e] at z; cases z), fun h a r _ z => (by rw [e] at z; cases z)⟩
theorem sd_sc {d : PyData} (e : isTL d = false) : sD d := ⟨fun h r z _ => (by rw [e] at z; cases z), fun h a r z _ => (by rw [e] at z; cases z)⟩
theorem sd_word {d h : PyData} {r : List PyData} (e : elems d = h :: r) (k : HdOk h) (n1 : nm h ≠ some (Str.ofString "set")) (n2 : nm h ≠ some (Str.ofString "return")) (n3 : nm h ≠ some (Str.ofString "if")) : sD d := by
  constructor
  · intro h' r' _ z
    rw [e] at z
    injection z with z1 z2
    subst z1 z2
    exact ⟨k, fun a s _ => ⟨fun q => (q.elim n1 n2).elim, fun q => (n3 q).elim⟩⟩
  · intro h' a r' _ z
    rw [e] at z
    injection z with z1 z2
    subst z1
    exact ⟨fun q => (n1 q).elim, fun q => (n3 q).elim⟩
theorem sd_hr {d a : PyData} {x : Str} {r : List PyData} (e : elems d = .str x :: a :: r) (kx : PyData.strOk x = true) (nf : x ≠ Str.ofString "if") (k : HdOk a) (kc : ∀ c, r = [c] → (x = Str.ofString "return" → HdOk c) ∧ (x = Str.ofString "set" → bD c)) : sD d := by
  constructor
  · intro h' r' _ z
    rw [e] at z
    injection z with z1 z2
    subst z1 z2
    refine ⟨.str x kx, fun a' s z => ?_⟩
    injection z with z1 z2
    subst z1 z2
    exact ⟨fun _ => ⟨k, fun c hc q => (kc c hc).1 (Option.some.inj q)⟩, fun q => (nf (Option.some.inj q)).elim⟩
  · intro h' a' r' _ z
    rw [e] at z
    injection z with z1 z2
    injection z2 with z2 z3
    subst z1 z2 z3
    exact ⟨fun q c hc => (kc c hc).2 (Option.some.inj q), fun q => (nf (Option.some.inj q)).elim⟩
theorem sd_set2 {d a : PyData} (e : elems d = [.str "set", a]) (k : HdOk a) : sD d := sd_hr e (by decide +kernel) (by decide) k fun c z => nomatch z
theorem sd_set3 {d a c : PyData} (e : elems d = [.str "set", a, c]) (k : HdOk a) (kc : bD c) : sD d := sd_hr e (by decide +kernel) (by decide) k fun c' z => by
  injection z with z
  subst z
  exact ⟨fun q => absurd q (by decide), fun _ => kc⟩
theorem sd_ret1 {d : PyData} (e : elems d = [.str "return"]) : sD d := by
  constructor
  · intro h' r' _ z
    rw [e] at z
    injection z with z1 z2
    subst z1 z2
    exact ⟨.str _ (by decide +kernel), fun a s z => nomatch z⟩
  · intro h' a r' _ z
    rw [e] at z
    cases z
theorem sd_ret2 {d a : PyData} (e : elems d = [.str "return", a]) (k : HdOk a) : sD d := sd_hr e (by decide +kernel) (by decide) k fun c z => nomatch z
theorem sd_ret3 {d a c : PyData} (e : elems d = [.str "return", a, c]) (k : HdOk a) (kc : HdOk c) : sD d := sd_hr e (by decide +kernel) (by decide) k fun c' z => by
  injection z with z
  subst z
  exact ⟨fun _ => kc, fun q => absurd q (by decide)⟩
theorem sd_if {d t : PyData} {r : List PyData} (e : elems d = .str "if" :: t :: r) (ht : tD 6 t) : sD d := by
  constructor
  · intro h' r' _ z
    rw [e] at z
    injection z with z1 z2
    subst z1 z2
    refine ⟨.str _ (by decide +kernel), fun a s z => ?_⟩
    injection z with z1 z2
    subst z1 z2
    exact ⟨fun q => by
      rcases q with q | q
      · exact absurd (Option.some.inj q) (by decide)
      · exact absurd (Option.some.inj q) (by decide), fun _ => tD_hd ht⟩
  · intro h' a r' _ z
    rw [e] at z
    injection z with z1 z2
    injection z2 with z2 z3
    subst z1 z2 z3
    exact ⟨fun q => absurd (Option.some.inj q) (by decide), fun _ => ht⟩
def oddL : List PyData := [.none, .int 5, .bool true, .str "mark", .dict [], .list [], .tuple [], .dict [], .tuple [.str "mark", .int 1], .tuple [.str "Mark"], .tuple [.int 1], .tuple [.str "set", .str "x"], .tuple [.list []]]
theorem oddL_ok : ∀ d ∈ oddL, LeafD d := (fa_cons ⟨(sd_sc rfl), rfl, (by simp [lev, levAll]), (w_sc rfl), (by simp [elems]), (fun _ _ _ _ z => by cases z)⟩ (fa_cons ⟨(sd_sc rfl), rfl, (by simp [lev, levAll]), (w_sc rfl), (by simp [elems]), (fun _ _ _ _ z => by cases z)⟩ (fa_cons ⟨(sd_sc rfl), rfl, (by simp [lev, levAll]), (w_sc rfl), (by simp [elems]), (fun _ _ _ _ z => by cases z)⟩ (fa_cons ⟨(sd_sc rfl), rfl, (by simp [lev, levAll]), (w_sc rfl), (by simp [elems]), (fun _ _ _ _ z => by cases z)⟩ (fa_cons ⟨(sd_sc rfl), rfl, (by simp [lev, levAll]), (w_sc rfl), (by simp [elems]), (fun _ _ _ _ z => by cases z)⟩ (fa_cons ⟨(sd_none rfl), rfl, (by simp [lev, levAll]), (w_lst (by simp) aw_nil), (by simp [elems]), (fun _ _ _ _ z => by cases z)⟩ (fa_cons ⟨(sd_none rfl), rfl, (by simp [lev, levAll]), (w_tup (by simp) aw_nil), (by simp [elems]), (fun _ _ _ _ z => by cases z)⟩ (fa_cons ⟨(sd_sc rfl), rfl, (by simp [lev, levAll]), (w_sc rfl), (by simp [elems]), (fun _ _ _ _ z => by cases z)⟩ (fa_cons ⟨(sd_word rfl (.str _ (by decide +kernel)) (fun z => by exact absurd (Option.some.inj z) (by decide)) (fun z => by exact absurd (Option.some.inj z) (by decide)) (fun z => by exact absurd (Option.some.inj z) (by decide))), rfl, (by simp [lev, levAll]), (w_tup (by simp) (aw_cons (w_sc rfl) (aw_cons (w_sc rfl) aw_nil))), (by simp [elems]), (fun _ _ _ _ z => by cases z)⟩ (fa_cons ⟨(sd_word rfl (.str _ (by decide +kernel)) (fun z => by exact absurd (Option.some.inj z) (by decide)) (fun z => by exact absurd (Option.some.inj z) (by decide)) (fun z => by exact absurd (Option.some.inj z) (by decide))), rfl, (by simp [lev, levAll]), (w_tup (by simp) (aw_cons (w_sc rfl) aw_nil)), (by simp [elems]), (fun _ _ _ _ z => by cases z)⟩ (fa_cons ⟨(sd_word rfl (.int _) (fun z => by cases z) (fun z => by cases z) (fun z => by cases z)), rfl, (by simp [lev, levAll]), (w_tup (by simp) (aw_cons (w_sc rfl) aw_nil)), (by simp [elems]), (fun _ _ _ _ z => by cases z)⟩ (fa_cons ⟨(sd_set2 rfl (.str _ (by decide +kernel))), rfl, (by simp [lev, levAll]), (w_tup (by simp) (aw_cons (w_sc rfl) (aw_cons (w_sc rfl) aw_nil))), (by simp [elems]), (fun _ _ _ _ z => by cases z)⟩ (fa_cons ⟨(sd_word rfl .lst0 (fun z => by cases z) (fun z => by cases z) (fun z => by cases z)), rfl, (by simp [lev, levAll]), (w_tup (by simp) (aw_cons (w_lst (by simp) aw_nil) aw_nil)), (by simp [elems]), (fun _ _ _ _ z => by cases z)⟩ fa_nil)))))))))))))
def testL : List PyData := [.int 5, .str "mark", .tuple [], .tuple [.str "others", .int 3], .tuple [.str "others", .int (-1)], .tuple [.str "others", .bool true], .tuple [.str "others"], .tuple [.str "not"]]
theorem testL_ok : ∀ d ∈ testL, TD d := (fa_cons ⟨(fun _ => (tD_no rfl)), (by simp [lev, levAll]), (w_sc rfl)⟩ (fa_cons ⟨(fun _ => (tD_no rfl)), (by simp [lev, levAll]), (w_sc rfl)⟩ (fa_cons ⟨(fun _ => (tD_nil rfl)), (by simp [lev, levAll]), (w_tup (by simp) aw_nil)⟩ (fa_cons ⟨(fun _ => (tD_mk rfl (.str _ (by decide +kernel)) (by simp) (fun _ => (fa_cons ⟨(by decide +kernel), (by decide +kernel), (by decide +kernel), (by decide +kernel), (by decide +kernel)⟩ fa_nil)) (fun _ => (fa_cons (tD_no rfl) fa_nil)))), (by simp [lev, levAll]), (w_tup (by simp) (aw_cons (w_sc rfl) (aw_cons (w_sc rfl) aw_nil)))⟩ (fa_cons ⟨(fun _ => (tD_mk rfl (.str _ (by decide +kernel)) (by simp) (fun _ => (fa_cons ⟨(by decide +kernel), (by decide +kernel), (by decide +kernel), (by decide +kernel), (by decide +kernel)⟩ fa_nil)) (fun _ => (fa_cons (tD_no rfl) fa_nil)))), (by simp [lev, levAll]), (w_tup (by simp) (aw_cons (w_sc rfl) (aw_cons (w_sc rfl) aw_nil)))⟩ (fa_cons ⟨(fun _ => (tD_mk rfl (.str _ (by decide +kernel)) (by simp) (fun _ => (fa_cons ⟨(by decide +kernel), (by decide +kernel), (by decide +kernel), (by decide +kernel), (by decide +kernel)⟩ fa_nil)) (fun _ => (fa_cons (tD_no rfl) fa_nil)))), (by simp [lev, levAll]), (w_tup (by simp) (aw_cons (w_sc rfl) (aw_cons (w_sc rfl) aw_nil)))⟩ (fa_cons ⟨(fun _ => (tD_mk rfl (.str _ (by decide +kernel)) (by simp) (fun _ => fa_nil) (fun _ => fa_nil))), (by simp [lev, levAll]), (w_tup (by simp) (aw_cons (w_sc rfl) aw_nil))⟩ (fa_cons ⟨(fun _ => (tD_mk rfl (.str _ (by decide +kernel)) (by simp) (fun z => by exact absurd (Option.some.inj z) (by decide)) (fun _ => fa_nil))), (by simp [lev, levAll]), (w_tup (by simp) (aw_cons (w_sc rfl) aw_nil))⟩ fa_nil))))))))
def otherL : List PyData := [.tuple [.str "and", .tuple [.str "mark"]], .tuple [.str "next", .int 1], .tuple [.str "others", .str "1"], .tuple [.str "not", .none], .tuple [.str "or", .tuple [.str "mark"], .list []], .list [.tuple [.str "mark"]], .tuple [.str "others", .list []]]
theorem otherL_ok : ∀ d ∈ otherL, TD d := (fa_cons ⟨(fun _ => (tD_mk rfl (.str _ (by decide +kernel)) (by simp) (fun z => by exact absurd (Option.some.inj z) (by decide)) (fun _ => (fa_cons (tD_mk rfl (.str _ (by decide +kernel)) (by simp) (fun z => by exact absurd (Option.some.inj z) (by decide)) (fun _ => fa_nil)) fa_nil)))), (by simp [lev, levAll]), (w_tup (by simp) (aw_cons (w_sc rfl) (aw_cons (w_tup (by simp) (aw_cons (w_sc rfl) aw_nil)) aw_nil)))⟩ (fa_cons ⟨(fun _ => (tD_mk rfl (.str _ (by decide +kernel)) (by simp) (fun z => by exact absurd (Option.some.inj z) (by decide)) (fun _ => (fa_cons (tD_no rfl) fa_nil)))), (by simp [lev, levAll]), (w_tup (by simp) (aw_cons (w_sc rfl) (aw_cons (w_sc rfl) aw_nil)))⟩ (fa_cons ⟨(fun _ => (tD_mk rfl (.str _ (by decide +kernel)) (by simp) (fun _ => (fa_cons ⟨(by decide +kernel), (by decide +kernel), (by decide +kernel), (by decide +kernel), (by decide +kernel)⟩ fa_nil)) (fun _ => (fa_cons (tD_no rfl) fa_nil)))), (by simp [lev, levAll]), (w_tup (by simp) (aw_cons (w_sc rfl) (aw_cons (w_sc rfl) aw_nil)))⟩ (fa_cons ⟨(fun _ => (tD_mk rfl (.str _ (by decide +kernel)) (by simp) (fun z => by exact absurd (Option.some.inj z) (by decide)) (fun _ => (fa_cons (tD_no rfl) fa_nil)))), (by simp [lev, levAll]), (w_tup (by simp) (aw_cons (w_sc rfl) (aw_cons (w_sc rfl) aw_nil)))⟩ (fa_cons ⟨(fun _ => (tD_mk rfl (.str _ (by decide +kernel)) (by simp) (fun z => by exact absurd (Option.some.inj z) (by decide)) (fun _ => (fa_cons (tD_mk rfl (.str _ (by decide +kernel)) (by simp) (fun z => by exact absurd (Option.some.inj z) (by decide)) (fun _ => fa_nil)) (fa_cons (tD_nil rfl) fa_nil))))), (by simp [lev, levAll]), (w_tup (by simp) (aw_cons (w_sc rfl) (aw_cons (w_tup (by simp) (aw_cons (w_sc rfl) aw_nil)) (aw_cons (w_lst (by simp) aw_nil) aw_nil))))⟩ (fa_cons ⟨(fun _ => (tD_mk rfl (.one _ (by decide +kernel)) (by simp) (fun z => by cases z) (fun _ => fa_nil))), (by simp [lev, levAll]), (w_lst (by simp) (aw_cons (w_tup (by simp) (aw_cons (w_sc rfl) aw_nil)) aw_nil))⟩ (fa_cons ⟨(fun _ => (tD_mk rfl (.str _ (by decide +kernel)) (by simp) (fun _ => (fa_cons ⟨(by decide +kernel), (by decide +kernel), (by decide +kernel), (by decide +kernel), (by decide +kernel)⟩ fa_nil)) (fun _ => (fa_cons (tD_nil rfl) fa_nil)))), (by simp [lev, levAll]), (w_tup (by simp) (aw_cons (w_sc rfl) (aw_cons (w_lst (by simp) aw_nil) aw_nil)))⟩ fa_nil)))))))
def some0 (od : PyData) : List PyData := [od, .tuple [.str "set", .str "z", .bool true], .tuple [.str "set", .str "x", .int 1], .tuple [.str "set", .str "x", .none], .tuple [.str "set", .list [.str "x"], .bool true], .tuple [.str "return"]]
theorem some0_ok {od : PyData} (hod : LeafD od) : ∀ d ∈ (some0 od), ∃ n, GS 1 d n ∧ n ≤ 2 := (fa_cons ⟨1, gs_leaf hod 1, by decide⟩ (fa_cons ⟨1, gs_leaf ⟨(sd_set3 rfl (.str _ (by decide +kernel)) ⟨(by decide +kernel), (by decide +kernel), (by decide +kernel), (by decide +kernel), (by decide +kernel)⟩), rfl, (by simp [lev, levAll]), (w_tup (by simp) (aw_cons (w_sc rfl) (aw_cons (w_sc rfl) (aw_cons (w_sc rfl) aw_nil)))), (by simp [elems]), (fun _ _ _ _ z => by cases z)⟩ 1, by decide⟩ (fa_cons ⟨1, gs_leaf ⟨(sd_set3 rfl (.str _ (by decide +kernel)) ⟨(by decide +kernel), (by decide +kernel), (by decide +kernel), (by decide +kernel), (by decide +kernel)⟩), rfl, (by simp [lev, levAll]), (w_tup (by simp) (aw_cons (w_sc rfl) (aw_cons (w_sc rfl) (aw_cons (w_sc rfl) aw_nil)))), (by simp [elems]), (fun _ _ _ _ z => by cases z)⟩ 1, by decide⟩ (fa_cons ⟨1, gs_leaf ⟨(sd_set3 rfl (.str _ (by decide +kernel)) ⟨(by decide +kernel), (by decide +kernel), (by decide +kernel), (by decide +kernel), (by decide +kernel)⟩), rfl, (by simp [lev, levAll]), (w_tup (by simp) (aw_cons (w_sc rfl) (aw_cons (w_sc rfl) (aw_cons (w_sc rfl) aw_nil)))), (by simp [elems]), (fun _ _ _ _ z => by cases z)⟩ 1, by decide⟩ (fa_cons ⟨1, gs_leaf ⟨(sd_set3 rfl (.onel _ (by decide +kernel)) ⟨(by decide +kernel), (by decide +kernel), (by decide +kernel), (by decide +kernel), (by decide +kernel)⟩), rfl, (by simp [lev, levAll]), (w_tup (by simp) (aw_cons (w_sc rfl) (aw_cons (w_lst (by simp) (aw_cons (w_sc rfl) aw_nil)) (aw_cons (w_sc rfl) aw_nil)))), (by simp [elems]), (fun _ _ _ _ z => by cases z)⟩ 1, by decide⟩ (fa_cons ⟨1, gs_leaf ⟨(sd_ret1 rfl), rfl, (by simp [lev, levAll]), (w_tup (by simp) (aw_cons (w_sc rfl) aw_nil)), (by simp [elems]), (fun _ _ _ _ z => by cases z)⟩ 1, by decide⟩ fa_nil))))))
def some1  : List PyData := [.tuple [.str "set", .str "x", .list []], .tuple [.str "return", .str "yes", .list [.str "cut"]], .tuple [.str "if", .tuple [.str "mark"], .tuple [.tuple [.str "mark"]], .none], .tuple [.str "if", .tuple [.str "mark"], .tuple [.tuple [.str "mark"]], .dict []]]
theorem some1_ok   : ∀ d ∈ some1, ∃ n, GS 1 d n ∧ n ≤ 2 := (fa_cons ⟨1, gs_leaf ⟨(sd_set3 rfl (.str _ (by decide +kernel)) ⟨(by decide +kernel), (by decide +kernel), (by decide +kernel), (by decide +kernel), (by decide +kernel)⟩), rfl, (by simp [lev, levAll]), (w_tup (by simp) (aw_cons (w_sc rfl) (aw_cons (w_sc rfl) (aw_cons (w_lst (by simp) aw_nil) aw_nil)))), (by simp [elems]), (fun _ _ _ _ z => by cases z)⟩ 1, by decide⟩ (fa_cons ⟨1, gs_leaf ⟨(sd_ret3 rfl (.str _ (by decide +kernel)) (.onel _ (by decide +kernel))), rfl, (by simp [lev, levAll]), (w_tup (by simp) (aw_cons (w_sc rfl) (aw_cons (w_sc rfl) (aw_cons (w_lst (by simp) (aw_cons (w_sc rfl) aw_nil)) aw_nil)))), (by simp [elems]), (fun _ _ _ _ z => by cases z)⟩ 1, by decide⟩ (fa_cons ⟨_, .inr ⟨_, _, _, _, _, rfl, (tD_mk rfl (.str _ (by decide +kernel)) (by simp) (fun z => by exact absurd (Option.some.inj z) (by decide)) (fun _ => fa_nil)), (by simp [lev, levAll]), (w_tup (by simp) (aw_cons (w_sc rfl) aw_nil)), (.inl ⟨_, rfl, (.cons (gs_leaf ⟨(sd_word rfl (.str _ (by decide +kernel)) (fun z => by exact absurd (Option.some.inj z) (by decide)) (fun z => by exact absurd (Option.some.inj z) (by decide)) (fun z => by exact absurd (Option.some.inj z) (by decide))), rfl, (by simp [lev, levAll]), (w_tup (by simp) (aw_cons (w_sc rfl) aw_nil)), (by simp [elems]), (fun _ _ _ _ z => by cases z)⟩ 0) .nil)⟩), (.inr ⟨rfl, rfl⟩), rfl⟩, by decide⟩ (fa_cons ⟨_, .inr ⟨_, _, _, _, _, rfl, (tD_mk rfl (.str _ (by decide +kernel)) (by simp) (fun z => by exact absurd (Option.some.inj z) (by decide)) (fun _ => fa_nil)), (by simp [lev, levAll]), (w_tup (by simp) (aw_cons (w_sc rfl) aw_nil)), (.inl ⟨_, rfl, (.cons (gs_leaf ⟨(sd_word rfl (.str _ (by decide +kernel)) (fun z => by exact absurd (Option.some.inj z) (by decide)) (fun z => by exact absurd (Option.some.inj z) (by decide)) (fun z => by exact absurd (Option.some.inj z) (by decide))), rfl, (by simp [lev, levAll]), (w_tup (by simp) (aw_cons (w_sc rfl) aw_nil)), (by simp [elems]), (fun _ _ _ _ z => by cases z)⟩ 0) .nil)⟩), (.inr ⟨rfl, rfl⟩), rfl⟩, by decide⟩ fa_nil))))
def some2  : List PyData := [.tuple [.str "return", .str "maybe"], .tuple [.str "return", .list [.str "yes"]], .tuple [.str "return", .str "yes", .str "cuts"], .tuple [.str "return", .str "yes", .str "cut"]]
theorem some2_ok   : ∀ d ∈ some2, ∃ n, GS 1 d n ∧ n ≤ 2 := (fa_cons ⟨1, gs_leaf ⟨(sd_ret2 rfl (.str _ (by decide +kernel))), rfl, (by simp [lev, levAll]), (w_tup (by simp) (aw_cons (w_sc rfl) (aw_cons (w_sc rfl) aw_nil))), (by simp [elems]), (fun _ _ _ _ z => by cases z)⟩ 1, by decide⟩ (fa_cons ⟨1, gs_leaf ⟨(sd_ret2 rfl (.onel _ (by decide +kernel))), rfl, (by simp [lev, levAll]), (w_tup (by simp) (aw_cons (w_sc rfl) (aw_cons (w_lst (by simp) (aw_cons (w_sc rfl) aw_nil)) aw_nil))), (by simp [elems]), (fun _ _ _ _ z => by cases z)⟩ 1, by decide⟩ (fa_cons ⟨1, gs_leaf ⟨(sd_ret3 rfl (.str _ (by decide +kernel)) (.str _ (by decide +kernel))), rfl, (by simp [lev, levAll]), (w_tup (by simp) (aw_cons (w_sc rfl) (aw_cons (w_sc rfl) (aw_cons (w_sc rfl) aw_nil)))), (by simp [elems]), (fun _ _ _ _ z => by cases z)⟩ 1, by decide⟩ (fa_cons ⟨1, gs_leaf ⟨(sd_ret3 rfl (.str _ (by decide +kernel)) (.str _ (by decide +kernel))), rfl, (by simp [lev, levAll]), (w_tup (by simp) (aw_cons (w_sc rfl) (aw_cons (w_sc rfl) (aw_cons (w_sc rfl) aw_nil)))), (by simp [elems]), (fun _ _ _ _ z => by cases z)⟩ 1, by decide⟩ fa_nil))))
def some3  : List PyData := [.tuple [.str "make"], .tuple [.str "cut"], .tuple [.str "keep"], .tuple [.str "stop"], .tuple [.str "if", .tuple [.str "mark"], .tuple [.tuple [.str "mark"]]], .tuple [.str "if", .tuple [.str "mark"], .tuple [], .tuple []]]
theorem some3_ok   : ∀ d ∈ some3, ∃ n, GS 1 d n ∧ n ≤ 2 := (fa_cons ⟨1, gs_leaf ⟨(sd_word rfl (.str _ (by decide +kernel)) (fun z => by exact absurd (Option.some.inj z) (by decide)) (fun z => by exact absurd (Option.some.inj z) (by decide)) (fun z => by exact absurd (Option.some.inj z) (by decide))), rfl, (by simp [lev, levAll]), (w_tup (by simp) (aw_cons (w_sc rfl) aw_nil)), (by simp [elems]), (fun _ _ _ _ z => by cases z)⟩ 1, by decide⟩ (fa_cons ⟨1, gs_leaf ⟨(sd_word rfl (.str _ (by decide +kernel)) (fun z => by exact absurd (Option.some.inj z) (by decide)) (fun z => by exact absurd (Option.some.inj z) (by decide)) (fun z => by exact absurd (Option.some.inj z) (by decide))), rfl, (by simp [lev, levAll]), (w_tup (by simp) (aw_cons (w_sc rfl) aw_nil)), (by simp [elems]), (fun _ _ _ _ z => by cases z)⟩ 1, by decide⟩ (fa_cons ⟨1, gs_leaf ⟨(sd_word rfl (.str _ (by decide +kernel)) (fun z => by exact absurd (Option.some.inj z) (by decide)) (fun z => by exact absurd (Option.some.inj z) (by decide)) (fun z => by exact absurd (Option.some.inj z) (by decide))), rfl, (by simp [lev, levAll]), (w_tup (by simp) (aw_cons (w_sc rfl) aw_nil)), (by simp [elems]), (fun _ _ _ _ z => by cases z)⟩ 1, by decide⟩ (fa_cons ⟨1, gs_leaf ⟨(sd_word rfl (.str _ (by decide +kernel)) (fun z => by exact absurd (Option.some.inj z) (by decide)) (fun z => by exact absurd (Option.some.inj z) (by decide)) (fun z => by exact absurd (Option.some.inj z) (by decide))), rfl, (by simp [lev, levAll]), (w_tup (by simp) (aw_cons (w_sc rfl) aw_nil)), (by simp [elems]), (fun _ _ _ _ z => by cases z)⟩ 1, by decide⟩ (fa_cons ⟨1, gs_leaf ⟨(sd_if rfl (tD_mk rfl (.str _ (by decide +kernel)) (by simp) (fun z => by exact absurd (Option.some.inj z) (by decide)) (fun _ => fa_nil))), rfl, (by simp [lev, levAll]), (w_tup (by simp) (aw_cons (w_sc rfl) (aw_cons (w_tup (by simp) (aw_cons (w_sc rfl) aw_nil)) (aw_cons (w_tup (by simp) (aw_cons (w_tup (by simp) (aw_cons (w_sc rfl) aw_nil)) aw_nil)) aw_nil)))), (by simp [elems]), (fun _ _ _ _ z => by cases z)⟩ 1, by decide⟩ (fa_cons ⟨_, .inr ⟨_, _, _, _, _, rfl, (tD_mk rfl (.str _ (by decide +kernel)) (by simp) (fun z => by exact absurd (Option.some.inj z) (by decide)) (fun _ => fa_nil)), (by simp [lev, levAll]), (w_tup (by simp) (aw_cons (w_sc rfl) aw_nil)), (.inl ⟨_, rfl, .nil⟩), (.inl ⟨_, rfl, .nil⟩), rfl⟩, by decide⟩ fa_nil))))))
def some4 (dd : PyData) : List PyData := [.tuple [.str "if", .tuple [.str "mark"], .none, .tuple []], .tuple [.str "if", .tuple [.str "mark"], .tuple [.tuple [.str "mark"]], .str "mark"], .tuple [.str "if", dd, .tuple [.tuple [.str "mark"]], .tuple []]]
theorem some4_ok {dd : PyData} (hdd : TD dd) : ∀ d ∈ (some4 dd), ∃ n, GS 1 d n ∧ n ≤ 2 := (fa_cons ⟨_, .inr ⟨_, _, _, _, _, rfl, (tD_mk rfl (.str _ (by decide +kernel)) (by simp) (fun z => by exact absurd (Option.some.inj z) (by decide)) (fun _ => fa_nil)), (by simp [lev, levAll]), (w_tup (by simp) (aw_cons (w_sc rfl) aw_nil)), (.inr ⟨rfl, rfl⟩), (.inl ⟨_, rfl, .nil⟩), rfl⟩, by decide⟩ (fa_cons ⟨_, .inr ⟨_, _, _, _, _, rfl, (tD_mk rfl (.str _ (by decide +kernel)) (by simp) (fun z => by exact absurd (Option.some.inj z) (by decide)) (fun _ => fa_nil)), (by simp [lev, levAll]), (w_tup (by simp) (aw_cons (w_sc rfl) aw_nil)), (.inl ⟨_, rfl, (.cons (gs_leaf ⟨(sd_word rfl (.str _ (by decide +kernel)) (fun z => by exact absurd (Option.some.inj z) (by decide)) (fun z => by exact absurd (Option.some.inj z) (by decide)) (fun z => by exact absurd (Option.some.inj z) (by decide))), rfl, (by simp [lev, levAll]), (w_tup (by simp) (aw_cons (w_sc rfl) aw_nil)), (by simp [elems]), (fun _ _ _ _ z => by cases z)⟩ 0) .nil)⟩), (.inr ⟨rfl, rfl⟩), rfl⟩, by decide⟩ (fa_cons ⟨_, .inr ⟨_, _, _, _, _, rfl, (hdd.t _), hdd.l, hdd.w, (.inl ⟨_, rfl, (.cons (gs_leaf ⟨(sd_word rfl (.str _ (by decide +kernel)) (fun z => by exact absurd (Option.some.inj z) (by decide)) (fun z => by exact absurd (Option.some.inj z) (by decide)) (fun z => by exact absurd (Option.some.inj z) (by decide))), rfl, (by simp [lev, levAll]), (w_tup (by simp) (aw_cons (w_sc rfl) aw_nil)), (by simp [elems]), (fun _ _ _ _ z => by cases z)⟩ 0) .nil)⟩), (.inl ⟨_, rfl, .nil⟩), rfl⟩, by decide⟩ fa_nil)))
def some5 (od td ud : PyData) : List PyData := [.tuple [.str "if", td, .tuple [.tuple [.str "mark"]], .tuple []], .tuple [.str "if", ud, .tuple [.tuple [.str "mark"]], .tuple []], .tuple [.str "if", .tuple [.str "mark"], .tuple [od], .tuple []]]
theorem some5_ok {od td ud : PyData} (hod : LeafD od) (htd : TD td) (hud : TD ud) : ∀ d ∈ (some5 od td ud), ∃ n, GS 1 d n ∧ n ≤ 2 := (fa_cons ⟨_, .inr ⟨_, _, _, _, _, rfl, (htd.t _), htd.l, htd.w, (.inl ⟨_, rfl, (.cons (gs_leaf ⟨(sd_word rfl (.str _ (by decide +kernel)) (fun z => by exact absurd (Option.some.inj z) (by decide)) (fun z => by exact absurd (Option.some.inj z) (by decide)) (fun z => by exact absurd (Option.some.inj z) (by decide))), rfl, (by simp [lev, levAll]), (w_tup (by simp) (aw_cons (w_sc rfl) aw_nil)), (by simp [elems]), (fun _ _ _ _ z => by cases z)⟩ 0) .nil)⟩), (.inl ⟨_, rfl, .nil⟩), rfl⟩, by decide⟩ (fa_cons ⟨_, .inr ⟨_, _, _, _, _, rfl, (hud.t _), hud.l, hud.w, (.inl ⟨_, rfl, (.cons (gs_leaf ⟨(sd_word rfl (.str _ (by decide +kernel)) (fun z => by exact absurd (Option.some.inj z) (by decide)) (fun z => by exact absurd (Option.some.inj z) (by decide)) (fun z => by exact absurd (Option.some.inj z) (by decide))), rfl, (by simp [lev, levAll]), (w_tup (by simp) (aw_cons (w_sc rfl) aw_nil)), (by simp [elems]), (fun _ _ _ _ z => by cases z)⟩ 0) .nil)⟩), (.inl ⟨_, rfl, .nil⟩), rfl⟩, by decide⟩ (fa_cons ⟨_, .inr ⟨_, _, _, _, _, rfl, (tD_mk rfl (.str _ (by decide +kernel)) (by simp) (fun z => by exact absurd (Option.some.inj z) (by decide)) (fun _ => fa_nil)), (by simp [lev, levAll]), (w_tup (by simp) (aw_cons (w_sc rfl) aw_nil)), (.inl ⟨_, rfl, (.cons (gs_leaf hod 0) .nil)⟩), (.inl ⟨_, rfl, .nil⟩), rfl⟩, by decide⟩ fa_nil)))

theorem tsG_TD {t : PyData} (h : TsG 7 t) : TD t := ⟨tsG_tD h, tsG_lev h, tsG_w h⟩
section
variable {K : PySem.W.Frag} {H0 : Hp} {σ : St}
theorem al_dnew : Al K H0 σ tDNewK (.dict []) := fun H R s k p np => k _ (.ref p) (upd_new np) (.dic upd_same (by decide))
theorem al_dic1 {x : Str} {i : Int} : Al K H0 σ (tDisp [(tC (.str x), tC (.int i))]) (.dict []) := fun H R s k p np => by
  refine ⟨upd_same, [(Sum.inr x, .int i)], rfl, by show 1 ≤ 15; decide, ?_⟩
  refine k _ (.ref p) (fun b o e => ?_) (.dic upd_same (by show 1 ≤ 1; decide))
  rw [upd_ne (ne_of_none e np), upd_ne (ne_of_none e np)]
  exact e
theorem al_neg {i : Int} : Al K H0 σ (tUn (rU fun i => .int (-i)) (tC (.int i))) (.int (-i)) := fun H R s k => ⟨i, rfl, k H _ (Same.refl _) (.int _)⟩
theorem pk_go {E : XK} {te : TE} {ds : List PyData} {p l : Addr} {ns : List Int} {k lf : Int} {R : VK} (h : Al K H0 σ te (.list ds)) (h0 : σ[0]? = some (some (.ref p))) (P : PenAt H0 p l ns k lf) (hn : ns.length ≤ 63) (i0 : 0 ≤ k) (i1 : k ≤ 100000) (i2 : 0 ≤ lf) (z0 : 0 < ds.length) (z1 : ds.length ≤ 1000)
    (kk : ∀ (H' : Hp) (k' lf' : Int) (v : V) (d : PyData), k' ≤ k + 1 → 0 ≤ k' → 0 ≤ lf' → SameBut p H0 H' → PenAt H' p l ns k' lf' → d ∈ ds → De K H' v d → R v H') : tCall spPick [] E (tCons (tVar 0) (tCons te tNil)) σ H0 R := by
  refine ⟨V.ref p, h0, h H0 _ (Same.refl _) fun H1 v s1 hd => ?_⟩
  cases hd with
  | @lst a xs _ ha hxs =>
  have P1 : PenAt H1 p l ns k lf := ⟨s1 _ _ P.dc, s1 _ _ P.ls⟩
  have hl := deAll_len hxs
  refine ⟨p, l, .ref a, ns, k, lf, xs, rfl, P1, hn, i0, i1, i2, .inl ⟨a, rfl, ha⟩, by omega, by omega, fun H' k' lf' y e1 e2 e3 hy s P' => ?_⟩
  obtain ⟨d, hd, hde⟩ := deAll_mem (de_butAll P1.dc s hxs) hy
  exact kk H' k' lf' y d e1 e2 e3 ((SameBut.of s1).trans s) P' hd hde
theorem pk_set {E : XK} {te : TE} {ds : List PyData} {p l : Addr} {ns : List Int} {k lf : Int} {i : Nat} {u : TS} {D : Ends} (h : Al K H0 σ te (.list ds)) (h0 : σ[0]? = some (some (.ref p))) (P : PenAt H0 p l ns k lf) (hn : ns.length ≤ 63) (i0 : 0 ≤ k) (i1 : k ≤ 100000) (i2 : 0 ≤ lf) (z0 : 0 < ds.length) (z1 : ds.length ≤ 1000)
    (kk : ∀ (H' : Hp) (k' lf' : Int) (v : V) (d : PyData), k' ≤ k + 1 → 0 ≤ k' → 0 ≤ lf' → SameBut p H0 H' → PenAt H' p l ns k' lf' → d ∈ ds → De K H' v d → u D (σ.set i (some v)) H') : tSeq (tAsg (tCall spPick [] E (tCons (tVar 0) (tCons te tNil))) (gName i)) u D σ H0 := pk_go h h0 P hn i0 i1 i2 z0 z1 kk
end
def spOd (K : PySem.W.Frag) : Sp := fun vs H Q _ => ∃ (p l : Addr) (ns : List Int) (k lf : Int) (x : V), vs = [.ref p, x] ∧ PenAt H p l ns k lf ∧ ns.length ≤ 63 ∧ 0 ≤ k ∧ k + 10 ≤ 100000 ∧ 0 ≤ lf ∧
  ∀ (H' : Hp) (k' lf' : Int) (v : V) (d : PyData) (n : Nat), k' ≤ k + 10 → 0 ≤ k' → 0 ≤ lf' → SameBut p H H' → PenAt H' p l ns k' lf' → De K H' v d → GS 1 d n → n ≤ 2 → Q v H'
section
variable {P : Program} {w : World} {K : PySem.W.Frag} {mg : Str → Option Value} {base : Heap} {f fPk : Addr} {fd fdPk : FuncData}
abbrev NOd : List Str := ["pen", "name", "deep", "mark", "none", "k", "odd", "some", "test", "other"]
theorem ok_od (F : Fun K "_law_odd" "_law_odd" (top 64) f fd) (gRg : mg "range" = none)
    (gPk : mg "_law_pick" = some (.ref fPk)) (kPk : PySem.W.keepIn K (.ref fPk) = true) (GPk : FnOk P w K mg base CX0 2 fPk fdPk ["pen", "some"] spPick) (bPk : Binds K fdPk ["pen", "some"] []) : FnOk P w K mg base CX0 3 f fd ["pen", "name"] (spOd K) := by
  have S0 : FnScope NOd ["pen", "name"] (defScope (top 64)) := ⟨rfl, rfl, rfl, by decide +kernel, rfl, by decide +kernel, by decide +kernel⟩
  have nd := S0.nd
  refine F.ok S0 (fun vs H Q E h => ?_) (fun cdv A outer s H vs Q E hr h => ?_)
  · obtain ⟨p, l, ns, k, lf, x, rfl, _⟩ := h
    rfl
  · obtain ⟨p, l, ns, k, lf, x, rfl, P0, hn, i0, i1, i2, kk⟩ := h
    have hr2 : Room 2 _ := hr
    have hu : _ + 1 < cLine := hu_of hr
    have keepP : ∀ {G G' : Hp} {k' lf' : Int}, PenAt G p l ns k' lf' → Same G G' → PenAt G' p l ns k' lf' := fun {G G' k' lf'} h s => ⟨s _ _ h.dc, s _ _ h.ls⟩
    refine ⟨_, (pss_cons (ps_asg (pe_tup (pa_cons (pe_tup (pa_cons pe_str pa_nil)) (pa_cons (pe_tup (pa_cons pe_str pa_nil)) (pa_cons (pe_tup pa_nil) pa_nil)))) (pg_tup rfl (pgs_cons (pg_name (i := 2) nd rfl (Or.inl rfl)) (pgs_cons (pg_name (i := 3) nd rfl (Or.inl rfl)) (pgs_cons (pg_name (i := 4) nd rfl (Or.inl rfl)) pgs_nil)))))
        (pss_cons (ps_for PassesOwn.never rfl (pi_range1 (by rfl) gRg (pa_cons pe_int pa_nil)) (pg_name (i := 5) nd rfl (Or.inl rfl)) (pss_one (ps_set (i := 2) nd rfl (Or.inl rfl) (pe_call GPk hr2 (by rfl) gPk kPk bPk .nil pass0 (pa_cons (pv 0) (pa_cons (pe_lst (pa_cons (pe_tup (pa_cons pe_str (pa_cons (pv 2) pa_nil))) (pa_cons (pe_tup (pa_cons pe_str (pa_cons (pv 2) (pa_cons (pv 3) pa_nil)))) (pa_cons (pe_tup (pa_cons pe_str (pa_cons (pv 3) (pa_cons (pv 2) pa_nil)))) pa_nil)))) pa_nil))))))
        (pss_cons (ps_set (i := 6) nd rfl (Or.inl rfl) (pe_lst (pa_cons pe_non (pa_cons pe_int (pa_cons pe_bl (pa_cons pe_str (pa_cons pe_dnewK (pa_cons (pe_lst pa_nil) (pa_cons (pe_tup pa_nil) (pa_cons (pe_disp (pps_cons pe_str pe_int pps_nil) rfl rfl (by simp) (by decide)) (pa_cons (pe_tup (pa_cons pe_str (pa_cons pe_int pa_nil))) (pa_cons (pe_tup (pa_cons pe_str pa_nil)) (pa_cons (pe_tup (pa_cons pe_int pa_nil)) (pa_cons (pe_tup (pa_cons pe_str (pa_cons pe_str pa_nil))) (pa_cons (pe_tup (pa_cons (pe_lst pa_nil) pa_nil)) pa_nil)))))))))))))))
        (pss_cons (ps_set (i := 6) nd rfl (Or.inl rfl) (pe_call GPk hr2 (by rfl) gPk kPk bPk .nil pass0 (pa_cons (pv 0) (pa_cons (pv 6) pa_nil))))
        (pss_cons (ps_set (i := 7) nd rfl (Or.inl rfl) (pe_lst (pa_cons (pv 6) (pa_cons (pe_tup (pa_cons pe_str (pa_cons pe_str (pa_cons pe_bl pa_nil)))) (pa_cons (pe_tup (pa_cons pe_str (pa_cons pe_str (pa_cons pe_int pa_nil)))) (pa_cons (pe_tup (pa_cons pe_str (pa_cons pe_str (pa_cons pe_non pa_nil)))) (pa_cons (pe_tup (pa_cons pe_str (pa_cons (pe_lst (pa_cons pe_str pa_nil)) (pa_cons pe_bl pa_nil)))) (pa_cons (pe_tup (pa_cons pe_str pa_nil)) pa_nil))))))))
        (pss_cons (ps_set (i := 7) nd rfl (Or.inl rfl) (pe_op op_cat (pv 7) (pe_lst (pa_cons (pe_tup (pa_cons pe_str (pa_cons pe_str (pa_cons (pe_lst pa_nil) pa_nil)))) (pa_cons (pe_tup (pa_cons pe_str (pa_cons pe_str (pa_cons (pe_lst (pa_cons pe_str pa_nil)) pa_nil)))) (pa_cons (pe_tup (pa_cons pe_str (pa_cons (pv 3) (pa_cons (pe_tup (pa_cons (pv 3) pa_nil)) (pa_cons pe_non pa_nil))))) (pa_cons (pe_tup (pa_cons pe_str (pa_cons (pv 3) (pa_cons (pe_tup (pa_cons (pv 3) pa_nil)) (pa_cons pe_dnewK pa_nil))))) pa_nil)))))))
        (pss_cons (ps_set (i := 7) nd rfl (Or.inl rfl) (pe_op op_cat (pv 7) (pe_lst (pa_cons (pe_tup (pa_cons pe_str (pa_cons pe_str pa_nil))) (pa_cons (pe_tup (pa_cons pe_str (pa_cons (pe_lst (pa_cons pe_str pa_nil)) pa_nil))) (pa_cons (pe_tup (pa_cons pe_str (pa_cons pe_str (pa_cons pe_str pa_nil)))) (pa_cons (pe_tup (pa_cons pe_str (pa_cons pe_str (pa_cons pe_str pa_nil)))) pa_nil)))))))
        (pss_cons (ps_set (i := 7) nd rfl (Or.inl rfl) (pe_op op_cat (pv 7) (pe_lst (pa_cons (pe_tup (pa_cons pe_str pa_nil)) (pa_cons (pe_tup (pa_cons pe_str pa_nil)) (pa_cons (pe_tup (pa_cons pe_str pa_nil)) (pa_cons (pe_tup (pa_cons pe_str pa_nil)) (pa_cons (pe_tup (pa_cons pe_str (pa_cons (pv 3) (pa_cons (pe_tup (pa_cons (pv 3) pa_nil)) pa_nil)))) (pa_cons (pe_tup (pa_cons pe_str (pa_cons (pv 3) (pa_cons (pv 4) (pa_cons (pv 4) pa_nil))))) pa_nil)))))))))
        (pss_cons (ps_set (i := 7) nd rfl (Or.inl rfl) (pe_op op_cat (pv 7) (pe_lst (pa_cons (pe_tup (pa_cons pe_str (pa_cons (pv 3) (pa_cons pe_non (pa_cons (pv 4) pa_nil))))) (pa_cons (pe_tup (pa_cons pe_str (pa_cons (pv 3) (pa_cons (pe_tup (pa_cons (pv 3) pa_nil)) (pa_cons pe_str pa_nil))))) (pa_cons (pe_tup (pa_cons pe_str (pa_cons (pv 2) (pa_cons (pe_tup (pa_cons (pv 3) pa_nil)) (pa_cons (pv 4) pa_nil))))) pa_nil))))))
        (pss_cons (ps_set (i := 8) nd rfl (Or.inl rfl) (pe_call GPk hr2 (by rfl) gPk kPk bPk .nil pass0 (pa_cons (pv 0) (pa_cons (pe_lst (pa_cons pe_int (pa_cons pe_str (pa_cons (pe_tup pa_nil) (pa_cons (pe_tup (pa_cons pe_str (pa_cons pe_int pa_nil))) (pa_cons (pe_tup (pa_cons pe_str (pa_cons (pe_un un_neg pe_int) pa_nil))) (pa_cons (pe_tup (pa_cons pe_str (pa_cons pe_bl pa_nil))) (pa_cons (pe_tup (pa_cons pe_str pa_nil)) (pa_cons (pe_tup (pa_cons pe_str pa_nil)) pa_nil))))))))) pa_nil))))
        (pss_cons (ps_set (i := 9) nd rfl (Or.inl rfl) (pe_lst (pa_cons (pe_tup (pa_cons pe_str (pa_cons (pv 3) pa_nil))) (pa_cons (pe_tup (pa_cons pe_str (pa_cons pe_int pa_nil))) (pa_cons (pe_tup (pa_cons pe_str (pa_cons pe_str pa_nil))) (pa_cons (pe_tup (pa_cons pe_str (pa_cons pe_non pa_nil))) (pa_cons (pe_tup (pa_cons pe_str (pa_cons (pv 3) (pa_cons (pe_lst pa_nil) pa_nil)))) (pa_cons (pe_lst (pa_cons (pv 3) pa_nil)) (pa_cons (pe_tup (pa_cons pe_str (pa_cons (pe_lst pa_nil) pa_nil))) pa_nil)))))))))
        (pss_cons (ps_set (i := 9) nd rfl (Or.inl rfl) (pe_call GPk hr2 (by rfl) gPk kPk bPk .nil pass0 (pa_cons (pv 0) (pa_cons (pv 9) pa_nil))))
        (pss_cons (ps_set (i := 7) nd rfl (Or.inl rfl) (pe_op op_cat (pv 7) (pe_lst (pa_cons (pe_tup (pa_cons pe_str (pa_cons (pv 8) (pa_cons (pe_tup (pa_cons (pv 3) pa_nil)) (pa_cons (pv 4) pa_nil))))) (pa_cons (pe_tup (pa_cons pe_str (pa_cons (pv 9) (pa_cons (pe_tup (pa_cons (pv 3) pa_nil)) (pa_cons (pv 4) pa_nil))))) (pa_cons (pe_tup (pa_cons pe_str (pa_cons (pv 3) (pa_cons (pe_tup (pa_cons (pv 6) pa_nil)) (pa_cons (pv 4) pa_nil))))) pa_nil))))))
        (pss_one (ps_ret (pe_call GPk hr2 (by rfl) gPk kPk bPk .nil pass0 (pa_cons (pv 0) (pa_cons (pv 7) pa_nil)))))))))))))))))), ?_⟩
    refine Al.asg (K := K) (H0 := H) (d := .tuple [.tuple [.str "mark"], .tuple [.str "mark"], .tuple []]) (al_tup (al_cons (al_tup (al_cons al_str al_nil) (by simp [some0, some1, some2, some3, some4, some5, oddL, testL, otherL])) (al_cons (al_tup (al_cons al_str al_nil) (by simp [some0, some1, some2, some3, some4, some5, oddL, testL, otherL])) (al_cons (al_tup al_nil (by simp [some0, some1, some2, some3, some4, some5, oddL, testL, otherL])) al_nil))) (by simp [some0, some1, some2, some3, some4, some5, oddL, testL, otherL])) (Same.refl _) fun G1 vv s1 hh => ?_
    obtain ⟨pv, xs, rfl, hpv, hxs⟩ : ∃ (pv : Addr) (xs : List V), vv = .ref pv ∧ G1 pv = some (.tup xs) ∧ DeAll K G1 xs [.tuple [.str "mark"], .tuple [.str "mark"], .tuple []] := by
      cases hh with
      | tup a b => exact ⟨_, _, rfl, a, b⟩
    cases hxs with
    | @cons vd _ _ _ h2 hxs =>
    cases hxs with
    | @cons vm _ _ _ h3 hxs =>
    cases hxs with
    | @cons vn _ _ _ h4 hxs =>
    cases hxs
    refine ⟨pv, _, rfl, .inl (.inl hpv), rfl, _, _, rfl, _, _, rfl, _, _, rfl, rfl, ?_⟩
    have P1 := keepP P0 s1
    refine ⟨6, rfl, by decide, by decide, ?_⟩
    refine for_it walk_range (fun i σ G => ∃ (vd : V) (dd : PyData) (x5 x6 x7 x8 x9 : Option V) (k' lf' : Int), σ = [some (.ref p), some x, some vd, some vm, some vn, x5, x6, x7, x8, x9] ∧ TsG (i + 1) dd ∧ De K G vd dd ∧ De K G vm (.tuple [.str "mark"]) ∧ De K G vn (.tuple []) ∧ SameBut p H G ∧ PenAt G p l ns k' lf' ∧ 0 ≤ k' ∧ k' ≤ k + ((i : Nat) : Int) ∧ 0 ≤ lf')
      ⟨vd, _, none, none, none, none, none, k, lf, rfl, .w rfl rfl (by decide +kernel), h2, h3, h4, .of s1, P1, i0, by omega, i2⟩ (fun _ _ _ _ _ => trivial) ?_ ?_
    · rintro i y σ G Gx hi ⟨vd, dd, x5, x6, x7, x8, x9, k2, lf2, rfl, ht, h2, h3, h4, sb, P2, j1, j2, j3⟩ ⟨rfl, rfl⟩
      have hi : i < 6 := hi
      refine pk_go (K := K) (H0 := Gx) (ds := [.tuple [.str "not", dd], .tuple [.str "and", dd, .tuple [.str "mark"]], .tuple [.str "or", .tuple [.str "mark"], dd]]) (al_lst (al_cons (al_tup (al_cons al_str (al_cons (al_var (i := 2) rfl h2) al_nil)) (by simp [some0, some1, some2, some3, some4, some5, oddL, testL, otherL])) (al_cons (al_tup (al_cons al_str (al_cons (al_var (i := 2) rfl h2) (al_cons (al_var (i := 3) rfl h3) al_nil))) (by simp [some0, some1, some2, some3, some4, some5, oddL, testL, otherL])) (al_cons (al_tup (al_cons al_str (al_cons (al_var (i := 3) rfl h3) (al_cons (al_var (i := 2) rfl h2) al_nil))) (by simp [some0, some1, some2, some3, some4, some5, oddL, testL, otherL])) al_nil))) (by simp [some0, some1, some2, some3, some4, some5, oddL, testL, otherL])) rfl P2 hn j1 (by omega) j3 (by simp [some0, some1, some2, some3, some4, some5, oddL, testL, otherL]) (by simp [some0, some1, some2, some3, some4, some5, oddL, testL, otherL]) fun G3 k3 lf3 v d q1 q2 q3 s3 P3 hd hde => ?_
      refine ⟨v, d, _, _, _, _, _, k3, lf3, rfl, ?_, hde, de_but P2.dc s3 h3, de_but P2.dc s3 h4, sb.trans s3, P3, q2, by omega, q3⟩
      have hw : TsG (i + 1) (.tuple [.str "mark"]) := .w rfl rfl (by decide +kernel)
      simp only [List.mem_cons, List.mem_nil_iff, or_false] at hd
      rcases hd with rfl | rfl | rfl
      · exact .neg rfl rfl ht
      · exact .bin rfl rfl (by decide +kernel) ht hw
      · exact .bin rfl rfl (by decide +kernel) hw ht
    · rintro σ G2 ⟨vd, dd, x5, x6, x7, x8, x9, k2, lf2, rfl, ht, h2, h3, h4, sb, P2, j1, j2, j3⟩
      have j2 : k2 ≤ k + 6 := j2
      have hdd := tsG_TD ht
      refine Al.set (K := K) (H0 := G2) (d := .list oddL) (al_lst (al_cons al_non (al_cons al_int (al_cons al_bl (al_cons al_str (al_cons al_dnew (al_cons (al_lst al_nil (by simp [some0, some1, some2, some3, some4, some5, oddL, testL, otherL])) (al_cons (al_tup al_nil (by simp [some0, some1, some2, some3, some4, some5, oddL, testL, otherL])) (al_cons al_dic1 (al_cons (al_tup (al_cons al_str (al_cons al_int al_nil)) (by simp [some0, some1, some2, some3, some4, some5, oddL, testL, otherL])) (al_cons (al_tup (al_cons al_str al_nil) (by simp [some0, some1, some2, some3, some4, some5, oddL, testL, otherL])) (al_cons (al_tup (al_cons al_int al_nil) (by simp [some0, some1, some2, some3, some4, some5, oddL, testL, otherL])) (al_cons (al_tup (al_cons al_str (al_cons al_str al_nil)) (by simp [some0, some1, some2, some3, some4, some5, oddL, testL, otherL])) (al_cons (al_tup (al_cons (al_lst al_nil (by simp [some0, some1, some2, some3, some4, some5, oddL, testL, otherL])) al_nil) (by simp [some0, some1, some2, some3, some4, some5, oddL, testL, otherL])) al_nil))))))))))))) (by simp [some0, some1, some2, some3, some4, some5, oddL, testL, otherL])) (Same.refl _) fun G3 v3 s3 h6 => ?_
      have h2 := de_mono s3 _ _ h2
      have h3 := de_mono s3 _ _ h3
      have h4 := de_mono s3 _ _ h4
      have P3 := keepP P2 s3
      have sb := sb.trans (SameBut.of s3)
      refine pk_set (K := K) (H0 := G3) (ds := oddL) (al_var (i := 6) rfl h6) rfl P3 hn j1 (by omega) j3 (by decide) (by decide) fun G4 k4 lf4 v4 od q1 q2 q3 s4 P4 hd h6 => ?_
      have h2 := de_but P3.dc s4 h2
      have h3 := de_but P3.dc s4 h3
      have h4 := de_but P3.dc s4 h4
      have sb := sb.trans s4
      have j1 := q2
      have j3 := q3
      have j2 : k4 ≤ k + 7 := by omega
      have hod := oddL_ok od hd
      clear q1 q2 q3 hd
      refine Al.set (K := K) (H0 := G4) (d := .list (some0 od)) (al_lst (al_cons (al_var (i := 6) rfl h6) (al_cons (al_tup (al_cons al_str (al_cons al_str (al_cons al_bl al_nil))) (by simp [some0, some1, some2, some3, some4, some5, oddL, testL, otherL])) (al_cons (al_tup (al_cons al_str (al_cons al_str (al_cons al_int al_nil))) (by simp [some0, some1, some2, some3, some4, some5, oddL, testL, otherL])) (al_cons (al_tup (al_cons al_str (al_cons al_str (al_cons al_non al_nil))) (by simp [some0, some1, some2, some3, some4, some5, oddL, testL, otherL])) (al_cons (al_tup (al_cons al_str (al_cons (al_lst (al_cons al_str al_nil) (by simp [some0, some1, some2, some3, some4, some5, oddL, testL, otherL])) (al_cons al_bl al_nil))) (by simp [some0, some1, some2, some3, some4, some5, oddL, testL, otherL])) (al_cons (al_tup (al_cons al_str al_nil) (by simp [some0, some1, some2, some3, some4, some5, oddL, testL, otherL])) al_nil)))))) (by simp [some0, some1, some2, some3, some4, some5, oddL, testL, otherL])) (Same.refl _) fun G5 v5 s5 h7 => ?_
      have h2 := de_mono s5 _ _ h2
      have h3 := de_mono s5 _ _ h3
      have h4 := de_mono s5 _ _ h4
      have h6 := de_mono s5 _ _ h6
      have P5 := keepP P4 s5
      have sb := sb.trans (SameBut.of s5)
      refine Al.set (K := K) (H0 := G5) (d := .list ((some0 od) ++ some1)) (al_cat (al_var (i := 7) rfl h7) (al_lst (al_cons (al_tup (al_cons al_str (al_cons al_str (al_cons (al_lst al_nil (by simp [some0, some1, some2, some3, some4, some5, oddL, testL, otherL])) al_nil))) (by simp [some0, some1, some2, some3, some4, some5, oddL, testL, otherL])) (al_cons (al_tup (al_cons al_str (al_cons al_str (al_cons (al_lst (al_cons al_str al_nil) (by simp [some0, some1, some2, some3, some4, some5, oddL, testL, otherL])) al_nil))) (by simp [some0, some1, some2, some3, some4, some5, oddL, testL, otherL])) (al_cons (al_tup (al_cons al_str (al_cons (al_var (i := 3) rfl h3) (al_cons (al_tup (al_cons (al_var (i := 3) rfl h3) al_nil) (by simp [some0, some1, some2, some3, some4, some5, oddL, testL, otherL])) (al_cons al_non al_nil)))) (by simp [some0, some1, some2, some3, some4, some5, oddL, testL, otherL])) (al_cons (al_tup (al_cons al_str (al_cons (al_var (i := 3) rfl h3) (al_cons (al_tup (al_cons (al_var (i := 3) rfl h3) al_nil) (by simp [some0, some1, some2, some3, some4, some5, oddL, testL, otherL])) (al_cons al_dnew al_nil)))) (by simp [some0, some1, some2, some3, some4, some5, oddL, testL, otherL])) al_nil)))) (by simp [some0, some1, some2, some3, some4, some5, oddL, testL, otherL])) (by simp [some0, some1, some2, some3, some4, some5, oddL, testL, otherL])) (Same.refl _) fun G6 v6 s6 h7 => ?_
      have h2 := de_mono s6 _ _ h2
      have h3 := de_mono s6 _ _ h3
      have h4 := de_mono s6 _ _ h4
      have h6 := de_mono s6 _ _ h6
      have P6 := keepP P5 s6
      have sb := sb.trans (SameBut.of s6)
      refine Al.set (K := K) (H0 := G6) (d := .list (((some0 od) ++ some1) ++ some2)) (al_cat (al_var (i := 7) rfl h7) (al_lst (al_cons (al_tup (al_cons al_str (al_cons al_str al_nil)) (by simp [some0, some1, some2, some3, some4, some5, oddL, testL, otherL])) (al_cons (al_tup (al_cons al_str (al_cons (al_lst (al_cons al_str al_nil) (by simp [some0, some1, some2, some3, some4, some5, oddL, testL, otherL])) al_nil)) (by simp [some0, some1, some2, some3, some4, some5, oddL, testL, otherL])) (al_cons (al_tup (al_cons al_str (al_cons al_str (al_cons al_str al_nil))) (by simp [some0, some1, some2, some3, some4, some5, oddL, testL, otherL])) (al_cons (al_tup (al_cons al_str (al_cons al_str (al_cons al_str al_nil))) (by simp [some0, some1, some2, some3, some4, some5, oddL, testL, otherL])) al_nil)))) (by simp [some0, some1, some2, some3, some4, some5, oddL, testL, otherL])) (by simp [some0, some1, some2, some3, some4, some5, oddL, testL, otherL])) (Same.refl _) fun G7 v7 s7 h7 => ?_
      have h2 := de_mono s7 _ _ h2
      have h3 := de_mono s7 _ _ h3
      have h4 := de_mono s7 _ _ h4
      have h6 := de_mono s7 _ _ h6
      have P7 := keepP P6 s7
      have sb := sb.trans (SameBut.of s7)
      refine Al.set (K := K) (H0 := G7) (d := .list ((((some0 od) ++ some1) ++ some2) ++ some3)) (al_cat (al_var (i := 7) rfl h7) (al_lst (al_cons (al_tup (al_cons al_str al_nil) (by simp [some0, some1, some2, some3, some4, some5, oddL, testL, otherL])) (al_cons (al_tup (al_cons al_str al_nil) (by simp [some0, some1, some2, some3, some4, some5, oddL, testL, otherL])) (al_cons (al_tup (al_cons al_str al_nil) (by simp [some0, some1, some2, some3, some4, some5, oddL, testL, otherL])) (al_cons (al_tup (al_cons al_str al_nil) (by simp [some0, some1, some2, some3, some4, some5, oddL, testL, otherL])) (al_cons (al_tup (al_cons al_str (al_cons (al_var (i := 3) rfl h3) (al_cons (al_tup (al_cons (al_var (i := 3) rfl h3) al_nil) (by simp [some0, some1, some2, some3, some4, some5, oddL, testL, otherL])) al_nil))) (by simp [some0, some1, some2, some3, some4, some5, oddL, testL, otherL])) (al_cons (al_tup (al_cons al_str (al_cons (al_var (i := 3) rfl h3) (al_cons (al_var (i := 4) rfl h4) (al_cons (al_var (i := 4) rfl h4) al_nil)))) (by simp [some0, some1, some2, some3, some4, some5, oddL, testL, otherL])) al_nil)))))) (by simp [some0, some1, some2, some3, some4, some5, oddL, testL, otherL])) (by simp [some0, some1, some2, some3, some4, some5, oddL, testL, otherL])) (Same.refl _) fun G8 v8 s8 h7 => ?_
      have h2 := de_mono s8 _ _ h2
      have h3 := de_mono s8 _ _ h3
      have h4 := de_mono s8 _ _ h4
      have h6 := de_mono s8 _ _ h6
      have P8 := keepP P7 s8
      have sb := sb.trans (SameBut.of s8)
      refine Al.set (K := K) (H0 := G8) (d := .list (((((some0 od) ++ some1) ++ some2) ++ some3) ++ (some4 dd))) (al_cat (al_var (i := 7) rfl h7) (al_lst (al_cons (al_tup (al_cons al_str (al_cons (al_var (i := 3) rfl h3) (al_cons al_non (al_cons (al_var (i := 4) rfl h4) al_nil)))) (by simp [some0, some1, some2, some3, some4, some5, oddL, testL, otherL])) (al_cons (al_tup (al_cons al_str (al_cons (al_var (i := 3) rfl h3) (al_cons (al_tup (al_cons (al_var (i := 3) rfl h3) al_nil) (by simp [some0, some1, some2, some3, some4, some5, oddL, testL, otherL])) (al_cons al_str al_nil)))) (by simp [some0, some1, some2, some3, some4, some5, oddL, testL, otherL])) (al_cons (al_tup (al_cons al_str (al_cons (al_var (i := 2) rfl h2) (al_cons (al_tup (al_cons (al_var (i := 3) rfl h3) al_nil) (by simp [some0, some1, some2, some3, some4, some5, oddL, testL, otherL])) (al_cons (al_var (i := 4) rfl h4) al_nil)))) (by simp [some0, some1, some2, some3, some4, some5, oddL, testL, otherL])) al_nil))) (by simp [some0, some1, some2, some3, some4, some5, oddL, testL, otherL])) (by simp [some0, some1, some2, some3, some4, some5, oddL, testL, otherL])) (Same.refl _) fun G9 v9 s9 h7 => ?_
      have h2 := de_mono s9 _ _ h2
      have h3 := de_mono s9 _ _ h3
      have h4 := de_mono s9 _ _ h4
      have h6 := de_mono s9 _ _ h6
      have P9 := keepP P8 s9
      have sb := sb.trans (SameBut.of s9)
      refine pk_set (K := K) (H0 := G9) (ds := testL) (al_lst (al_cons al_int (al_cons al_str (al_cons (al_tup al_nil (by simp [some0, some1, some2, some3, some4, some5, oddL, testL, otherL])) (al_cons (al_tup (al_cons al_str (al_cons al_int al_nil)) (by simp [some0, some1, some2, some3, some4, some5, oddL, testL, otherL])) (al_cons (al_tup (al_cons al_str (al_cons al_neg al_nil)) (by simp [some0, some1, some2, some3, some4, some5, oddL, testL, otherL])) (al_cons (al_tup (al_cons al_str (al_cons al_bl al_nil)) (by simp [some0, some1, some2, some3, some4, some5, oddL, testL, otherL])) (al_cons (al_tup (al_cons al_str al_nil) (by simp [some0, some1, some2, some3, some4, some5, oddL, testL, otherL])) (al_cons (al_tup (al_cons al_str al_nil) (by simp [some0, some1, some2, some3, some4, some5, oddL, testL, otherL])) al_nil)))))))) (by simp [some0, some1, some2, some3, some4, some5, oddL, testL, otherL])) rfl P9 hn j1 (by omega) j3 (by decide) (by decide) fun G10 k10 lf10 v10 td q1 q2 q3 s10 P10 hd h8 => ?_
      have h2 := de_but P9.dc s10 h2
      have h3 := de_but P9.dc s10 h3
      have h4 := de_but P9.dc s10 h4
      have h6 := de_but P9.dc s10 h6
      have h7 := de_but P9.dc s10 h7
      have sb := sb.trans s10
      have j1 := q2
      have j3 := q3
      have j2 : k10 ≤ k + 8 := by omega
      have htd := testL_ok td hd
      clear q1 q2 q3 hd
      refine Al.set (K := K) (H0 := G10) (d := .list otherL) (al_lst (al_cons (al_tup (al_cons al_str (al_cons (al_var (i := 3) rfl h3) al_nil)) (by simp [some0, some1, some2, some3, some4, some5, oddL, testL, otherL])) (al_cons (al_tup (al_cons al_str (al_cons al_int al_nil)) (by simp [some0, some1, some2, some3, some4, some5, oddL, testL, otherL])) (al_cons (al_tup (al_cons al_str (al_cons al_str al_nil)) (by simp [some0, some1, some2, some3, some4, some5, oddL, testL, otherL])) (al_cons (al_tup (al_cons al_str (al_cons al_non al_nil)) (by simp [some0, some1, some2, some3, some4, some5, oddL, testL, otherL])) (al_cons (al_tup (al_cons al_str (al_cons (al_var (i := 3) rfl h3) (al_cons (al_lst al_nil (by simp [some0, some1, some2, some3, some4, some5, oddL, testL, otherL])) al_nil))) (by simp [some0, some1, some2, some3, some4, some5, oddL, testL, otherL])) (al_cons (al_lst (al_cons (al_var (i := 3) rfl h3) al_nil) (by simp [some0, some1, some2, some3, some4, some5, oddL, testL, otherL])) (al_cons (al_tup (al_cons al_str (al_cons (al_lst al_nil (by simp [some0, some1, some2, some3, some4, some5, oddL, testL, otherL])) al_nil)) (by simp [some0, some1, some2, some3, some4, some5, oddL, testL, otherL])) al_nil))))))) (by simp [some0, some1, some2, some3, some4, some5, oddL, testL, otherL])) (Same.refl _) fun G11 v11 s11 h9 => ?_
      have h2 := de_mono s11 _ _ h2
      have h3 := de_mono s11 _ _ h3
      have h4 := de_mono s11 _ _ h4
      have h6 := de_mono s11 _ _ h6
      have h7 := de_mono s11 _ _ h7
      have h8 := de_mono s11 _ _ h8
      have P11 := keepP P10 s11
      have sb := sb.trans (SameBut.of s11)
      refine pk_set (K := K) (H0 := G11) (ds := otherL) (al_var (i := 9) rfl h9) rfl P11 hn j1 (by omega) j3 (by decide) (by decide) fun G12 k12 lf12 v12 ud q1 q2 q3 s12 P12 hd h9 => ?_
      have h2 := de_but P11.dc s12 h2
      have h3 := de_but P11.dc s12 h3
      have h4 := de_but P11.dc s12 h4
      have h6 := de_but P11.dc s12 h6
      have h7 := de_but P11.dc s12 h7
      have h8 := de_but P11.dc s12 h8
      have sb := sb.trans s12
      have j1 := q2
      have j3 := q3
      have j2 : k12 ≤ k + 9 := by omega
      have hud := otherL_ok ud hd
      clear q1 q2 q3 hd
      refine Al.set (K := K) (H0 := G12) (d := .list ((((((some0 od) ++ some1) ++ some2) ++ some3) ++ (some4 dd)) ++ (some5 od td ud))) (al_cat (al_var (i := 7) rfl h7) (al_lst (al_cons (al_tup (al_cons al_str (al_cons (al_var (i := 8) rfl h8) (al_cons (al_tup (al_cons (al_var (i := 3) rfl h3) al_nil) (by simp [some0, some1, some2, some3, some4, some5, oddL, testL, otherL])) (al_cons (al_var (i := 4) rfl h4) al_nil)))) (by simp [some0, some1, some2, some3, some4, some5, oddL, testL, otherL])) (al_cons (al_tup (al_cons al_str (al_cons (al_var (i := 9) rfl h9) (al_cons (al_tup (al_cons (al_var (i := 3) rfl h3) al_nil) (by simp [some0, some1, some2, some3, some4, some5, oddL, testL, otherL])) (al_cons (al_var (i := 4) rfl h4) al_nil)))) (by simp [some0, some1, some2, some3, some4, some5, oddL, testL, otherL])) (al_cons (al_tup (al_cons al_str (al_cons (al_var (i := 3) rfl h3) (al_cons (al_tup (al_cons (al_var (i := 6) rfl h6) al_nil) (by simp [some0, some1, some2, some3, some4, some5, oddL, testL, otherL])) (al_cons (al_var (i := 4) rfl h4) al_nil)))) (by simp [some0, some1, some2, some3, some4, some5, oddL, testL, otherL])) al_nil))) (by simp [some0, some1, some2, some3, some4, some5, oddL, testL, otherL])) (by simp [some0, some1, some2, some3, some4, some5, oddL, testL, otherL])) (Same.refl _) fun G13 v13 s13 h7 => ?_
      have h2 := de_mono s13 _ _ h2
      have h3 := de_mono s13 _ _ h3
      have h4 := de_mono s13 _ _ h4
      have h6 := de_mono s13 _ _ h6
      have h8 := de_mono s13 _ _ h8
      have h9 := de_mono s13 _ _ h9
      have P13 := keepP P12 s13
      have sb := sb.trans (SameBut.of s13)
      refine pk_go (K := K) (H0 := G13) (ds := ((((((some0 od) ++ some1) ++ some2) ++ some3) ++ (some4 dd)) ++ (some5 od td ud))) (al_var (i := 7) rfl h7) rfl P13 hn j1 (by omega) j3 (by simp [some0, some1, some2, some3, some4, some5]) (by simp [some0, some1, some2, some3, some4, some5]) fun G9 k9 lf9 v9 d9 q1 q2 q3 s9 P9 hd h9 => ?_
      obtain ⟨n9, g9, l9⟩ := (fa_app (fa_app (fa_app (fa_app (fa_app (some0_ok hod) some1_ok) some2_ok) some3_ok) (some4_ok hdd)) (some5_ok hod htd hud)) d9 hd
      exact kk G9 k9 lf9 v9 d9 n9 (by omega) q2 q3 (sb.trans s9) P9 h9 g9 l9
end
end SK
namespace SK
open PySem PySem.Spec PyProof.Rows L2 LamX NdefX
open K0 (De DeAll XCl spX withX)
/-! ### a statement put in -/
theorem GdL.at_ {S : PyData → Nat → Prop} {ds : List PyData} {m : Nat} (h : GdL S ds m) : ∀ {j : Nat} {d : PyData}, ds[j]? = some d → ∃ a n b, GdL S (ds.take j) a ∧ S d n ∧ GdL S (ds.drop (j + 1)) b ∧ a + n + b = m := by
  induction h with
  | nil => intro j d z; simp at z
  | @cons d0 n0 ds m h1 h2 ih =>
    intro j d z
    cases j with
    | zero =>
      simp at z
      subst z
      exact ⟨0, n0, m, .nil, h1, h2, by omega⟩
    | succ j =>
      obtain ⟨a, n, b, q1, q2, q3, e⟩ := ih (by simpa using z)
      exact ⟨n0 + a, n, b, .cons h1 q1, q2, q3, by omega⟩
theorem eqv_one (h : PyData) : PyData.eqv (.tuple [h]) (.tuple [.str "if"]) = decide (nm h = some (Str.ofString "if")) := by
  have z := eqv_sr (Str.ofString "if") h
  simp only [PyData.eqv, PyData.eqvAll, Bool.and_true]
  exact z
theorem eqv_nil : PyData.eqv (.tuple []) (.tuple [.str "if"]) = false := by
  simp [PyData.eqv, PyData.eqvAll]
theorem HdOk.shaped1 {h : PyData} (k : HdOk h) : SeqAt.shaped (.tuple [h]) = true := by
  cases k with
  | str x e => simp [SeqAt.shaped, PyData.canLay0, PyData.canLayAll0, PyData.depth, PyData.depthAll, e]
  | one x e => simp [SeqAt.shaped, PyData.canLay0, PyData.canLayAll0, PyData.depth, PyData.depthAll, e]
  | onel x e => simp [SeqAt.shaped, PyData.canLay0, PyData.canLayAll0, PyData.depth, PyData.depthAll, e]
  | _ => simp [SeqAt.shaped, PyData.canLay0, PyData.canLayAll0, PyData.depth, PyData.depthAll]
/-- an if of four parts, and what is in it -/
theorem gs_if {k : Nat} {n : Nat} {h a b c : PyData} (g : GS k (.tuple [h, a, b, c]) n) (e : nm h = some (Str.ofString "if")) : ∃ k' m1 m2, k = k' + 1 ∧ h = .str "if" ∧ (tD 6 a ∧ lev a ≤ 7 ∧ ∀ j, hdW j a) ∧ GB (GS k') b m1 ∧ GB (GS k') c m2 ∧ n = m1 + m2 + 1 := by
  cases k with
  | zero => exact absurd e (g.1.no h a b c rfl)
  | succ k =>
    rcases g with g | ⟨t, b1, b2, m1, m2, e0, h1, h2, h3, h4, h5, h6⟩
    · exact absurd e (g.1.no h a b c rfl)
    · injection e0 with e0
      injection e0 with e1 e2
      injection e2 with e2 e3
      injection e3 with e3 e4
      injection e4 with e4 e5
      subst e1 e2 e3 e4
      exact ⟨k, m1, m2, rfl, rfl, ⟨h1, h2, h3⟩, h4, h5, h6⟩
def spPut (K : PySem.W.Frag) (n : Nat) : Sp := fun vs H Q _ => ∃ (p l : Addr) (ns : List Int) (j lf : Int) (b : Addr) (t : V) (xs : List V) (ds : List PyData) (e : PyData) (k m me : Nat), vs = [.ref p, .ref b, t] ∧ k < n ∧ H b = some (.tup xs) ∧ DeAll K H xs ds ∧ GdL (GS k) ds m ∧ m ≤ 900 ∧ De K H t e ∧ GS 1 e me ∧ me ≤ 2 ∧ PenAt H p l ns j lf ∧ ns.length ≤ 63 ∧ 0 ≤ j ∧ j + 4 * ((k + 1 : Nat) : Int) ≤ 100000 ∧ 0 ≤ lf ∧
  ∀ (H' : Hp) (j' lf' : Int) (u : V) (ds' : List PyData) (m' : Nat), j' ≤ j + 4 * ((k + 1 : Nat) : Int) → 0 ≤ j' → 0 ≤ lf' → SameBut p H H' → PenAt H' p l ns j' lf' → De K H' u (.tuple ds') → GdL (GS (k + 1)) ds' m' → m' ≤ m + 2 → Q u H'
section
variable {P : Program} {w : World} {K : PySem.W.Frag} {mg : Str → Option Value} {base : Heap} {f fD : Addr} {fd fdD : FuncData}
abbrev NPu : List Str := ["pen", "block", "told", "at", "spot", "here", "bent"]
theorem ok_pu (F : Fun K "_law_put" "_law_put" (top 65) f fd) (gN : mg "len" = none) (gI : mg "isinstance" = none) (gT : mg "tuple" = none)
    (gD : mg "_law_draw" = some (.ref fD)) (kD : PySem.W.keepIn K (.ref fD) = true) (GD : FnOk P w K mg base CX0 1 fD fdD ["pen", "many"] spDraw) (bD : Binds K fdD ["pen", "many"] [])
    (gS : mg "_law_put" = some (.ref f)) (bS : Binds K fd ["pen", "block", "told"] []) : ∀ n : Nat, FnOk P w K mg base CX0 (n + 2) f fd ["pen", "block", "told"] (spPut K n) := by
  have S0 : FnScope NPu ["pen", "block", "told"] (defScope (top 65)) := ⟨rfl, rfl, rfl, by decide +kernel, rfl, by decide +kernel, by decide +kernel⟩
  have nd := S0.nd
  have kS := F.kp
  intro n
  induction n with
  | zero =>
    refine F.ok S0 (fun vs H Q E h => ?_) (fun cdv A outer s H vs Q E hr h => ?_)
    · obtain ⟨p, l, ns, j, lf, b, t, xs, ds, e, k, m, me, rfl, hm, _⟩ := h
      omega
    · obtain ⟨p, l, ns, j, lf, b, t, xs, ds, e, k, m, me, rfl, hm, _⟩ := h
      omega
  | succ n GS' =>
  refine F.ok S0 (fun vs H Q E h => ?_) (fun cdv A outer s H vs Q E hr h => ?_)
  · obtain ⟨p, l, ns, j, lf, b, t, xs, ds, e, k, m, me, rfl, _⟩ := h
    rfl
  · obtain ⟨p, l, ns, j, lf, b, t, xs, ds, e, k, m, me, rfl, hk, hb, hxs, hg, hm, ht, ge, hme, P0, hn, i0, i1, i2, kk⟩ := h
    have hu64 := hr.units
    have hr1 : Room 1 _ := hr.mono (by omega)
    have b5 : (5000 : Nat) < sizeLine := by decide
    have keepP : ∀ {G G' : Hp} {k' lf' : Int}, PenAt G p l ns k' lf' → Same G G' → PenAt G' p l ns k' lf' := fun {G G' k' lf'} h s => ⟨s _ _ h.dc, s _ _ h.ls⟩
    have hlen := deAll_len hxs
    have hlm := hg.len (gs_pos k)
    refine ⟨_, (pss_cons (ps_par (i := 3) (j := 4) rfl nd rfl rfl (by decide) rfl rfl (pa_cons (pe_call GD hr1 (by rfl) gD kD bD .nil pass0 (pa_cons (pv 0) (pa_cons (pe_op op_add (pe_callB call_len_seq (by rfl) gN PySem.boot_len (pa_cons (pv 1) pa_nil)) pe_int) pa_nil))) (pa_cons (pe_op op_add pe_int (pe_call GD hr1 (by rfl) gD kD bD .nil pass0 (pa_cons (pv 0) (pa_cons pe_int pa_nil)))) pa_nil)) rfl)
        (pss_cons (ps_if (PW.pt (pw_and (pt_cmpR op_lt (pv 3) (pe_callB call_len_seq (by rfl) gN PySem.boot_len (pa_cons (pv 1) pa_nil)) (nomark _)) (pw_and (pt_val (pe_callB (r := rIsi K) call_isi (by rfl) gI PyProof.Rows.boot_isinstance (pa_cons (pe_ix (r := rIxT K) ix_tup (pv 1) (pv 3) (fun _ _ => rfl)) (pa_cons (pe_bltn (v := .ty "tuple") (by rfl) gT PyProof.Rows.boot_tuple rfl) pa_nil)))) (pw_and (pt_cmpR (r := rEqD K) (op_eqD hu64) (pe_slice sl_tupA (pe_ix (r := rIxT K) ix_tup (pv 1) (pv 3) (fun _ _ => rfl)) po_none (po_some pe_int)) (pe_tup (pa_cons pe_str pa_nil)) (nomark _)) (pw_and1 (pt_cmpR op_eq (pe_call GD hr1 (by rfl) gD kD bD .nil pass0 (pa_cons (pv 0) (pa_cons pe_int pa_nil))) pe_int (nomark _))))))) (pss_one (ps_if (PW.pt (pw_and (pt_cmpR op_eq (pe_callB call_len_seq (by rfl) gN PySem.boot_len (pa_cons (pe_ix (r := rIxT K) ix_tup (pv 1) (pv 3) (fun _ _ => rfl)) pa_nil)) pe_int (nomark _)) (pw_and1 (pt_val (pe_callB (r := rIsi K) call_isi (by rfl) gI PyProof.Rows.boot_isinstance (pa_cons (pe_ix (r := rIxT K) ix_tup (pe_ix (r := rIxT K) ix_tup (pv 1) (pv 3) (fun _ _ => rfl)) (pv 4) (fun _ _ => rfl)) (pa_cons (pe_bltn (v := .ty "tuple") (by rfl) gT PyProof.Rows.boot_tuple rfl) pa_nil))))))) (pss_cons (ps_set (i := 5) nd rfl (Or.inl rfl) (pe_ix (r := rIxT K) ix_tup (pv 1) (pv 3) (fun _ _ => rfl)))
        (pss_cons (ps_set (i := 6) nd rfl (Or.inl rfl) (pe_op op_catA (pe_op op_catA (pe_slice sl_tupA (pv 5) po_none (po_some (pv 4))) (pe_tup (pa_cons (pe_call GS' hr (by rfl) gS kS bS .nil pass0 (pa_cons (pv 0) (pa_cons (pe_ix (r := rIxT K) ix_tup (pv 5) (pv 4) (fun _ _ => rfl)) (pa_cons (pv 2) pa_nil)))) pa_nil))) (pe_slice sl_tupA (pv 5) (po_some (pe_op op_add (pv 4) pe_int)) po_none)))
        (pss_one (ps_ret (pe_op op_catA (pe_op op_catA (pe_slice sl_tupA (pv 1) po_none (po_some (pv 3))) (pe_tup (pa_cons (pv 6) pa_nil))) (pe_slice sl_tupA (pv 1) (po_some (pe_op op_add (pv 3) pe_int)) po_none)))))) pss_nil)) pss_nil)
        (pss_one (ps_ret (pe_op op_catA (pe_op op_catA (pe_slice sl_tupA (pv 1) po_none (po_some (pv 3))) (pe_tup (pa_cons (pv 2) pa_nil))) (pe_slice sl_tupA (pv 1) (po_some (pe_op op_add (pv 3) (pe_call GD hr1 (by rfl) gD kD bD .nil pass0 (pa_cons (pv 0) (pa_cons pe_int pa_nil))))) po_none)))))), ?_⟩
    have nbp : b ≠ p := ne_of hb P0.dc (by intro z; cases z)
    refine ⟨V.ref p, rfl, V.ref b, rfl, b, xs, rfl, .inr (.inl (.inl hb)), _, 1, rfl, rfl, p, l, ns, j, lf, _, rfl, P0, hn, i0, by omega, i2, by omega, by omega, fun G1 k1 lf1 d a1 a2 a3 a4 a5 s1 P1 => ?_⟩
    refine ⟨V.ref p, rfl, p, l, ns, k1, lf1, 2, rfl, P1, hn, a2, by omega, a3, by decide, by decide, fun G2 k2 lf2 d2 b1 b2 b3 b4 b5' s2 P2 => ⟨2, d2, rfl, rfl, V.int d, V.int (2 + d2), rfl, ?_⟩⟩
    obtain ⟨jj, rfl⟩ : ∃ jj : Nat, d = (jj : Int) := ⟨d.toNat, (Int.toNat_of_nonneg a4).symm⟩
    have hjj : jj ≤ xs.length := by omega
    obtain ⟨sp, esp, hsp⟩ : ∃ sp : Nat, 2 + d2 = (sp : Int) ∧ (sp = 2 ∨ sp = 3) := ⟨(2 + d2).toNat, (Int.toNat_of_nonneg (by omega)).symm, by omega⟩
    rw [esp]
    have sb2 : SameBut p H G2 := s1.trans s2
    have k2b : k2 ≤ j + 2 := by omega
    clear s1 P1 s2 a1 a2 a3 a4 a5 b1 b4 b5' esp
    have cut : ∀ (G : Hp), SameBut p H G → G b = some (.tup xs) := fun G sb => sb _ _ nbp hb
    suffices els : ∀ (G : Hp) (k' lf' : Int), SameBut p H G → PenAt G p l ns k' lf' → 0 ≤ k' → k' ≤ j + 3 → 0 ≤ lf' → tRet (tOp (rCatA K) (tOp (rCatA K) (tSl (rSlA K) (tVar 1) tNoPart (tPart (tVar 3))) (tTup (tCons (tVar 2) tNil))) (tSl (rSlA K) (tVar 1) (tPart (tOp (rI0 fun i j => V.int (i + j)) (tVar 3) (tCall spDraw [] L2.E0 (tCons (tVar 0) (tCons (tC (V.int 2)) tNil))))) tNoPart)) { nx := fun _ H' => Q .non H', rt := Q } [some (.ref p), some (.ref b), some t, some (.int (jj : Nat)), some (.int (sp : Nat)), none, none] G by
      refine ⟨V.int (jj : Nat), rfl, V.ref b, rfl, b, xs, rfl, .inr (.inl (.inl (cut _ sb2))), _, _, rfl, rfl, _, rfl, ite2 (fun c => ?_) (fun c => els G2 k2 lf2 sb2 P2 b2 (by omega) b3)⟩
      have hj1 : jj < xs.length := by
        have := of_decide_eq_true c
        omega
      obtain ⟨v, hv⟩ : ∃ v, xs[jj]? = some v := ⟨_, List.getElem?_eq_getElem hj1⟩
      obtain ⟨dd, hdd, hde⟩ := deAll_at hxs hv
      obtain ⟨T, tx, kt⟩ := ty_tp (de_but P0.dc sb2 hde)
      refine ⟨V.ref b, rfl, V.int (jj : Nat), rfl, b, xs, (jj : Int), v, rfl, rfl, .inl (.inl (cut _ sb2)), atI_nat hv, v, .ty "tuple", .type T, .type "tuple", isTp dd, rfl, .ty _, tx, kit_ty kt, isTp dd, rfl, ?_⟩
      cases etp : isTp dd with
      | false => exact iteF (els G2 k2 lf2 sb2 P2 b2 (by omega) b3)
      | true =>
      obtain ⟨es, rfl⟩ : ∃ es, dd = .tuple es := by
        cases dd with
        | tuple es => exact ⟨es, rfl⟩
        | _ => cases etp
      obtain ⟨wa, nd', wb, ga, gd, gb', ew⟩ := hg.at_ hdd
      cases hde with
      | @tup a us _ ha hus =>
      have nap : a ≠ p := ne_of ha P0.dc (by intro z; cases z)
      have hul := deAll_len hus
      have cuta : ∀ (G : Hp), SameBut p H G → G a = some (.tup us) := fun G sb => sb _ _ nap ha
      refine iteT ⟨V.ref b, rfl, V.int (jj : Nat), rfl, b, xs, (jj : Int), .ref a, rfl, rfl, .inl (.inl (cut _ sb2)), atI_nat hv, 1, rfl, sl_any (cuta _ sb2) fun G3 r3 s3 hr3 => ?_⟩
      have sb3 := sb2.trans (.of s3)
      refine ⟨(by show 1 ≤ sizeLine; decide), fun q nq => ?_⟩
      have s4 := upd_new (o := .tup [.str "if"]) nq
      have hq4 : upd G3 q (.tup [.str "if"]) q = some (.tup [.str "if"]) := upd_same
      generalize upd G3 q (.tup [.str "if"]) = G4 at s4 hq4
      have sb4 := sb3.trans (.of s4)
      have P4 := keepP P2 (s3.trans s4)
      have hr4 := s4 _ _ hr3
      have dq : Dp K G4 (.ref q) (.tuple [.str "if"]) := .tup (.inl (.inl hq4)) (.cons (.str _) .nil)
      cases hus with
      | nil =>
        have e0 : cutV ([] : List V) none (some 1) = [] := by simp [cutV]
        rw [e0] at hr4
        refine ⟨.tuple [], .tuple [.str "if"], .tup (.inl (.inl hr4)) .nil, dq, by decide +kernel, by decide +kernel, _, rfl, ?_⟩
        rw [eqv_nil]
        exact iteF (els G4 k2 lf2 sb4 P4 b2 (by omega) b3)
      | @cons u0 ur h0 er hu0 hur =>
      have e0 : cutV (u0 :: ur) none (some 1) = [u0] := cut_to (u0 :: ur) (k := 1) (by simp)
      rw [e0] at hr4
      have hh := ((gs_sD _ _ _ gd).1.1 h0 er rfl rfl).1
      refine ⟨.tuple [h0], .tuple [.str "if"], .tup (.inl (.inl hr4)) (.cons (hh.dp (de_but P0.dc sb4 hu0)) .nil), dq, hh.shaped1, by decide +kernel, _, rfl, ?_⟩
      rw [eqv_one]
      by_cases c1 : nm h0 = some (Str.ofString "if")
      · rw [decide_eq_true c1]
        refine iteT ⟨V.ref p, rfl, p, l, ns, k2, lf2, 2, rfl, P4, hn, b2, by omega, b3, by decide, by decide, fun G5 k5 lf5 d5 f1 f2 f3 f4 f5 s5 P5 => ⟨rfl, _, rfl, ite2 (fun c0 => ?_) (fun c0 => els G5 k5 lf5 (sb4.trans s5) P5 f2 (by omega) f3)⟩⟩
        have sb5 := sb4.trans s5
        have hurl := deAll_len hur
        refine ⟨V.ref b, rfl, V.int (jj : Nat), rfl, b, xs, (jj : Int), .ref a, rfl, rfl, .inl (.inl (cut _ sb5)), atI_nat hv, a, _, rfl, .inr (.inl (.inl (cuta _ sb5))), rfl, _, rfl, ?_⟩
        by_cases c4 : er.length = 3
        · rw [decide_eq_true (show V.int ((u0 :: ur).length : Nat) = V.int 4 by rw [List.length_cons, hurl, c4]; rfl)]
          obtain ⟨ea, eb, ec, rfl⟩ : ∃ ea eb ec, er = [ea, eb, ec] := by
            match er, c4 with
            | [ea, eb, ec], _ => exact ⟨ea, eb, ec, rfl⟩
          obtain ⟨k', m1, m2, rfl, rfl, ⟨t1, t2, t3⟩, gB, gC, em⟩ := gs_if gd c1
          obtain ⟨w, hw⟩ : ∃ w, (u0 :: ur)[sp]? = some w := ⟨_, List.getElem?_eq_getElem (by rw [List.length_cons, hurl]; show sp < 4; omega)⟩
          obtain ⟨B, hB, hBd⟩ := deAll_at (DeAll.cons hu0 hur) hw
          obtain ⟨mB, gBB, hmB, mkI⟩ : ∃ mB, GB (GS k') B mB ∧ mB ≤ nd' ∧ ∀ (ds' : List PyData) (m' : Nat), GdL (GS (k' + 1)) ds' m' → m' ≤ mB + 2 → ∃ nn, GS (k' + 2) (.tuple (([.str "if", ea, eb, ec] : List PyData).take sp ++ [.tuple ds'] ++ ([.str "if", ea, eb, ec] : List PyData).drop (sp + 1))) nn ∧ nn ≤ nd' + 2 := by
            rcases hsp with rfl | rfl
            · have hB : some eb = some B := hB
              obtain rfl : eb = B := Option.some.inj hB
              exact ⟨m1, gB, by omega, fun ds' m' h1 h2 => ⟨m' + m2 + 1, .inr ⟨ea, .tuple ds', ec, m', m2, rfl, t1, t2, t3, .inl ⟨ds', rfl, h1⟩, gC.map (gs_mono k'), rfl⟩, by omega⟩⟩
            · have hB : some ec = some B := hB
              obtain rfl : ec = B := Option.some.inj hB
              exact ⟨m2, gC, by omega, fun ds' m' h1 h2 => ⟨m1 + m' + 1, .inr ⟨ea, eb, .tuple ds', m1, m', rfl, t1, t2, t3, gB.map (gs_mono k'), .inl ⟨ds', rfl, h1⟩, rfl⟩, by omega⟩⟩
          have hsl : sp + 1 ≤ (u0 :: ur).length := by
            rw [List.length_cons, hurl]
            show sp + 1 ≤ 4
            omega
          obtain ⟨T2, tx2, kt2⟩ := ty_tp (de_but P0.dc sb5 hBd)
          refine iteT ⟨V.ref b, rfl, V.int (jj : Nat), rfl, b, xs, (jj : Int), .ref a, rfl, rfl, .inl (.inl (cut _ sb5)), atI_nat hv, V.int (sp : Nat), rfl, a, _, (sp : Int), w, rfl, rfl, .inl (.inl (cuta _ sb5)), atI_nat hw, w, .ty "tuple", .type T2, .type "tuple", isTp B, rfl, .ty _, tx2, kit_ty kt2, isTp B, rfl, ?_⟩
          cases etB : isTp B with
          | false => exact iteF (els G5 k5 lf5 sb5 P5 f2 (by omega) f3)
          | true =>
          rcases gBB with ⟨dsb, rfl, gBB⟩ | ⟨z, _⟩
          · cases hBd with
            | @tup ab ys _ hab hys =>
            have nabp : ab ≠ p := ne_of hab P0.dc (by intro z; cases z)
            refine iteT ⟨V.ref b, rfl, V.int (jj : Nat), rfl, b, xs, (jj : Int), .ref a, rfl, rfl, .inl (.inl (cut _ sb5)), atI_nat hv, ?_⟩
            refine ⟨V.ref a, rfl, V.int (sp : Nat), rfl, (sp : Int), rfl, sl_any (cuta _ sb5) fun G6 r6 s6 hr6 => ?_⟩
            rw [cut_to (u0 :: ur) (by omega)] at hr6
            have sb6 := sb5.trans (.of s6)
            have P6 := keepP P5 s6
            refine ⟨V.ref p, rfl, V.ref a, rfl, V.int (sp : Nat), rfl, a, _, (sp : Int), .ref ab, rfl, rfl, .inl (.inl (cuta _ sb6)), atI_nat hw, t, rfl, p, l, ns, k5, lf5, ab, t, ys, dsb, e, k', mB, me, rfl, by omega, sb6 _ _ nabp hab, de_butAll P0.dc sb6 hys, gBB, by omega, de_but P0.dc sb6 ht, ge, hme, P6, hn, f2, by omega, f3, fun G7 j7 lf7 u7 ds7 m7 q1 q2 q3 s7 P7 hu7 g7 hm7 => ⟨(by show 1 ≤ sizeLine; decide), fun t8 nt8 => ?_⟩⟩
            have sb7 := sb6.trans s7
            have s8 := upd_new (o := .tup [u7]) nt8
            have ht8 : upd G7 t8 (.tup [u7]) t8 = some (.tup [u7]) := upd_same
            generalize upd G7 t8 (.tup [u7]) = G8 at s8 ht8
            have nr6 : r6 ≠ p := ne_of hr6 P6.dc (by intro z; cases z)
            have hr8 := s8 _ _ (s7 _ _ nr6 hr6)
            have sb8 := sb7.trans (.of s8)
            have P8 := keepP P7 s8
            refine cat_any hr8 ht8 (by rw [List.length_take, List.length_singleton]; omega) fun G9 r9 s9 hr9 => ?_
            have sb9 := sb8.trans (.of s9)
            refine ⟨V.ref a, rfl, V.int (sp : Nat), rfl, (sp : Int), 1, rfl, rfl, ((sp + 1 : Nat) : Int), rfl, ?_⟩
            refine noPart_go (sl_any (cuta _ sb9) fun G10 r10 s10 hr10 => ?_)
            rw [cut_from (u0 :: ur) hsl] at hr10
            have hz4 : (u0 :: ur).length = 4 := by
              rw [List.length_cons, hurl]
              rfl
            have b4s : (4 : Nat) < 5000 := by decide
            refine cat_any (s10 _ _ hr9) hr10 (by rw [List.length_append, List.length_take, List.length_singleton, List.length_drop]; omega) fun G11 r11 s11 hr11 => ?_
            have s911 := s10.trans s11
            have sb11 := sb9.trans (.of s911)
            have hu11 : De K G11 u7 (.tuple ds7) := de_mono (s8.trans (s9.trans s911)) _ _ hu7
            have hall := deAll_app (deAll_app (deAll_take sp (de_butAll P0.dc sb11 (DeAll.cons hu0 hur))) (.cons hu11 .nil)) (deAll_drop (sp + 1) (de_butAll P0.dc sb11 (DeAll.cons hu0 hur)))
            have hnew : De K G11 (.ref r11) _ := .tup hr11 hall
            obtain ⟨nn, gnn, hnn⟩ := mkI ds7 m7 g7 hm7
            have P11 := keepP P8 (s9.trans s911)
            generalize PyData.tuple (([.str "if", ea, eb, ec] : List PyData).take sp ++ [.tuple ds7] ++ ([.str "if", ea, eb, ec] : List PyData).drop (sp + 1)) = dn at hnew gnn
            refine ⟨V.ref b, rfl, V.int (jj : Nat), rfl, (jj : Int), rfl, sl_any (cut _ sb11) fun G13 r13 s13 hr13 => ?_⟩
            rw [cut_to xs (by omega)] at hr13
            refine ⟨V.ref r11, rfl, (by show 1 ≤ sizeLine; decide), fun t14 nt14 => ?_⟩
            have s14 := upd_new (o := .tup [.ref r11]) nt14
            have ht14 : upd G13 t14 (.tup [.ref r11]) t14 = some (.tup [.ref r11]) := upd_same
            generalize upd G13 t14 (.tup [.ref r11]) = G14 at s14 ht14
            refine cat_any (s14 _ _ hr13) ht14 (by rw [List.length_take, List.length_singleton]; omega) fun G15 r15 s15 hr15 => ?_
            have s1115 := s13.trans (s14.trans s15)
            refine ⟨V.ref b, rfl, V.int (jj : Nat), rfl, (jj : Int), 1, rfl, rfl, ((jj + 1 : Nat) : Int), rfl, ?_⟩
            refine noPart_go (sl_any (s1115 _ _ (cut _ sb11)) fun G16 r16 s16 hr16 => ?_)
            rw [cut_from xs (by omega)] at hr16
            refine cat_any (s16 _ _ hr15) hr16 (by rw [List.length_append, List.length_take, List.length_singleton, List.length_drop]; omega) fun G17 r17 s17 hr17 => ?_
            have s1117 := s1115.trans (s16.trans s17)
            have hxs17 := de_monoAll s1117 _ _ (de_butAll P0.dc sb11 hxs)
            refine kk G17 j7 lf7 (.ref r17) (ds.take jj ++ [dn] ++ ds.drop (jj + 1)) (wa + (nn + 0) + wb) (by omega) q2 q3 (sb11.trans (.of s1117)) (keepP P11 s1117) (.tup hr17 (deAll_app (deAll_app (deAll_take jj hxs17) (.cons (de_mono s1117 _ _ hnew) .nil)) (deAll_drop (jj + 1) hxs17))) (((ga.map (gs_mono _)).app (.cons gnn .nil)).app (gb'.map (gs_mono _))) (by omega)
          · cases B with
            | tuple _ => cases z
            | _ => cases etB
        · rw [decide_eq_false (fun z : V.int ((u0 :: ur).length : Nat) = V.int 4 => c4 (by injection z with z; rw [List.length_cons, hurl] at z; omega))]
          exact iteF (els G5 k5 lf5 sb5 P5 f2 (by omega) f3)
      · rw [decide_eq_false c1]
        exact iteF (els G4 k2 lf2 sb4 P4 b2 (by omega) b3)
    · intro G k' lf' sb P' j1 j2 j3
      refine ⟨V.ref b, rfl, V.int (jj : Nat), rfl, (jj : Int), rfl, sl_any (cut _ sb) fun G13 r13 s13 hr13 => ?_⟩
      rw [cut_to xs (by omega)] at hr13
      refine ⟨t, rfl, (by show 1 ≤ sizeLine; decide), fun t14 nt14 => ?_⟩
      have s14 := upd_new (o := .tup [t]) nt14
      have ht14 : upd G13 t14 (.tup [t]) t14 = some (.tup [t]) := upd_same
      generalize upd G13 t14 (.tup [t]) = G14 at s14 ht14
      refine cat_any (s14 _ _ hr13) ht14 (by rw [List.length_take, List.length_singleton]; omega) fun G15 r15 s15 hr15 => ?_
      have s15' := s13.trans (s14.trans s15)
      have sb15 := sb.trans (.of s15')
      have P15 := keepP P' s15'
      refine ⟨V.ref b, rfl, V.int (jj : Nat), rfl, V.ref p, rfl, p, l, ns, k', lf', 2, rfl, P15, hn, j1, by omega, j3, by decide, by decide, fun G16 k16 lf16 d16 f1 f2 f3 f4 f5 s16 P16 => ?_⟩
      obtain ⟨o, ho, hol⟩ : ∃ o : Nat, (jj : Int) + d16 = ((jj + o : Nat) : Int) ∧ o ≤ 1 := ⟨d16.toNat, by omega, by omega⟩
      refine ⟨_, _, rfl, rfl, ((jj + o : Nat) : Int), (by show V.int ((jj : Int) + d16) = _; rw [ho]), ?_⟩
      have sb16 := sb15.trans s16
      have nr15 : r15 ≠ p := ne_of hr15 P15.dc (by intro z; cases z)
      refine noPart_go (sl_any (cut _ sb16) fun G17 r17 s17 hr17 => ?_)
      have hcd : cutV xs (some ((jj + o : Nat) : Int)) none = xs.drop (jj + o) := by
        by_cases z : jj + o ≤ xs.length
        · exact cut_from xs z
        · unfold cutV
          rw [HT.sIx_none, HT.sIx_nat, Nat.min_eq_right (by omega), List.drop_of_length_le (Nat.le_refl _), List.drop_of_length_le (by omega)]
          simp
      rw [hcd] at hr17
      refine cat_any (s17 _ _ (s16 _ _ nr15 hr15)) hr17 (by rw [List.length_append, List.length_take, List.length_singleton, List.length_drop]; omega) fun G18 r18 s18 hr18 => ?_
      have s1618 := s17.trans s18
      have sb18 := sb16.trans (.of s1618)
      have hxs18 := de_butAll P0.dc sb18 hxs
      obtain ⟨wa, wb, ga, gb', ew⟩ := hg.split jj
      obtain ⟨wc, wd, gc, gd, ew2⟩ := gb'.split o
      rw [List.drop_drop] at gd
      have ge' : GS (k + 1) e me := by
        have z := gs_le ge k
        rw [Nat.add_comm] at z
        exact z
      exact kk G18 k16 lf16 (.ref r18) (ds.take jj ++ [e] ++ ds.drop (jj + o)) (wa + (me + 0) + wd) (by omega) f2 f3 sb18 (keepP P16 s1618) (.tup hr18 (deAll_app (deAll_app (deAll_take jj hxs18) (.cons (de_but P0.dc sb18 ht) .nil)) (deAll_drop (jj + o) hxs18))) (((ga.map (gs_mono _)).app (.cons ge' .nil)).app (gd.map (gs_mono _))) (by omega)
end
end SK
namespace SK
open PySem PySem.Spec PyProof.Rows L2 LamX NdefX
open K0 (De DeAll XCl spX withX)
/-! ### what is told of three blocks -/
def numX : Nat ⊕ Nat → Nat
  | .inl n => n
  | .inr n => n
theorem scan_le {blk : Str} : ∀ (F : Nat) (ws : List PyData) (m : Nat) (r : Nat ⊕ Nat), scanF blk F ws m = some r → numX r ≤ m + F := by
  intro F
  induction F with
  | zero =>
    intro ws m r h
    cases ws with
    | nil =>
      cases h
      exact Nat.le_refl _
    | cons d r' => cases h
  | succ F ih =>
    intro ws m r h
    cases ws with
    | nil =>
      cases h
      exact Nat.le_add_right _ _
    | cons d r' =>
      have h : (if okS blk d = true then scanF blk F (inner d ++ r') (m + 1) else some (.inl m)) = some r := h
      by_cases c : okS blk d = true
      · rw [if_pos c] at h
        have := ih _ _ _ h
        omega
      · rw [if_neg c] at h
        cases h
        exact Nat.le_add_right _ _
/-- a block with its result, small -/
structure Bq (blk : Str) (d : PyData) (r : Nat ⊕ Nat) : Prop where
  res : ResL blk d r
  nu : numX r ≤ 1000
  fz : lev d < 20 ∧ hdW 20 d
theorem bq_tl {blk : Str} {k : Nat} {b : PyData} {n : Nat} (t : isTL b = true) (h : GdL (GS k) (elems b) n) (hk : k ≤ 5) (hn : n ≤ 1000) : ∃ r, Bq blk b r := by
  obtain ⟨r, hr⟩ := gl_scan (blk := blk) n h (Nat.le_refl _) 0
  refine ⟨r, .inr ⟨t, n, hr, gl_scanL _ h (by omega)⟩, by have := scan_le _ _ _ _ hr; omega, ?_, hdW_mk (Nat.le_trans (h.len (gs_pos k)) hn) fun j _ e he => ?_⟩
  · rw [lev_tl t]
    have := levAll_le (n := 8 + 2 * k) (ds := elems b) fun e he => by
      obtain ⟨m', a, _⟩ := h.mem e he
      exact gs_lev _ _ _ a
    omega
  · obtain ⟨m', a, b'⟩ := h.mem e he
    exact gs_w _ _ _ a (by omega) j
theorem bq_gb {blk : Str} {k : Nat} {b : PyData} {n : Nat} (h : GB (GS k) b n) (hk : k ≤ 5) (hn : n ≤ 1000) : ∃ r, Bq blk b r := by
  rcases h with ⟨ds, rfl, h⟩ | ⟨h, _⟩
  · exact bq_tl rfl h hk hn
  · exact ⟨.inl 0, .inl ⟨h, rfl⟩, Nat.zero_le _, by rw [lev_no h]; decide, hdW_no h 20⟩
def smD : Due → Prop
  | .none => True
  | .stm blk n => blk ∈ blk3 ∧ n ≤ 3000
  | .many n => n ≤ 3000
theorem bq_sm {d1 d2 d3 : PyData} {r1 r2 r3 : Nat ⊕ Nat} (B1 : Bq (Str.ofString "down") d1 r1) (B2 : Bq (Str.ofString "turn") d2 r2) (B3 : Bq (Str.ofString "up") d3 r3) : smD (dueB r1 r2 r3) := by
  have n1 := B1.nu
  have n2 := B2.nu
  have n3 := B3.nu
  cases r1 with
  | inl n => exact ⟨by decide +kernel, by simp only [numX] at n1; omega⟩
  | inr a =>
    cases r2 with
    | inl n => exact ⟨by decide +kernel, by simp only [numX] at n2; omega⟩
    | inr b =>
      cases r3 with
      | inl n => exact ⟨by decide +kernel, by simp only [numX] at n3; omega⟩
      | inr c =>
        show smD (if a + b + c ≤ 40 then .none else .many (a + b + c))
        simp only [numX] at n1 n2 n3
        split
        · exact trivial
        · show a + b + c ≤ 3000
          omega
theorem log2_sm {n : Nat} (h : n ≤ 3000) : n.log2 < 1920 := by
  have : n < 2 ^ 12 := by omega
  have z := (Nat.log2_lt (n := n) (k := 12))
  by_cases e : n = 0
  · subst e
    decide
  · have := (Nat.log2_lt e).mpr this
    omega
theorem int_sm {n : Nat} (h : n ≤ 3000) : (PyData.int (n : Nat)).showable = true ∧ (PyData.int (n : Nat)).shown.length ≤ 13 := by
  constructor
  · simp only [PyData.showable, decide_eq_true_eq]
    exact log2_sm (by omega)
  · refine PyData.shown_int_le ?_
    show ((n : Nat) : Int).natAbs < 1000000000000
    omega
theorem blk_short : ∀ z ∈ blk3, (z.cps.toList.all fun c => decide (c < 16 ^ 8)) = true := by decide +kernel
theorem blk_w : ∀ z ∈ blk3, z.cps.size ≤ 10 := by decide +kernel
theorem w_int {n : Nat} (h : n ≤ 3000) : (PyData.int (n : Nat)).weight ≤ 2000 := by
  have z := log2_sm (n := n) h
  simp only [PyData.weight]
  split
  · decide
  · show n.log2 + 1 ≤ 2000
    omega
theorem ans_rep : ∀ {u : Due}, smD u → (ansD u).canLay0 = true ∧ (ansD u).showable = true ∧ (ansD u).depth ≤ 8 ∧ (ansD u).shown.length ≤ sizeLine
  | .none, _ => ⟨by decide +kernel, by decide +kernel, by decide +kernel, by decide +kernel⟩
  | .stm blk n, h => by
    obtain ⟨hb, hn⟩ := h
    obtain ⟨h1, h2⟩ := int_sm hn
    have hk : PyData.strOk blk = true := by
      have q : ∀ z ∈ blk3, PyData.strOk z = true := by decide +kernel
      exact q _ hb
    refine ⟨?_, ?_, by simp [ansD, PyData.depth, PyData.depthAll], ?_⟩
    · have h0 : PyData.strOk (Str.ofString "statement") = true := by decide +kernel
      simp [ansD, PyData.canLay0, PyData.canLayAll0, hk, h0]
    · simp only [ansD, PyData.showable, PyData.showableAll, Bool.true_and, Bool.and_true] at h1 ⊢
      exact h1
    · refine PyData.shown_fits (B := 13) (by decide) (by decide) ?_ ?_
      · simp only [ansD, PyData.leavesShort, PyData.leavesShortAll, Bool.and_true, Bool.and_eq_true]
        exact ⟨by decide +kernel, blk_short blk hb, decide_eq_true h2⟩
      · have w0 := blk_w blk hb
        have w1 := w_int hn
        simp only [ansD, PyData.weight, PyData.weightAll] at w1 ⊢
        have e0 : (Str.ofString "statement").cps.size = 9 := by decide +kernel
        have b20 : (2 : Nat) ^ 20 = 1048576 := by decide +kernel
        omega
  | .many n, h => by
    have hn : n ≤ 3000 := h
    obtain ⟨h1, h2⟩ := int_sm hn
    refine ⟨?_, ?_, by simp [ansD, PyData.depth, PyData.depthAll], ?_⟩
    · have h0 : PyData.strOk (Str.ofString "statements") = true := by decide +kernel
      simp [ansD, PyData.canLay0, PyData.canLayAll0, h0]
    · have h40 : (PyData.int 40).showable = true := by decide +kernel
      simp only [ansD, PyData.showable, PyData.showableAll, Bool.true_and, Bool.and_true, Bool.and_eq_true] at h1 h40 ⊢
      exact ⟨h1, h40⟩
    · refine PyData.shown_fits (B := 13) (by decide) (by decide) ?_ ?_
      · simp only [ansD, PyData.leavesShort, PyData.leavesShortAll, Bool.and_true, Bool.and_eq_true]
        exact ⟨by decide +kernel, decide_eq_true h2, by decide +kernel⟩
      · have w1 := w_int hn
        have w2 : (PyData.int 40).weight ≤ 100 := by decide +kernel
        simp only [ansD, PyData.weight, PyData.weightAll] at w1 w2 ⊢
        have e0 : (Str.ofString "statements").cps.size = 10 := by decide +kernel
        have b20 : (2 : Nat) ^ 20 = 1048576 := by decide +kernel
        omega
/-! ### three blocks as the law hands them in -/
theorem bl3_bq {K : PySem.W.Frag} {H : Hp} {p : Addr} {v1 v2 v3 : V} {d1 d2 d3 : PyData} {r1 r2 r3 : Nat ⊕ Nat} (hp : H p = some (.tup [v1, v2, v3])) (D1 : De K H v1 d1) (D2 : De K H v2 d2) (D3 : De K H v3 d3)
    (B1 : Bq (Str.ofString "down") d1 r1) (B2 : Bq (Str.ofString "turn") d2 r2) (B3 : Bq (Str.ofString "up") d3 r3) : Bl3 K H (.ref p) d1 d2 d3 r1 r2 r3 :=
  ⟨⟨p, _, rfl, .inr (.inl (.inl hp)), .cons D1 (.cons D2 (.cons D3 .nil))⟩, B1.res.toB, B2.res.toB, B3.res.toB, fun _ => ⟨B1.fz, B2.fz, B3.fz⟩⟩
theorem bq_resB {K : PySem.W.Frag} {H : Hp} {blk : Str} {v : V} {d : PyData} {n : Nat} (b : BlkQ K H blk v d n) : ResB blk d (.inr n) := .inr ⟨b.2.1, b.2.2.2.2⟩
theorem bl3_q {K : PySem.W.Frag} {H : Hp} {p : Addr} {v1 v2 v3 : V} {d1 d2 d3 : PyData} {n1 n2 n3 : Nat} (hp : SqL K H p [v1, v2, v3] ∨ SqT K H p [v1, v2, v3])
    (B1 : BlkQ K H (Str.ofString "down") v1 d1 n1) (B2 : BlkQ K H (Str.ofString "turn") v2 d2 n2) (B3 : BlkQ K H (Str.ofString "up") v3 d3 n3) : Bl3 K H (.ref p) d1 d2 d3 (.inr n1) (.inr n2) (.inr n3) :=
  ⟨⟨p, _, rfl, hp, .cons B1.1 (.cons B2.1 (.cons B3.1 .nil))⟩, bq_resB B1, bq_resB B2, bq_resB B3, fun _ => ⟨⟨B1.2.2.1, B1.2.2.2.1⟩, ⟨B2.2.2.1, B2.2.2.2.1⟩, ⟨B3.2.2.1, B3.2.2.2.1⟩⟩⟩
/-! ### towers -/
def TWi (k : Nat) (d : PyData) : List PyData := if k > 299 then [d, .tuple []] else [.tuple [.tuple [.str "unmark"]], d]
def TWs : Nat → PyData
  | 0 => .tuple [.tuple [.str "mark"]]
  | k + 1 => .tuple [.tuple ([.str "if", .tuple [.str "f"]] ++ TWi k (TWs k))]
def cTw : Nat → Nat
  | 0 => 1
  | k + 1 => if k > 299 then 1 + cTw k + 0 else 1 + 1 + cTw k
theorem cTw_end : cTw 600 = 901 := by decide +kernel
theorem tw_st : ∀ k : Nat, isTL (TWs k) = true ∧ elems (TWs k) ≠ [] ∧ ∃ l, StL (Str.ofString "turn") k (elems (TWs k)) (cTw k) l
  | 0 => ⟨rfl, (fun z => nomatch z), _, StL.one (.one (x := "mark") rfl rfl (by decide +kernel))⟩
  | k + 1 => by
    obtain ⟨h1, h2, l, h3⟩ := tw_st k
    refine ⟨rfl, (fun z => nomatch z), ?_⟩
    have tf : TsG 6 (.tuple [.str "f"]) := .w rfl rfl (by decide +kernel)
    show ∃ l, StL _ (k + 1) [.tuple ([.str "if", .tuple [.str "f"]] ++ TWi k (TWs k))] (if k > 299 then 1 + cTw k + 0 else 1 + 1 + cTw k) l
    unfold TWi
    by_cases c : k > 299
    · rw [if_pos c, if_pos c]
      exact ⟨_, StL.one (.iff rfl rfl tf h1 h2 rfl h3 .nil)⟩
    · rw [if_neg c, if_neg c]
      have u1 : StL (Str.ofString "turn") k [.tuple [.str "unmark"]] 1 _ := StL.one (.one (x := "unmark") rfl rfl (by decide +kernel))
      exact ⟨_, StL.one (.iff rfl rfl tf rfl (fun z => nomatch z) h1 u1 h3)⟩
theorem tw_res : ResB (Str.ofString "turn") (TWs 600) (.inr 901) := by
  obtain ⟨h1, h2, l, h3⟩ := tw_st 600
  rw [cTw_end] at h3
  refine .inr ⟨h1, 901, ?_, stL_scanH _ h3 (by decide)⟩
  have z := stL_scan 901 h3 (Nat.le_refl _) 0
  rw [Nat.zero_add] at z
  exact z
def NOTs : Nat → PyData
  | 0 => .tuple [.str "f"]
  | k + 1 => .tuple [.str "not", NOTs k]
theorem nt_no : ∀ (n k : Nat), n ≤ k → okT n (NOTs k) = false
  | 0, _, _ => rfl
  | n + 1, 0, h => absurd h (by omega)
  | n + 1, k + 1, h => by
    show (true && okT2 (okT n) (.str "not") (NOTs k) []) = false
    unfold okT2
    rw [if_neg (show ¬ nm (PyData.str "not") = some (Str.ofString "others") from fun q => absurd (Option.some.inj q) (by decide)), if_pos (show nm (PyData.str "not") = some (Str.ofString "not") from rfl), nt_no n k (by omega)]
    rfl
theorem nt_hd : ∀ (n k : Nat), hdT n (NOTs k)
  | 0, _ => trivial
  | n + 1, 0 => fun h r _ e => by
    injection e with e1 e2
    subst e1 e2
    exact ⟨.str _ (by decide +kernel), fun x hx => by cases hx⟩
  | n + 1, k + 1 => fun h r _ e => by
    injection e with e1 e2
    subst e1 e2
    refine ⟨.str _ (by decide +kernel), fun x hx => ?_⟩
    rw [List.mem_singleton.mp hx]
    exact nt_hd n k
def NTb : PyData := .tuple [.tuple [.str "if", NOTs 600, .tuple [.tuple [.str "mark"]], .tuple []]]
theorem nt_res : ResB (Str.ofString "turn") NTb (.inl 0) := by
  have no : okS (Str.ofString "turn") (.tuple [.str "if", NOTs 600, .tuple [.tuple [.str "mark"]], .tuple []]) = false := by
    show (true && okS2 (Str.ofString "turn") (.str "if") [.str "if", NOTs 600, .tuple [.tuple [.str "mark"]], .tuple []]) = false
    unfold okS2
    rw [if_neg (show ¬ nm (PyData.str "if") = some (Str.ofString "set") from fun q => absurd (Option.some.inj q) (by decide)), if_neg (show ¬ nm (PyData.str "if") = some (Str.ofString "return") from fun q => absurd (Option.some.inj q) (by decide))]
    show (true && (decide (nm (PyData.str "if") = some (Str.ofString "if")) && (okT 6 (NOTs 600) && (isTL (.tuple [.tuple [.str "mark"]]) && (!(elems (.tuple [.tuple [.str "mark"]])).isEmpty && isTL (.tuple [])))))) = false
    rw [nt_no 6 600 (by decide)]
    simp
  refine .inr ⟨rfl, 1, ?_, ?_⟩
  · show (if okS (Str.ofString "turn") (.tuple [.str "if", NOTs 600, .tuple [.tuple [.str "mark"]], .tuple []]) = true then scanF (Str.ofString "turn") 0 (inner (.tuple [.str "if", NOTs 600, .tuple [.tuple [.str "mark"]], .tuple []]) ++ []) (0 + 1) else some (Sum.inl 0)) = some (Sum.inl 0)
    rw [no]
    rfl
  · refine ⟨by show 1 ≤ 5000; decide, fun d r e => ?_⟩
    have e : [PyData.tuple [.str "if", NOTs 600, .tuple [.tuple [.str "mark"]], .tuple []]] = d :: r := e
    injection e with e1 e2
    subst e1
    refine ⟨?_, fun z => by rw [no] at z; cases z⟩
    intro h r _ e
    injection e with e1 e2
    subst e1 e2
    refine ⟨.str _ (by decide +kernel), fun a r' z => ?_⟩
    injection z with z1 z2
    subst z1 z2
    exact ⟨fun q => by
      rcases q with q | q
      · exact absurd (Option.some.inj q) (by decide)
      · exact absurd (Option.some.inj q) (by decide), fun _ => nt_hd 6 600⟩
theorem emp_res {blk : Str} : ResB blk (.tuple []) (.inr 0) := .inr ⟨rfl, 0, rfl, ⟨by show 0 ≤ 5000; decide, fun d r e => nomatch e⟩⟩
end SK
namespace SK
open PySem PySem.Spec PyProof.Rows L2 LamX NdefX
open K0 (De DeAll XCl spX withX)
/-! ### the law -/
theorem pk1 {K : PySem.W.Frag} {H0 : Hp} {σ : St} {E : XK} {te : TE} {ds : List PyData} {p l : Addr} {ns : List Int} {k lf : Int} {R : VK} {pi : Nat} (h : Al K H0 σ te (.list ds)) (h0 : σ[pi]? = some (some (.ref p))) (P : PenAt H0 p l ns k lf) (hn : ns.length ≤ 63) (i0 : 0 ≤ k) (i1 : k ≤ 100000) (i2 : 0 ≤ lf) (z0 : 0 < ds.length) (z1 : ds.length ≤ 1000)
    (kk : ∀ (H' : Hp) (k' lf' : Int) (v : V) (d : PyData), k' ≤ k + 1 → 0 ≤ k' → 0 ≤ lf' → SameBut p H0 H' → PenAt H' p l ns k' lf' → d ∈ ds → De K H' v d → R v H') : tCall spPick [] E (tCons (tVar pi) (tCons te tNil)) σ H0 R := by
  refine ⟨V.ref p, h0, h H0 _ (Same.refl _) fun H1 v s1 hd => ?_⟩
  cases hd with
  | @lst a xs _ ha hxs =>
  have P1 : PenAt H1 p l ns k lf := ⟨s1 _ _ P.dc, s1 _ _ P.ls⟩
  have hl := deAll_len hxs
  refine ⟨p, l, .ref a, ns, k, lf, xs, rfl, P1, hn, i0, i1, i2, .inl ⟨a, rfl, ha⟩, by omega, by omega, fun H' k' lf' y e1 e2 e3 hy s P' => ?_⟩
  obtain ⟨d, hd, hde⟩ := deAll_mem (de_butAll P1.dc s hxs) hy
  exact kk H' k' lf' y d e1 e2 e3 ((SameBut.of s1).trans s) P' hd hde
def spLaw (K : PySem.W.Frag) : Sp := fun vs H Q _ => ∃ (a : Addr) (ns : List Int), vs = [.ref a] ∧ SqL K H a (ns.map V.int) ∧ ns.length ≤ 63 ∧ ∀ H', Q (.bl true) H'
/-- three blocks made of tuples -/
def GdT (k c : Nat) (bs : List PyData) : Prop := bs.length = 3 ∧ ∀ d ∈ bs, ∃ ds m, d = .tuple ds ∧ GdL (GS k) ds m ∧ m ≤ c
/-- three blocks, or what stands for one -/
def GdQ (k c : Nat) (bs : List PyData) : Prop := bs.length = 3 ∧ ∀ d ∈ bs, ∃ m, GB (GS k) d m ∧ m ≤ c
theorem GdT.q {k c : Nat} {bs : List PyData} (h : GdT k c bs) : GdQ k c bs := ⟨h.1, fun d hd => by
  obtain ⟨ds, m, e, g, l⟩ := h.2 d hd
  exact ⟨m, .inl ⟨ds, e, g⟩, l⟩⟩
theorem put3_len {bs : List PyData} {j : Nat} {d : PyData} (h : bs.length = 3) (hj : j < 3) : (bs.take j ++ [d] ++ bs.drop (j + 1)).length = 3 := by
  rw [List.length_append, List.length_append, List.length_take, List.length_drop, List.length_singleton]
  omega
theorem put3_mem {bs : List PyData} {j : Nat} {d e : PyData} (h : e ∈ bs.take j ++ [d] ++ bs.drop (j + 1)) : e ∈ bs ∨ e = d := by
  rcases List.mem_append.mp h with h | h
  · rcases List.mem_append.mp h with h | h
    · exact .inl (List.mem_of_mem_take h)
    · exact .inr (List.mem_singleton.mp h)
  · exact .inl (List.mem_of_mem_drop h)
theorem GdT.put {k c : Nat} {bs : List PyData} (h : GdT k c bs) {j : Nat} (hj : j < 3) {ds : List PyData} {m : Nat} (g : GdL (GS (k + 1)) ds m) (hm : m ≤ c + 2) : GdT (k + 1) (c + 2) (bs.take j ++ [.tuple ds] ++ bs.drop (j + 1)) := ⟨put3_len h.1 hj, fun e he => by
  rcases put3_mem he with he | rfl
  · obtain ⟨ds', m', e, g', l⟩ := h.2 e he
    exact ⟨ds', m', e, g'.map (gs_mono k), by omega⟩
  · exact ⟨ds, m, rfl, g, hm⟩⟩
theorem GdQ.put {k c : Nat} {bs : List PyData} (h : GdQ k c bs) {j : Nat} (hj : j < 3) {d : PyData} (t : isTL d = false) : GdQ k c (bs.take j ++ [d] ++ bs.drop (j + 1)) := ⟨put3_len h.1 hj, fun e he => by
  rcases put3_mem he with he | rfl
  · exact h.2 e he
  · exact ⟨0, .inr ⟨t, rfl⟩, Nat.zero_le _⟩⟩
theorem GdT.mono {k c : Nat} {bs : List PyData} (h : GdT k c bs) : GdT (k + 1) (c + 2) bs := ⟨h.1, fun e he => by
  obtain ⟨ds', m', e, g', l⟩ := h.2 e he
  exact ⟨ds', m', e, g'.map (gs_mono k), by omega⟩⟩
theorem BkR.al {blk : Str} {d : PyData} {k : Nat} {l : List Str} (B : BkR blk d k l) (hk : k ≤ 1000) : lev d < 13 ∧ (∀ m, hdW m d) ∧ d.canLay0 = true := by
  refine ⟨?_, fun m => hdW_mk (Nat.le_trans B.st.len hk) fun j _ => stL_w B.st hk j, ?_⟩
  · have := stL_lev B.st
    rw [lev_tl B.tl]
    omega
  · have z := lay_tup (stL_lay B.st)
    rw [← fz_tl B.tl, B.fx] at z
    exact z.1
def sc5 : List PyData := [.none, .int 5, .str "mark", .dict [], .bool true]
theorem sc5_no : ∀ d ∈ sc5, isTL d = false := fa_cons rfl (fa_cons rfl (fa_cons rfl (fa_cons rfl (fa_cons rfl fa_nil))))
/-! ### two tellings held against each other -/
theorem met_al {K : PySem.W.Frag} {σ : St} {G : Hp} {E : XK} {te : TE} {R : VK} {d1 d2 d3 : PyData} {r1 r2 r3 : Nat ⊕ Nat} (h : Al K G σ te (.tuple [d1, d2, d3])) (q1 : ResB (Str.ofString "down") d1 r1) (q2 : ResB (Str.ofString "turn") d2 r2) (q3 : ResB (Str.ofString "up") d3 r3)
    (fz : dueB r1 r2 r3 = .none → (lev d1 < 20 ∧ hdW 20 d1) ∧ (lev d2 < 20 ∧ hdW 20 d2) ∧ (lev d3 < 20 ∧ hdW 20 d3)) (k : ∀ (G' : Hp) (u : V), Same G G' → De K G' u (ansD (dueB r1 r2 r3)) → R u G') : tCall (spMet K) [] E (tCons te tNil) σ G R := by
  refine h G _ (Same.refl _) fun G1 v s1 hv => ?_
  cases hv with
  | @tup a xs _ ha hxs => exact ⟨.ref a, d1, d2, d3, r1, r2, r3, rfl, ⟨⟨a, xs, rfl, .inr (.inl (.inl ha)), hxs⟩, q1, q2, q3, fz⟩, fun G2 u s2 hu => k G2 u (s1.trans s2) hu⟩
theorem met_rep {K : PySem.W.Frag} {σ : St} {G : Hp} {E : XK} {R : VK} {p : Addr} {v1 v2 v3 : V} {d1 d2 d3 : PyData} {r1 r2 r3 : Nat ⊕ Nat} (h4 : σ[4]? = some (some (.ref p))) (hp : G p = some (.tup [v1, v2, v3])) (D1 : De K G v1 d1) (D2 : De K G v2 d2) (D3 : De K G v3 d3)
    (B1 : Bq (Str.ofString "down") d1 r1) (B2 : Bq (Str.ofString "turn") d2 r2) (B3 : Bq (Str.ofString "up") d3 r3) (k : ∀ G', Same G G' → R (.str (ansD (dueB r1 r2 r3)).shown) G') : tCB (rRepD K) (tCons (tCall (spMet K) [] E (tCons (tVar 4) tNil)) tNil) σ G R := by
  refine ⟨V.ref p, h4, V.ref p, d1, d2, d3, r1, r2, r3, rfl, bl3_bq hp D1 D2 D3 B1 B2 B3, fun G1 u s1 hu => ?_⟩
  obtain ⟨z1, z2, z3, z4⟩ := ans_rep (bq_sm B1 B2 B3)
  exact ⟨u, _, rfl, hu, z1, z2, z3, z4, k G1 s1⟩
theorem due_rep {K : PySem.W.Frag} {σ : St} {G : Hp} {E : XK} {R : VK} {p : Addr} {v1 v2 v3 : V} {d1 d2 d3 : PyData} {r1 r2 r3 : Nat ⊕ Nat} (h4 : σ[4]? = some (some (.ref p))) (hp : G p = some (.tup [v1, v2, v3])) (D1 : De K G v1 d1) (D2 : De K G v2 d2) (D3 : De K G v3 d3)
    (B1 : Bq (Str.ofString "down") d1 r1) (B2 : Bq (Str.ofString "turn") d2 r2) (B3 : Bq (Str.ofString "up") d3 r3) (k : ∀ G', Same G G' → R (.str (ansD (dueB r1 r2 r3)).shown) G') : tCB (rRepD K) (tCons (tCallG (spDue K) E (tCons (tVar 4) tNil)) tNil) σ G R := by
  refine ⟨V.ref p, h4, p, v1, v2, v3, d1, d2, d3, r1, r2, r3, rfl, hp, D1, D2, D3, B1.res, B2.res, B3.res, fun G1 u s1 hu => ?_⟩
  obtain ⟨z1, z2, z3, z4⟩ := ans_rep (bq_sm B1 B2 B3)
  exact ⟨u, _, rfl, hu, z1, z2, z3, z4, k G1 s1⟩
theorem gq_cases {K : PySem.W.Frag} {G : Hp} {us : List V} {bs : List PyData} {k c : Nat} (h : GdQ k c bs) (hk : k ≤ 5) (hc : c ≤ 1000) (hu : DeAll K G us bs) : ∃ v1 v2 v3 d1 d2 d3 r1 r2 r3, us = [v1, v2, v3] ∧ De K G v1 d1 ∧ De K G v2 d2 ∧ De K G v3 d3 ∧ Bq (Str.ofString "down") d1 r1 ∧ Bq (Str.ofString "turn") d2 r2 ∧ Bq (Str.ofString "up") d3 r3 := by
  obtain ⟨hl, hb⟩ := h
  match bs, hl, hb, hu with
  | [d1, d2, d3], _, hb, hu =>
    cases hu with
    | cons z1 hu =>
    cases hu with
    | cons z2 hu =>
    cases hu with
    | cons z3 hu =>
    cases hu
    obtain ⟨m1, g1, l1⟩ := hb d1 (by simp)
    obtain ⟨m2, g2, l2⟩ := hb d2 (by simp)
    obtain ⟨m3, g3, l3⟩ := hb d3 (by simp)
    obtain ⟨r1, q1⟩ := bq_gb (blk := Str.ofString "down") g1 hk (by omega)
    obtain ⟨r2, q2⟩ := bq_gb (blk := Str.ofString "turn") g2 hk (by omega)
    obtain ⟨r3, q3⟩ := bq_gb (blk := Str.ofString "up") g3 hk (by omega)
    exact ⟨_, _, _, d1, d2, d3, r1, r2, r3, rfl, z1, z2, z3, q1, q2, q3⟩
theorem rep_ne {K : PySem.W.Frag} {σ : St} {G : Hp} {E : XK} {D : Ends} {p : Addr} {us : List V} {bs : List PyData} {k c : Nat} (h : GdQ k c bs) (hk : k ≤ 5) (hc : c ≤ 1000) (hu : DeAll K G us bs) (h4 : σ[4]? = some (some (.ref p))) (hp : G p = some (.tup us)) (kk : ∀ G', Same G G' → D.nx σ G') :
    tIfS (tTest (tOp rNe (tCB (rRepD K) (tCons (tCall (spMet K) [] E (tCons (tVar 4) tNil)) tNil)) (tCB (rRepD K) (tCons (tCallG (spDue K) E (tCons (tVar 4) tNil)) tNil)))) (tRet (tC (.bl false))) tNext D σ G := by
  obtain ⟨v1, v2, v3, d1, d2, d3, r1, r2, r3, rfl, z1, z2, z3, q1, q2, q3⟩ := gq_cases h hk hc hu
  refine met_rep h4 hp z1 z2 z3 q1 q2 q3 fun G1 s1 => due_rep h4 (s1 _ _ hp) (de_mono s1 _ _ z1) (de_mono s1 _ _ z2) (de_mono s1 _ _ z3) q1 q2 q3 fun G2 s2 => ⟨rfl, _, rfl, ?_⟩
  rw [decide_eq_true rfl]
  exact iteF (kk G2 (s1.trans s2))
theorem rep_eq {K : PySem.W.Frag} {σ : St} {G : Hp} {E : XK} {D : Ends} {p : Addr} {v1 v2 v3 : V} {d1 d2 d3 : PyData} {r1 r2 r3 : Nat ⊕ Nat} (h4 : σ[4]? = some (some (.ref p))) (hp : G p = some (.tup [v1, v2, v3])) (D1 : De K G v1 d1) (D2 : De K G v2 d2) (D3 : De K G v3 d3)
    (B1 : Bq (Str.ofString "down") d1 r1) (B2 : Bq (Str.ofString "turn") d2 r2) (B3 : Bq (Str.ofString "up") d3 r3) (kk : ∀ G', D.rt (.bl true) G') :
    tRet (tOp rEq (tCB (rRepD K) (tCons (tCall (spMet K) [] E (tCons (tVar 4) tNil)) tNil)) (tCB (rRepD K) (tCons (tCallG (spDue K) E (tCons (tVar 4) tNil)) tNil))) D σ G := by
  refine met_rep h4 hp D1 D2 D3 B1 B2 B3 fun G1 s1 => due_rep h4 (s1 _ _ hp) (de_mono s1 _ _ D1) (de_mono s1 _ _ D2) (de_mono s1 _ _ D3) B1 B2 B3 fun G2 s2 => ⟨rfl, ?_⟩
  rw [decide_eq_true rfl]
  exact kk G2
theorem deAll_rep {K : PySem.W.Frag} {H : Hp} {w : V} {d : PyData} (hw : De K H w d) : ∀ m : Nat, DeAll K H (List.replicate m [w]).flatten (List.replicate m d)
  | 0 => .nil
  | m + 1 => by
    rw [List.replicate_succ, List.replicate_succ, List.flatten_cons]
    exact .cons hw (deAll_rep hw m)
theorem al_repT {K : PySem.W.Frag} {H0 : Hp} {σ : St} {t1 t2 : TE} {d : PyData} {m : Nat} (h1 : Al K H0 σ t1 (.tuple [d])) (h2 : Al K H0 σ t2 (.int (m : Nat))) (m2 : 2 ≤ m) (m9 : m ≤ 1000) : Al K H0 σ (tOp (rRepT K) t1 t2) (.tuple (List.replicate m d)) := fun H R s k => by
  refine h1 H _ s fun H1 v s1 hd => ?_
  refine h2 H1 _ (s.trans s1) fun H2 u s2 he => ?_
  cases he
  cases de_mono s2 _ _ hd with
  | @tup a xs _ ha hxs =>
    cases hxs with
    | @cons w _ _ _ hw hn =>
      cases hn
      refine ⟨a, (m : Int), [w], rfl, rfl, .inl (.inl ha), (fun z => nomatch z), by omega, by omega, by show 1 ≤ 1000; decide, fun p np => ?_⟩
      have s3 := upd_new (o := .tup (List.replicate (m : Int).toNat [w]).flatten) np
      refine k _ (.ref p) ((s1.trans s2).trans s3) (.tup upd_same ?_)
      rw [Int.toNat_natCast]
      have hw3 := de_mono s3 _ _ hw
      rw [Int.toNat_natCast] at hw3
      exact deAll_rep hw3 m
theorem al_if {K : PySem.W.Frag} {H0 : Hp} {σ : St} {c : TT} {t1 t2 : TE} {b : Bool} {d : PyData} (hc : ∀ (H : Hp) (R : Bool → Hp → Prop), Same H0 H → R b H → c σ H R) (h1 : b = true → Al K H0 σ t1 d) (h2 : b = false → Al K H0 σ t2 d) : Al K H0 σ (tIf c t1 t2) d := fun H R s k => by
  refine hc H _ s ?_
  cases b with
  | true => exact iteT (h1 rfl H R s k)
  | false => exact iteF (h2 rfl H R s k)
theorem twi_len (k : Nat) (d : PyData) : (TWi k d).length = 2 := by
  unfold TWi
  split <;> rfl
theorem pk1s {K : PySem.W.Frag} {H0 : Hp} {σ : St} {E : XK} {te : TE} {ds : List PyData} {p l : Addr} {ns : List Int} {k lf : Int} {pi i : Nat} {u : TS} {D : Ends} (h : Al K H0 σ te (.list ds)) (h0 : σ[pi]? = some (some (.ref p))) (P : PenAt H0 p l ns k lf) (hn : ns.length ≤ 63) (i0 : 0 ≤ k) (i1 : k ≤ 100000) (i2 : 0 ≤ lf) (z0 : 0 < ds.length) (z1 : ds.length ≤ 1000)
    (kk : ∀ (H' : Hp) (k' lf' : Int) (v : V) (d : PyData), k' ≤ k + 1 → 0 ≤ k' → 0 ≤ lf' → SameBut p H0 H' → PenAt H' p l ns k' lf' → d ∈ ds → De K H' v d → u D (σ.set i (some v)) H') : tSeq (tAsg (tCall spPick [] E (tCons (tVar pi) (tCons te tNil))) (gName i)) u D σ H0 := pk1 h h0 P hn i0 i1 i2 z0 z1 kk
theorem leaf_mark : LeafD (.tuple [.str "mark"]) := ⟨(sd_word rfl (.str _ (by decide +kernel)) (fun z => by exact absurd (Option.some.inj z) (by decide)) (fun z => by exact absurd (Option.some.inj z) (by decide)) (fun z => by exact absurd (Option.some.inj z) (by decide))), rfl, (by simp [lev, levAll]), (w_tup (by simp) (aw_cons (w_sc rfl) aw_nil)), (by simp [elems]), (fun _ _ _ _ z => by cases z)⟩
theorem leaf_unmark : LeafD (.tuple [.str "unmark"]) := ⟨(sd_word rfl (.str _ (by decide +kernel)) (fun z => by exact absurd (Option.some.inj z) (by decide)) (fun z => by exact absurd (Option.some.inj z) (by decide)) (fun z => by exact absurd (Option.some.inj z) (by decide))), rfl, (by simp [lev, levAll]), (w_tup (by simp) (aw_cons (w_sc rfl) aw_nil)), (by simp [elems]), (fun _ _ _ _ z => by cases z)⟩
theorem gl_rep {d : PyData} (h : LeafD d) (k : Nat) : ∀ m : Nat, ∃ w, GdL (GS k) (List.replicate m d) w ∧ w ≤ m
  | 0 => ⟨0, .nil, Nat.le_refl _⟩
  | m + 1 => by
    obtain ⟨w, g, l⟩ := gl_rep h k m
    rw [List.replicate_succ]
    exact ⟨1 + w, .cons (gs_leaf h k) g, by omega⟩
def rest3 : List PyData := [.tuple [], .tuple [.tuple [.str "unmark"]], .tuple [.tuple [.str "if", .tuple [.str "f"], .tuple [.tuple [.str "mark"]], .tuple []]]]
theorem rest3_ok : ∀ d ∈ rest3, ∃ m, GB (GS 1) d m ∧ m ≤ 2 := (fa_cons ⟨_, (.inl ⟨_, rfl, .nil⟩), by decide⟩ (fa_cons ⟨_, (.inl ⟨_, rfl, (.cons (gs_leaf ⟨(sd_word rfl (.str _ (by decide +kernel)) (fun z => by exact absurd (Option.some.inj z) (by decide)) (fun z => by exact absurd (Option.some.inj z) (by decide)) (fun z => by exact absurd (Option.some.inj z) (by decide))), rfl, (by simp [lev, levAll]), (w_tup (by simp) (aw_cons (w_sc rfl) aw_nil)), (by simp [elems]), (fun _ _ _ _ z => by cases z)⟩ 1) .nil)⟩), by decide⟩ (fa_cons ⟨_, (.inl ⟨_, rfl, (.cons (.inr ⟨_, _, _, _, _, rfl, (tD_mk rfl (.str _ (by decide +kernel)) (by simp) (fun z => by exact absurd (Option.some.inj z) (by decide)) (fun _ => fa_nil)), (by simp [lev, levAll]), (w_tup (by simp) (aw_cons (w_sc rfl) aw_nil)), (.inl ⟨_, rfl, (.cons (gs_leaf ⟨(sd_word rfl (.str _ (by decide +kernel)) (fun z => by exact absurd (Option.some.inj z) (by decide)) (fun z => by exact absurd (Option.some.inj z) (by decide)) (fun z => by exact absurd (Option.some.inj z) (by decide))), rfl, (by simp [lev, levAll]), (w_tup (by simp) (aw_cons (w_sc rfl) aw_nil)), (by simp [elems]), (fun _ _ _ _ z => by cases z)⟩ 0) .nil)⟩), (.inl ⟨_, rfl, .nil⟩), rfl⟩) .nil)⟩), by decide⟩ fa_nil)))
def up7 : List PyData := [.tuple [], .list [], .tuple [.tuple [.str "stop"]], .tuple [.tuple [.str "cut"], .tuple [.str "stop"]], .tuple [.tuple [.str "keep"]], .int 5, .tuple [.tuple [.str "if", .tuple [.str "f"], .tuple [], .tuple []]]]
theorem up7_ok : ∀ d ∈ up7, ∃ r, Bq (Str.ofString "up") d r := (fa_cons (bq_gb (k := 1) (.inl ⟨_, rfl, .nil⟩) (by decide) (by decide)) (fa_cons (bq_tl (k := 1) (n := 0) rfl .nil (by decide) (by decide)) (fa_cons (bq_gb (k := 1) (.inl ⟨_, rfl, (.cons (gs_leaf ⟨(sd_word rfl (.str _ (by decide +kernel)) (fun z => by exact absurd (Option.some.inj z) (by decide)) (fun z => by exact absurd (Option.some.inj z) (by decide)) (fun z => by exact absurd (Option.some.inj z) (by decide))), rfl, (by simp [lev, levAll]), (w_tup (by simp) (aw_cons (w_sc rfl) aw_nil)), (by simp [elems]), (fun _ _ _ _ z => by cases z)⟩ 1) .nil)⟩) (by decide) (by decide)) (fa_cons (bq_gb (k := 1) (.inl ⟨_, rfl, (.cons (gs_leaf ⟨(sd_word rfl (.str _ (by decide +kernel)) (fun z => by exact absurd (Option.some.inj z) (by decide)) (fun z => by exact absurd (Option.some.inj z) (by decide)) (fun z => by exact absurd (Option.some.inj z) (by decide))), rfl, (by simp [lev, levAll]), (w_tup (by simp) (aw_cons (w_sc rfl) aw_nil)), (by simp [elems]), (fun _ _ _ _ z => by cases z)⟩ 1) (.cons (gs_leaf ⟨(sd_word rfl (.str _ (by decide +kernel)) (fun z => by exact absurd (Option.some.inj z) (by decide)) (fun z => by exact absurd (Option.some.inj z) (by decide)) (fun z => by exact absurd (Option.some.inj z) (by decide))), rfl, (by simp [lev, levAll]), (w_tup (by simp) (aw_cons (w_sc rfl) aw_nil)), (by simp [elems]), (fun _ _ _ _ z => by cases z)⟩ 1) .nil))⟩) (by decide) (by decide)) (fa_cons (bq_gb (k := 1) (.inl ⟨_, rfl, (.cons (gs_leaf ⟨(sd_word rfl (.str _ (by decide +kernel)) (fun z => by exact absurd (Option.some.inj z) (by decide)) (fun z => by exact absurd (Option.some.inj z) (by decide)) (fun z => by exact absurd (Option.some.inj z) (by decide))), rfl, (by simp [lev, levAll]), (w_tup (by simp) (aw_cons (w_sc rfl) aw_nil)), (by simp [elems]), (fun _ _ _ _ z => by cases z)⟩ 1) .nil)⟩) (by decide) (by decide)) (fa_cons (bq_gb (k := 1) (n := 0) (.inr ⟨rfl, rfl⟩) (by decide) (by decide)) (fa_cons (bq_gb (k := 1) (.inl ⟨_, rfl, (.cons (.inr ⟨_, _, _, _, _, rfl, (tD_mk rfl (.str _ (by decide +kernel)) (by simp) (fun z => by exact absurd (Option.some.inj z) (by decide)) (fun _ => fa_nil)), (by simp [lev, levAll]), (w_tup (by simp) (aw_cons (w_sc rfl) aw_nil)), (.inl ⟨_, rfl, .nil⟩), (.inl ⟨_, rfl, .nil⟩), rfl⟩) .nil)⟩) (by decide) (by decide)) fa_nil)))))))
end SK
namespace SK
open PySem PySem.Spec PyProof.Rows L2 LamX NdefX
open K0 (De DeAll XCl spX withX)
/-! ### the law -/
section
variable {P : Program} {w : World} {K : PySem.W.Frag} {mg : Str → Option Value} {base : Heap} {f fPen fD fPk fRo fAl fM fDu fOd fPu : Addr} {fd fdPen fdD fdPk fdRo fdAl fdM fdDu fdOd fdPu : FuncData}
abbrev NLw : List Str := ["script", "pen", "names", "turn", "blocks", "block", "lap", "at", "tower", "nots", "k", "inner", "deep", "many", "rest", "up"]
theorem ok_law (F : Fun K "law" "law" (top 67) f fd) (gRg : mg "range" = none) (gMn : mg "min" = none) (gN : mg "len" = none) (gRp : mg "repr" = none) (hsys : ∃ o, K.lookup sysModules = some o)
    (gPen : mg "_law_pen" = some (.ref fPen)) (kPen : PySem.W.keepIn K (.ref fPen) = true) (GPen : FnOk P w K mg base CX0 1 fPen fdPen ["script"] (spPen K)) (bPen : Binds K fdPen ["script"] [])
    (gD : mg "_law_draw" = some (.ref fD)) (kD : PySem.W.keepIn K (.ref fD) = true) (GD : FnOk P w K mg base CX0 1 fD fdD ["pen", "many"] spDraw) (bD : Binds K fdD ["pen", "many"] [])
    (gPk : mg "_law_pick" = some (.ref fPk)) (kPk : PySem.W.keepIn K (.ref fPk) = true) (GPk : FnOk P w K mg base CX0 2 fPk fdPk ["pen", "some"] spPick) (bPk : Binds K fdPk ["pen", "some"] [])
    (gRo : mg "_law_routine" = some (.ref fRo)) (kRo : PySem.W.keepIn K (.ref fRo) = true) (GRo : FnOk P w K mg base CX0 11 fRo fdRo ["pen"] (spRo K)) (bRo : Binds K fdRo ["pen"] [])
    (gAl : mg "_law_as_lists" = some (.ref fAl)) (kAl : PySem.W.keepIn K (.ref fAl) = true) (GAl : FnOk P w K mg base CX0 14 fAl fdAl ["value"] (spAl K 13)) (bAl : Binds K fdAl ["value"] [])
    (gM : mg "_law_met" = some (.ref fM)) (kM : PySem.W.keepIn K (.ref fM) = true) (GM : FnOk P w K mg base CX0 25 fM fdM ["blocks"] (spMet K)) (bM : Binds K fdM ["blocks"] [])
    (gDu : mg "_law_due" = some (.ref fDu)) (kDu : PySem.W.keepIn K (.ref fDu) = true) (GDu : FnG P w K mg base CX0 10 fDu fdDu ["blocks"] (spDue K)) (bDu : Binds K fdDu ["blocks"] [])
    (gOd : mg "_law_odd" = some (.ref fOd)) (kOd : PySem.W.keepIn K (.ref fOd) = true) (GOd : FnOk P w K mg base CX0 3 fOd fdOd ["pen", "name"] (spOd K)) (bOd : Binds K fdOd ["pen", "name"] [])
    (gPu : mg "_law_put" = some (.ref fPu)) (kPu : PySem.W.keepIn K (.ref fPu) = true) (GPu : FnOk P w K mg base CX0 7 fPu fdPu ["pen", "block", "told"] (spPut K 5)) (bPu : Binds K fdPu ["pen", "block", "told"] []) :
    FnG P w K mg base CX0 26 f fd ["script"] (spLaw K) := by
  have S0 : FnScope NLw ["script"] (defScope (top 67)) := ⟨rfl, rfl, rfl, by decide +kernel, rfl, by decide +kernel, by decide +kernel⟩
  have nd := S0.nd
  refine FnG.ok F S0 (fun vs H Q E h => ?_) (fun cdv A outer s H vs Q E hg hr h => ?_)
  · obtain ⟨a, ns, rfl, _⟩ := h
    rfl
  · obtain ⟨a, ns, rfl, hS, hn, kk⟩ := h
    have hu64 := hr.units
    have hu : _ + 1 < cLine := hu_of hr
    have hr1 : Room 1 _ := hr.mono (by decide)
    have hr2 : Room 2 _ := hr.mono (by decide)
    have hr3 : Room 3 _ := hr.mono (by decide)
    have hr7 : Room 7 _ := hr.mono (by decide)
    have hr10 : Room 10 _ := hr.mono (by decide)
    have hr11 : Room 11 _ := hr.mono (by decide)
    have hr14 : Room 14 _ := hr.mono (by decide)
    have keepP : ∀ {G G' : Hp} {p l : Addr} {k' lf' : Int}, PenAt G p l ns k' lf' → Same G G' → PenAt G' p l ns k' lf' := fun {G G' p l k' lf'} h s => ⟨s _ _ h.dc, s _ _ h.ls⟩
    have b5 : (5000 : Nat) < sizeLine := by decide
    refine ⟨_, (pss_cons (ps_par (i := 1) (j := 2) rfl nd rfl rfl (by decide) rfl rfl (pa_cons (pe_call GPen hr1 (by rfl) gPen kPen bPen .nil pass0 (pa_cons (pv 0) pa_nil)) (pa_cons (pe_lst (pa_cons pe_str (pa_cons pe_str (pa_cons pe_str pa_nil)))) pa_nil)) rfl)
        (pss_cons (ps_for PassesOwn.never rfl (pi_range1 (by rfl) gRg (pa_cons (pe_op op_add pe_int (pe_callB (call_min2 rfl) (by rfl) gMn PyProof.Rows.boot_min (pa_cons pe_int (pa_cons (pe_callB call_len_seq (by rfl) gN PySem.boot_len (pa_cons (pv 0) pa_nil)) pa_nil)))) pa_nil)) (pg_name (i := 3) nd rfl (Or.inl rfl)) (pss_cons (ps_set (i := 4) nd rfl (Or.inl rfl) (pe_call GRo hr11 (by rfl) gRo kRo bRo .nil pass0 (pa_cons (pv 1) pa_nil)))
        (pss_cons (ps_if (PW.pt (pw_or (pt_cmp (pc_notN (pe_call GM hr (by rfl) gM kM bM .nil pass0 (pa_cons (pv 4) pa_nil))) (by rfl)) (pw_or1 (pt_cmp (pc_notN (pe_call GM hr (by rfl) gM kM bM .nil pass0 (pa_cons (pe_lc (own := [("block", 5)]) (g := gName 5) (tt := tYes) rfl nd (pi_tup (pv 4)) (blkOk_by (N := NLw) (sc := defScope (top 67)) (by decide +kernel)) (fun _ _ _ _ _ => pg_name (i := 5) nd rfl (Or.inl rfl)) (fun _ _ _ _ _ => pts_nil) (fun _ _ _ _ _ => (pe_call GAl hr14 (by rfl) gAl kAl bAl .nil pass0 (pa_cons (pv 5) pa_nil)))) pa_nil))) (by rfl))))) (pss_one (ps_ret pe_bl)) pss_nil)
        (pss_cons (ps_for PassesOwn.never rfl (pi_range1 (by rfl) gRg (pa_cons (pe_op op_add pe_int (pe_call GD hr1 (by rfl) gD kD bD .nil pass0 (pa_cons (pv 1) (pa_cons pe_int pa_nil)))) pa_nil)) (pg_name (i := 6) nd rfl (Or.inl rfl)) (pss_cons (ps_set (i := 7) nd rfl (Or.inl rfl) (pe_call GD hr1 (by rfl) gD kD bD .nil pass0 (pa_cons (pv 1) (pa_cons pe_int pa_nil))))
        (pss_cons (ps_set (i := 5) nd rfl (Or.inl rfl) (pe_call GPu hr7 (by rfl) gPu kPu bPu .nil pass0 (pa_cons (pv 1) (pa_cons (pe_ix (r := rIx K) ix_seq (pv 4) (pv 7) (fun _ _ => rfl)) (pa_cons (pe_call GOd hr3 (by rfl) gOd kOd bOd .nil pass0 (pa_cons (pv 1) (pa_cons (pe_ix (r := rIx K) ix_seq (pv 2) (pv 7) (fun _ _ => rfl)) pa_nil))) pa_nil)))))
        (pss_one (ps_set (i := 4) nd rfl (Or.inl rfl) (pe_op op_catA (pe_op op_catA (pe_slice sl_tupA (pv 4) po_none (po_some (pv 7))) (pe_tup (pa_cons (pv 5) pa_nil))) (pe_slice sl_tupA (pv 4) (po_some (pe_op op_add (pv 7) pe_int)) po_none)))))))
        (pss_cons (ps_if (pt_cmpR op_eq (pe_call GD hr1 (by rfl) gD kD bD .nil pass0 (pa_cons (pv 1) (pa_cons pe_int pa_nil))) pe_int (nomark _)) (pss_cons (ps_set (i := 7) nd rfl (Or.inl rfl) (pe_call GD hr1 (by rfl) gD kD bD .nil pass0 (pa_cons (pv 1) (pa_cons pe_int pa_nil))))
        (pss_one (ps_set (i := 4) nd rfl (Or.inl rfl) (pe_op op_catA (pe_op op_catA (pe_slice sl_tupA (pv 4) po_none (po_some (pv 7))) (pe_tup (pa_cons (pe_call GPk hr2 (by rfl) gPk kPk bPk .nil pass0 (pa_cons (pv 1) (pa_cons (pe_lst (pa_cons pe_non (pa_cons pe_int (pa_cons pe_str (pa_cons pe_dnewK (pa_cons pe_bl pa_nil)))))) pa_nil))) pa_nil))) (pe_slice sl_tupA (pv 4) (po_some (pe_op op_add (pv 7) pe_int)) po_none))))) pss_nil)
        (pss_one (ps_if (pt_cmpR op_ne (pe_callB (r := rRepD K) (call_repD hg hu64 hsys) (by rfl) gRp PyProof.Rows.boot_repr (pa_cons (pe_call GM hr (by rfl) gM kM bM .nil pass0 (pa_cons (pv 4) pa_nil)) pa_nil)) (pe_callB (r := rRepD K) (call_repD hg hu64 hsys) (by rfl) gRp PyProof.Rows.boot_repr (pa_cons (pe_callG GDu hg hr10 (by rfl) gDu kDu bDu pass0 (pa_cons (pv 4) pa_nil)) pa_nil)) (nomark _)) (pss_one (ps_ret pe_bl)) pss_nil)))))))
        (pss_cons (ps_asg (pe_tup (pa_cons (pe_tup (pa_cons (pe_tup (pa_cons pe_str pa_nil)) pa_nil)) (pa_cons (pe_tup (pa_cons pe_str pa_nil)) pa_nil))) (pg_tup rfl (pgs_cons (pg_name (i := 8) nd rfl (Or.inl rfl)) (pgs_cons (pg_name (i := 9) nd rfl (Or.inl rfl)) pgs_nil))))
        (pss_cons (ps_for PassesOwn.never rfl (pi_range1 (by rfl) gRg (pa_cons pe_int pa_nil)) (pg_name (i := 10) nd rfl (Or.inl rfl)) (pss_cons (ps_set (i := 11) nd rfl (Or.inl rfl) (pe_ifExp (pt_cmpR op_gt (pv 10) pe_int (nomark _)) (pe_tup (pa_cons (pv 8) (pa_cons (pe_tup pa_nil) pa_nil))) (pe_tup (pa_cons (pe_tup (pa_cons (pe_tup (pa_cons pe_str pa_nil)) pa_nil)) (pa_cons (pv 8) pa_nil)))))
        (pss_one (ps_par (i := 8) (j := 9) rfl nd rfl rfl (by decide) rfl rfl (pa_cons (pe_tup (pa_cons (pe_op op_catA (pe_tup (pa_cons pe_str (pa_cons (pe_tup (pa_cons pe_str pa_nil)) pa_nil))) (pv 11)) pa_nil)) (pa_cons (pe_tup (pa_cons pe_str (pa_cons (pv 9) pa_nil))) pa_nil)) rfl))))
        (pss_cons (ps_if (pt_cmpR (r := rNeD K) (op_neD hu64) (pe_call GM hr (by rfl) gM kM bM .nil pass0 (pa_cons (pe_tup (pa_cons (pe_tup pa_nil) (pa_cons (pv 8) (pa_cons (pe_tup pa_nil) pa_nil)))) pa_nil)) (pe_tup (pa_cons pe_str (pa_cons pe_int (pa_cons pe_int pa_nil)))) (nomark _)) (pss_one (ps_ret pe_bl)) pss_nil)
        (pss_cons (ps_if (pt_cmpR (r := rNeD K) (op_neD hu64) (pe_call GM hr (by rfl) gM kM bM .nil pass0 (pa_cons (pe_tup (pa_cons (pe_tup pa_nil) (pa_cons (pe_tup (pa_cons (pe_tup (pa_cons pe_str (pa_cons (pv 9) (pa_cons (pe_tup (pa_cons (pe_tup (pa_cons pe_str pa_nil)) pa_nil)) (pa_cons (pe_tup pa_nil) pa_nil))))) pa_nil)) (pa_cons (pe_tup pa_nil) pa_nil)))) pa_nil)) (pe_tup (pa_cons pe_str (pa_cons pe_str (pa_cons pe_int (pa_cons pe_bl pa_nil))))) (nomark _)) (pss_one (ps_ret pe_bl)) pss_nil)
        (pss_cons (ps_set (i := 12) nd rfl (Or.inl rfl) (pe_tup (pa_cons pe_str pa_nil)))
        (pss_cons (ps_for PassesOwn.never rfl (pi_range1 (by rfl) gRg (pa_cons pe_int pa_nil)) (pg_name (i := 10) nd rfl (Or.inl rfl)) (pss_one (ps_set (i := 12) nd rfl (Or.inl rfl) (pe_call GPk hr2 (by rfl) gPk kPk bPk .nil pass0 (pa_cons (pv 1) (pa_cons (pe_lst (pa_cons (pe_tup (pa_cons pe_str (pa_cons (pv 12) pa_nil))) (pa_cons (pe_tup (pa_cons pe_str (pa_cons (pv 12) (pa_cons (pe_tup (pa_cons pe_str pa_nil)) pa_nil)))) (pa_cons (pe_tup (pa_cons pe_str (pa_cons (pe_tup (pa_cons pe_str pa_nil)) (pa_cons (pv 12) pa_nil)))) pa_nil)))) pa_nil))))))
        (pss_cons (ps_par (i := 13) (j := 14) rfl nd rfl rfl (by decide) rfl rfl (pa_cons (pe_op op_add pe_int (pe_call GD hr1 (by rfl) gD kD bD .nil pass0 (pa_cons (pv 1) (pa_cons pe_int pa_nil)))) (pa_cons (pe_call GPk hr2 (by rfl) gPk kPk bPk .nil pass0 (pa_cons (pv 1) (pa_cons (pe_lst (pa_cons (pe_tup pa_nil) (pa_cons (pe_tup (pa_cons (pe_tup (pa_cons pe_str pa_nil)) pa_nil)) (pa_cons (pe_tup (pa_cons (pe_tup (pa_cons pe_str (pa_cons (pe_tup (pa_cons pe_str pa_nil)) (pa_cons (pe_tup (pa_cons (pe_tup (pa_cons pe_str pa_nil)) pa_nil)) (pa_cons (pe_tup pa_nil) pa_nil))))) pa_nil)) pa_nil)))) pa_nil))) pa_nil)) rfl)
        (pss_cons (ps_set (i := 5) nd rfl (Or.inl rfl) (pe_op op_catA (pe_tup (pa_cons (pe_tup (pa_cons pe_str (pa_cons (pv 12) (pa_cons (pe_tup (pa_cons (pe_tup (pa_cons pe_str pa_nil)) pa_nil)) (pa_cons (pv 14) pa_nil))))) pa_nil)) (pe_op op_repT (pe_tup (pa_cons (pe_tup (pa_cons pe_str pa_nil)) pa_nil)) (pv 13))))
        (pss_cons (ps_set (i := 15) nd rfl (Or.inl rfl) (pe_call GPk hr2 (by rfl) gPk kPk bPk .nil pass0 (pa_cons (pv 1) (pa_cons (pe_lst (pa_cons (pe_tup pa_nil) (pa_cons (pe_lst pa_nil) (pa_cons (pe_tup (pa_cons (pe_tup (pa_cons pe_str pa_nil)) pa_nil)) (pa_cons (pe_tup (pa_cons (pe_tup (pa_cons pe_str pa_nil)) (pa_cons (pe_tup (pa_cons pe_str pa_nil)) pa_nil))) (pa_cons (pe_tup (pa_cons (pe_tup (pa_cons pe_str pa_nil)) pa_nil)) (pa_cons pe_int (pa_cons (pe_tup (pa_cons (pe_tup (pa_cons pe_str (pa_cons (pe_tup (pa_cons pe_str pa_nil)) (pa_cons (pe_tup pa_nil) (pa_cons (pe_tup pa_nil) pa_nil))))) pa_nil)) pa_nil)))))))) pa_nil))))
        (pss_cons (ps_set (i := 4) nd rfl (Or.inl rfl) (pe_tup (pa_cons (pv 5) (pa_cons (pe_op op_repT (pe_tup (pa_cons (pe_tup (pa_cons pe_str pa_nil)) pa_nil)) pe_int) (pa_cons (pv 15) pa_nil)))))
        (pss_one (ps_ret (pe_cmpR op_eq (pe_callB (r := rRepD K) (call_repD hg hu64 hsys) (by rfl) gRp PyProof.Rows.boot_repr (pa_cons (pe_call GM hr (by rfl) gM kM bM .nil pass0 (pa_cons (pv 4) pa_nil)) pa_nil)) (pe_callB (r := rRepD K) (call_repD hg hu64 hsys) (by rfl) gRp PyProof.Rows.boot_repr (pa_cons (pe_callG GDu hg hr10 (by rfl) gDu kDu bDu pass0 (pa_cons (pv 4) pa_nil)) pa_nil)) (nomark _)))))))))))))))), ?_⟩
    refine ⟨V.ref a, rfl, a, ns, rfl, hS, hn, fun G0 p l s0 P0 => ⟨(by show 3 ≤ sizeLine; decide), fun q nq => ⟨V.ref p, V.ref q, rfl, ?_⟩⟩⟩
    have s1 := upd_new (o := .lst (blk3.map V.str)) nq
    have hq1 : upd G0 q (.lst (blk3.map V.str)) q = some (.lst (blk3.map V.str)) := upd_same
    have P1 := keepP P0 s1
    have s01 := s0.trans s1
    change tSeq _ _ _ _ (upd G0 q (.lst (blk3.map V.str)))
    generalize upd G0 q (.lst (blk3.map V.str)) = G1 at s1 hq1 P1 s01
    have nqp : q ≠ p := ne_of hq1 P1.dc (by intro z; cases z)
    obtain ⟨mn, hmn, hm0, hm5⟩ : ∃ mn : Int, (if ((ns.map V.int).length : Int) < 5 then ((ns.map V.int).length : Int) else 5) = mn ∧ 0 ≤ mn ∧ mn ≤ 5 := by
      by_cases c : ((ns.map V.int).length : Int) < 5
      · exact ⟨_, if_pos c, by omega, by omega⟩
      · exact ⟨_, if_neg c, by decide, by decide⟩
    refine ⟨V.ref a, rfl, a, ns.map V.int, rfl, .inl (Same.seq s01 hS), 5, _, rfl, ?_⟩
    rw [hmn]
    refine ⟨5, mn, rfl, rfl, 5 + mn, rfl, by omega, by omega, ?_⟩
    refine for_it walk_range (fun i σ G => ∃ (x3 x4 x5 x6 x7 x8 x9 x10 x11 x12 x13 x14 x15 : Option V) (k lf : Int), σ = [some (.ref a), some (.ref p), some (.ref q), x3, x4, x5, x6, x7, x8, x9, x10, x11, x12, x13, x14, x15] ∧ G q = some (.lst (blk3.map V.str)) ∧ PenAt G p l ns k lf ∧ 0 ≤ k ∧ k ≤ 1000 * i ∧ 0 ≤ lf)
      ⟨none, none, none, none, none, none, none, none, none, none, none, none, none, 0, 0, rfl, hq1, P1, by decide, by decide, by decide⟩ (fun _ _ _ _ _ => trivial) ?_ ?_
    · rintro i y σ G Gx hi ⟨x3, x4, x5, x6, x7, x8, x9, x10, x11, x12, x13, x14, x15, k, lf, rfl, hq, PG, j1, j2, j3⟩ ⟨rfl, rfl⟩
      have hi10 : i < 10 := by
        have hi : i < (5 + mn).toNat := by
          first
            | exact hi
            | (rw [Int.sub_zero] at hi; exact hi)
        omega
      clear hi
      refine ⟨V.ref p, rfl, p, l, ns, k, lf, rfl, PG, hn, j1, by omega, j3, fun G1 k1 lf1 v b1 b2 b3 e1 e2 e3 sb1 P1 hv hK => ?_⟩
      obtain ⟨m1, l1, m2, l2, m3, l3, B1, B2, B3, hm⟩ := id hK
      obtain ⟨pb, us, rfl, hpb, hus⟩ : ∃ (pb : Addr) (us : List V), v = .ref pb ∧ G1 pb = some (.tup us) ∧ DeAll K G1 us [b1, b2, b3] := by
        cases hv with
        | tup a b => exact ⟨_, _, rfl, a, b⟩
      have hq2 := sb1 _ _ nqp hq
      obtain ⟨v1, v2, v3, rfl, z1, z2, z3⟩ : ∃ v1 v2 v3, us = [v1, v2, v3] ∧ De K G1 v1 b1 ∧ De K G1 v2 b2 ∧ De K G1 v3 b3 := by
        cases hus with
        | cons z1 h =>
        cases h with
        | cons z2 h =>
        cases h with
        | cons z3 h =>
        cases h
        exact ⟨_, _, _, rfl, z1, z2, z3⟩
      have ed : dueB (.inr m1) (.inr m2) (.inr m3) = .none := if_pos (by omega)
      have fxs : ∀ dd ∈ [b1, b2, b3], fz dd = dd ∧ lev dd < 13 ∧ (∀ m, hdW m dd) ∧ dd.canLay0 = true := fun dd hd => by
        simp only [List.mem_cons, List.mem_nil_iff, or_false] at hd
        rcases hd with rfl | rfl | rfl
        · exact ⟨B1.fx, B1.al (by omega)⟩
        · exact ⟨B2.fx, B2.al (by omega)⟩
        · exact ⟨B3.fx, B3.al (by omega)⟩
      -- as it is
      refine ⟨V.ref pb, rfl, V.ref pb, b1, b2, b3, .inr m1, .inr m2, .inr m3, rfl, bl3_q (.inr (.inl (.inl hpb))) (B1.q z1 (by omega)) (B2.q z2 (by omega)) (B3.q z3 (by omega)), fun G2 u2 s2 hu2 => ?_⟩
      rw [ed] at hu2
      have eu : u2 = .non := by
        cases hu2
        rfl
      subst eu
      refine ⟨_, rfl, iteF ?_⟩
      have s2' := s2
      have hpb2 := s2 _ _ hpb
      have hus2 := de_monoAll s2 _ _ hus
      have P2 := keepP P1 s2
      have hq2 := s2 _ _ hq2
      -- as lists
      refine ⟨V.ref pb, rfl, pb, rfl, ⟨_, .inl (.inl hpb2)⟩, fun D nD => lc_it (walk_tup (K := K) (xs := [v1, v2, v3])) (fun i G => Same G2 G ∧ ∃ acc : List V, G D = some (.lst acc) ∧ acc.length = i ∧ DeAll K (NwD G2 D G) acc (([b1, b2, b3].take i).map lz)) ⟨upd_new nD, [], upd_same, rfl, .nil⟩ (fun i G _ q => .inl (.inl (q.1 _ _ hpb2))) ?_ ?_⟩
      · rintro j x G G' hj ⟨sG, acc, hD, hal, hacc⟩ ⟨rfl, hx⟩
        have hj : j < 3 := hj
        obtain ⟨dd, hdd, hde⟩ := deAll_at hus2 hx
        have hm := List.mem_of_getElem? hdd
        obtain ⟨g1, g2, g3, g4⟩ := fxs dd hm
        refine ⟨rfl, x, rfl, x, dd, rfl, de_mono sG _ _ hde, g1, g2, g3, g4, fun G3 u s3 hu => ?_⟩
        have hD2 := s3 _ _ hD
        refine ⟨acc, hD2, by omega, same_upd nD (sG.trans s3), acc ++ [u], upd_same, by rw [List.length_append, hal]; rfl, ?_⟩
        have y1 : Same (NwD G2 D G') (NwD G2 D (upd G3 D (.lst (acc ++ [u])))) := fun a o h => by
          obtain ⟨n1, n2, e⟩ := nwD_at h
          exact nwD_mk n1 n2 (by rw [upd_ne n2]; exact s3 _ _ e)
        have y2 : Same (Nw G' G3) (NwD G2 D (upd G3 D (.lst (acc ++ [u])))) := fun a o h => by
          obtain ⟨n1, e⟩ := nw_at h
          have n2 : a ≠ D := fun z => by rw [z, hD] at n1; cases n1
          exact nwD_mk (none_of sG n1) n2 (by rw [upd_ne n2]; exact e)
        rw [take_snoc hdd, List.map_append]
        exact deAll_app (de_monoAll y1 _ _ hacc) (.cons (de_mono y2 _ _ hu) .nil)
      rintro G3 ⟨s3, acc, hD, hal, hacc⟩
      have hacc : DeAll K (NwD G2 D G3) acc [lz b1, lz b2, lz b3] := hacc
      have old : Same (NwD G2 D G3) G3 := fun a o h => (nwD_at h).2.2
      obtain ⟨h1, h2, h3, rfl, y1, y2, y3⟩ : ∃ h1 h2 h3, acc = [h1, h2, h3] ∧ De K (NwD G2 D G3) h1 (lz b1) ∧ De K (NwD G2 D G3) h2 (lz b2) ∧ De K (NwD G2 D G3) h3 (lz b3) := by
        cases hacc with
        | cons z1 hacc =>
        cases hacc with
        | cons z2 hacc =>
        cases hacc with
        | cons z3 hacc =>
        cases hacc
        exact ⟨_, _, _, rfl, z1, z2, z3⟩
      refine ⟨V.ref D, lz b1, lz b2, lz b3, .inr m1, .inr m2, .inr m3, rfl, bl3_q (.inl (.inl (.inl hD))) (B1.ql (de_mono old _ _ y1) (by omega)) (B2.ql (de_mono old _ _ y2) (by omega)) (B3.ql (de_mono old _ _ y3) (by omega)), fun G4 u4 s4 hu4 => ?_⟩
      rw [ed] at hu4
      have eu : u4 = .non := by
        cases hu4
        rfl
      subst eu
      refine ⟨_, rfl, iteF ?_⟩
      have s24 := s3.trans s4
      have P4 := keepP P2 s24
      have hq4 := s24 _ _ hq2
      have hpb4 := s24 _ _ hpb2
      have hus4 := de_monoAll s24 _ _ hus2
      have T4 : GdT 2 31 [b1, b2, b3] := ⟨rfl, fun d hd => by
        simp only [List.mem_cons, List.mem_nil_iff, or_false] at hd
        rcases hd with rfl | rfl | rfl
        · obtain ⟨ds, e, g⟩ := B1.gb
          exact ⟨ds, m1, e, g, by omega⟩
        · obtain ⟨ds, e, g⟩ := B2.gb
          exact ⟨ds, m2, e, g, by omega⟩
        · obtain ⟨ds, e, g⟩ := B3.gb
          exact ⟨ds, m3, e, g, by omega⟩⟩
      have hk1 : k1 ≤ 1000 * i + 900 := by omega
      clear old hacc hal y1 y2 y3 hD s24 s3 s4 hus2 hpb2 s2' fxs ed z1 z2 z3 hus hpb hv hK hm B1 B2 B3 hu2 hu4 nD P2 P1 sb1 s2
      -- laps
      refine ⟨V.ref p, rfl, p, l, ns, k1, lf1, 2, rfl, P4, hn, e2, by omega, e3, by decide, by decide, fun G5 k5 lf5 d5 f1 f2 f3 f4 f5 s5 P5 => ⟨1, d5, rfl, rfl, 1 + d5, rfl, by omega, by omega, ?_⟩⟩
      have npbp : pb ≠ p := ne_of hpb4 P4.dc (by intro z; cases z)
      refine for_it walk_range (fun i' σ G => ∃ (pb : Addr) (us : List V) (bs : List PyData) (x5 x6 x7 : Option V) (k lf : Int) (c : Nat), σ = [some (.ref a), some (.ref p), some (.ref q), some (.int (0 + i)), some (.ref pb), x5, x6, x7, x8, x9, x10, x11, x12, x13, x14, x15] ∧ G q = some (.lst (blk3.map V.str)) ∧ PenAt G p l ns k lf ∧ 0 ≤ k ∧ k ≤ 1000 * i + 901 + 40 * i' ∧ 0 ≤ lf ∧
          G pb = some (.tup us) ∧ DeAll K G us bs ∧ GdT (2 + i') c bs ∧ c ≤ 31 + 2 * i')
        ⟨pb, _, _, x5, x6, x7, k5, lf5, 31, rfl, s5 _ _ nqp hq4, P5, f2, by omega, f3, s5 _ _ npbp hpb4, de_butAll P4.dc s5 hus4, T4, by omega⟩ (fun _ _ _ _ _ => trivial) ?_ ?_
      · rintro i' y σ G Gx hi' ⟨pb, us, bs, x5, x6, x7, k6, lf6, c6, rfl, hq6, P6, j1, j2, j3, hpb6, hus6, T6, hc6⟩ ⟨rfl, rfl⟩
        have hi2 : i' < 2 := by
          have hi' : i' < (1 + d5).toNat := by
            first
              | exact hi'
              | (rw [Int.sub_zero] at hi'; exact hi')
          omega
        clear hi'
        have npb6 : pb ≠ p := ne_of hpb6 P6.dc (by intro z; cases z)
        refine ⟨V.ref p, rfl, p, l, ns, k6, lf6, 3, rfl, P6, hn, j1, by omega, j3, by decide, by decide, fun G7 k7 lf7 d7 g1 g2 g3 g4 g5 s7 P7 => ?_⟩
        obtain ⟨jj, rfl⟩ : ∃ jj : Nat, d7 = (jj : Int) := ⟨d7.toNat, (Int.toNat_of_nonneg g4).symm⟩
        have hjj : jj < 3 := by omega
        have hpb7 := s7 _ _ npb6 hpb6
        have hus7 := de_butAll P6.dc s7 hus6
        have hq7 := s7 _ _ nqp hq6
        have hul : us.length = 3 := (deAll_len hus7).trans T6.1
        obtain ⟨w, hw⟩ : ∃ w, us[jj]? = some w := ⟨_, List.getElem?_eq_getElem (by omega)⟩
        obtain ⟨dj, hdj, hwd⟩ := deAll_at hus7 hw
        obtain ⟨dsj, mj, rfl, gj, hmj⟩ := T6.2 dj (List.mem_of_getElem? hdj)
        obtain ⟨nmj, hnm⟩ : ∃ x, (blk3.map V.str)[jj]? = some x := ⟨_, List.getElem?_eq_getElem (by show jj < 3; exact hjj)⟩
        cases hwd with
        | @tup bb ys _ hbb hys =>
        have nbb : bb ≠ p := ne_of hbb P7.dc (by intro z; cases z)
        refine ⟨V.ref p, rfl, V.ref pb, rfl, V.int (jj : Nat), rfl, .inr (.inl ⟨pb, us, (jj : Int), .ref bb, rfl, rfl, .inl (.inl hpb7), atI_nat hw, ?_⟩)⟩
        refine ⟨V.ref p, rfl, V.ref q, rfl, V.int (jj : Nat), rfl, .inl ⟨q, _, (jj : Int), nmj, rfl, rfl, .inl (.inl hq7), atI_nat hnm, p, l, ns, k7, lf7, nmj, rfl, P7, hn, g2, by omega, g3, fun G8 k8 lf8 vo do8 no h1 h2 h3 s8 P8 hvo go hno => ?_⟩⟩
        refine ⟨p, l, ns, k8, lf8, bb, vo, ys, dsj, do8, 2 + i', mj, no, rfl, by omega, s8 _ _ nbb hbb, de_butAll P7.dc s8 hys, gj, by omega, hvo, go, hno, P8, hn, h2, by omega, h3, fun G9 k9 lf9 u9 ds9 m9 t1 t2 t3 s9 P9 hu9 g9 hm9 => ?_⟩
        have sb79 := s8.trans s9
        have hpb9 := sb79 _ _ (ne_of hpb7 P7.dc (by intro z; cases z)) hpb7
        have hus9 := de_butAll P7.dc sb79 hus7
        have hq9 := sb79 _ _ nqp hq7
        refine ⟨V.ref pb, rfl, V.int (jj : Nat), rfl, (jj : Int), rfl, sl_any hpb9 fun G13 r13 s13 hr13 => ?_⟩
        rw [cut_to us (by omega)] at hr13
        refine ⟨u9, rfl, (by show 1 ≤ sizeLine; decide), fun t14 nt14 => ?_⟩
        have s14 := upd_new (o := .tup [u9]) nt14
        have ht14 : upd G13 t14 (.tup [u9]) t14 = some (.tup [u9]) := upd_same
        generalize upd G13 t14 (.tup [u9]) = G14 at s14 ht14
        refine cat_any (s14 _ _ hr13) ht14 (by rw [List.length_take, List.length_singleton]; omega) fun G15 r15 s15 hr15 => ?_
        have s915 := s13.trans (s14.trans s15)
        refine ⟨V.ref pb, rfl, V.int (jj : Nat), rfl, (jj : Int), 1, rfl, rfl, ((jj + 1 : Nat) : Int), rfl, ?_⟩
        refine noPart_go (sl_any (s915 _ _ hpb9) fun G16 r16 s16 hr16 => ?_)
        rw [cut_from us (by omega)] at hr16
        refine cat_any (s16 _ _ hr15) hr16 (by rw [List.length_append, List.length_take, List.length_singleton, List.length_drop]; omega) fun G17 r17 s17 hr17 => ?_
        have s917 := s915.trans (s16.trans s17)
        have hus17 := de_monoAll s917 _ _ hus9
        have T9 := T6.put hjj g9 (by omega)
        exact ⟨r17, _, _, _, _, _, k9, lf9, c6 + 2, rfl, s917 _ _ hq9, keepP P9 s917, t2, by omega, t3, hr17, deAll_app (deAll_app (deAll_take jj hus17) (.cons (de_mono s917 _ _ hu9) .nil)) (deAll_drop (jj + 1) hus17), T9, by omega⟩
      rintro σ G6 ⟨pb, us, bs, x5, x6, x7, k6, lf6, c6, rfl, hq6, P6, j1, j2, j3, hpb6, hus6, T6, hc6⟩
      have hit : (1 + d5).toNat ≤ 2 := by omega
      have e12 : (1 + d5 - 0).toNat = (1 + d5).toNat := by rw [Int.sub_zero]
      have T6 : GdQ 4 35 bs := by
        have c35 : c6 ≤ 35 := by omega
        have z := T6.q
        refine ⟨z.1, fun d hd => ?_⟩
        obtain ⟨m, g, lm⟩ := z.2 d hd
        obtain ⟨o, eo⟩ : ∃ o, 4 = 2 + (1 + d5).toNat + o := ⟨4 - (2 + (1 + d5).toNat), by omega⟩
        refine ⟨m, ?_, by omega⟩
        rw [eo]
        exact g.map fun _ _ h => gs_le h o
      have hk6 : k6 ≤ 1000 * i + 981 := by omega
      have npb6 : pb ≠ p := ne_of hpb6 P6.dc (by intro z; cases z)
      clear e12 hit
      refine ⟨V.ref p, rfl, p, l, ns, k6, lf6, 5, rfl, P6, hn, j1, by omega, j3, by decide, by decide, fun G7 k7 lf7 d7 g1 g2 g3 g4 g5 s7 P7 => ⟨rfl, _, rfl, ite2 (fun c0 => ?_) (fun c0 => ?_)⟩⟩
      · refine ⟨V.ref p, rfl, p, l, ns, k7, lf7, 3, rfl, P7, hn, g2, by omega, g3, by decide, by decide, fun G8 k8 lf8 d8 h1 h2 h3 h4 h5 s8 P8 => ?_⟩
        obtain ⟨jj, rfl⟩ : ∃ jj : Nat, d8 = (jj : Int) := ⟨d8.toNat, (Int.toNat_of_nonneg h4).symm⟩
        have hjj : jj < 3 := by omega
        have sb8 := s7.trans s8
        have hpb8 := sb8 _ _ npb6 hpb6
        have hus8 := de_butAll P6.dc sb8 hus6
        have hq8 := sb8 _ _ nqp hq6
        have hul : us.length = 3 := (deAll_len hus8).trans T6.1
        refine ⟨V.ref pb, rfl, V.int (jj : Nat), rfl, (jj : Int), rfl, sl_any hpb8 fun G13 r13 s13 hr13 => ?_⟩
        rw [cut_to us (by omega)] at hr13
        have P13 := keepP P8 s13
        refine pk1 (K := K) (H0 := G13) (ds := sc5) (pi := 1) (al_lst (al_cons al_non (al_cons al_int (al_cons al_str (al_cons al_dnew (al_cons al_bl al_nil))))) (by decide)) rfl P13 hn h2 (by omega) h3 (by decide) (by decide) fun G9 k9 lf9 u9 d9 t1 t2 t3 s9 P9 hd9 hu9 => ?_
        have hr9 := s9 _ _ (ne_of hr13 P13.dc (by intro z; cases z)) hr13
        have sb9 := ((SameBut.of s13).trans s9)
        have hpb9 := sb9 _ _ npb6 hpb8
        have hus9 := de_butAll P8.dc sb9 hus8
        have hq9 := sb9 _ _ nqp hq8
        refine ⟨(by show 1 ≤ sizeLine; decide), fun t14 nt14 => ?_⟩
        have s14 := upd_new (o := .tup [u9]) nt14
        have ht14 : upd G9 t14 (.tup [u9]) t14 = some (.tup [u9]) := upd_same
        generalize upd G9 t14 (.tup [u9]) = G14 at s14 ht14
        refine cat_any (s14 _ _ hr9) ht14 (by rw [List.length_take, List.length_singleton]; omega) fun G15 r15 s15 hr15 => ?_
        have s915 := s14.trans s15
        refine ⟨V.ref pb, rfl, V.int (jj : Nat), rfl, (jj : Int), 1, rfl, rfl, ((jj + 1 : Nat) : Int), rfl, ?_⟩
        refine noPart_go (sl_any (s915 _ _ hpb9) fun G16 r16 s16 hr16 => ?_)
        rw [cut_from us (by omega)] at hr16
        refine cat_any (s16 _ _ hr15) hr16 (by rw [List.length_append, List.length_take, List.length_singleton, List.length_drop]; omega) fun G17 r17 s17 hr17 => ?_
        have s917 := s915.trans (s16.trans s17)
        have hus17 := de_monoAll s917 _ _ hus9
        have T9 := T6.put hjj (sc5_no d9 hd9)
        refine rep_ne T9 (by decide) (by decide) (deAll_app (deAll_app (deAll_take jj hus17) (.cons (de_mono s917 _ _ hu9) .nil)) (deAll_drop (jj + 1) hus17)) rfl hr17 fun G18 s18 => ?_
        have s918 := s917.trans s18
        exact ⟨_, _, _, _, _, _, _, _, _, _, _, _, _, k9, lf9, rfl, s918 _ _ hq9, keepP P9 s918, t2, by omega, t3⟩
      · refine rep_ne T6 (by decide) (by decide) (de_butAll P6.dc s7 hus6) rfl (s7 _ _ npb6 hpb6) fun G18 s18 => ?_
        exact ⟨_, _, _, _, _, _, _, _, _, _, _, _, _, k7, lf7, rfl, s18 _ _ (s7 _ _ nqp hq6), keepP P7 s18, g2, by omega, g3⟩
    · rintro σ G ⟨x3, x4, x5, x6, x7, x8, x9, x10, x11, x12, x13, x14, x15, k, lf, rfl, hq, PG, j1, j2, j3⟩
      have hk : k ≤ 10000 := by
        have e12 : (5 + mn - 0).toNat = (5 + mn).toNat := by rw [Int.sub_zero]
        omega
      clear j2 hq
      refine Al.asg (K := K) (H0 := G) (d := .tuple [TWs 0, NOTs 0]) (al_tup (al_cons (al_tup (al_cons (al_tup (al_cons al_str al_nil) (by first | decide | simp [rest3, up7])) al_nil) (by first | decide | simp [rest3, up7])) (al_cons (al_tup (al_cons al_str al_nil) (by first | decide | simp [rest3, up7])) al_nil)) (by first | decide | simp [rest3, up7])) (Same.refl _) fun G1 vv s1 hh => ?_
      obtain ⟨pv, xs, rfl, hpv, hxs⟩ : ∃ (pv : Addr) (xs : List V), vv = .ref pv ∧ G1 pv = some (.tup xs) ∧ DeAll K G1 xs [TWs 0, NOTs 0] := by
        cases hh with
        | tup a b => exact ⟨_, _, rfl, a, b⟩
      cases hxs with
      | @cons v8 _ _ _ h8 hxs =>
      cases hxs with
      | @cons v9 _ _ _ h9 hxs =>
      cases hxs
      refine ⟨pv, _, rfl, .inl (.inl hpv), rfl, _, _, rfl, _, _, rfl, rfl, ?_⟩
      have P1 := keepP PG s1
      clear hpv hh s1 PG
      refine ⟨600, rfl, by decide, by decide, ?_⟩
      refine for_it walk_range (fun i σ G => ∃ (v8 v9 : V) (x10 x11 : Option V), σ = [some (.ref a), some (.ref p), some (.ref q), x3, x4, x5, x6, x7, some v8, some v9, x10, x11, x12, x13, x14, x15] ∧ PenAt G p l ns k lf ∧ De K G v8 (TWs i) ∧ De K G v9 (NOTs i))
        ⟨v8, v9, x10, x11, rfl, P1, h8, h9⟩ (fun _ _ _ _ _ => trivial) ?_ ?_
      · rintro i y σ G2 Gx hi ⟨v8, v9, x10, x11, rfl, P2, h8, h9⟩ ⟨rfl, rfl⟩
        refine Al.set (K := K) (H0 := Gx) (d := .tuple (TWi i (TWs i))) (al_if (b := decide ((299 : Int) < 0 + (i : Nat))) (fun H R s r => ⟨V.int (0 + (i : Nat)), rfl, _, 299, rfl, rfl, _, rfl, r⟩) (fun c => ?_) (fun c => ?_)) (Same.refl _) fun G3 v11 s3 h11 => ?_
        · have c := of_decide_eq_true c
          unfold TWi
          rw [if_pos (show i > 299 by omega)]
          exact (al_tup (al_cons (al_var (i := 8) (by rfl) h8) (al_cons (al_tup al_nil (by first | decide | simp [rest3, up7])) al_nil)) (by first | decide | simp [rest3, up7]))
        · have c : ¬ (299 : Int) < 0 + (i : Nat) := of_decide_eq_false c
          unfold TWi
          rw [if_neg (show ¬ i > 299 by omega)]
          exact (al_tup (al_cons (al_tup (al_cons (al_tup (al_cons al_str al_nil) (by first | decide | simp [rest3, up7])) al_nil) (by first | decide | simp [rest3, up7])) (al_cons (al_var (i := 8) (by rfl) h8) al_nil)) (by first | decide | simp [rest3, up7]))
        · have P3 := keepP P2 s3
          have h8 := de_mono s3 _ _ h8
          have h9 := de_mono s3 _ _ h9
          refine (al_cons (al_tup (al_cons (al_catT (al_tup (al_cons al_str (al_cons (al_tup (al_cons al_str al_nil) (by first | decide | simp [rest3, up7])) al_nil)) (by first | decide | simp [rest3, up7])) (al_var (i := 11) rfl h11) (by rw [twi_len]; decide)) al_nil) (by simp)) (al_cons (al_tup (al_cons al_str (al_cons (al_var (i := 9) rfl h9) al_nil)) (by simp)) al_nil) : AlAll K G3 _ _ [TWs (i + 1), NOTs (i + 1)]) G3 _ (Same.refl _) fun G4 vs s4 hvs => ?_
          cases hvs with
          | @cons u8 _ _ _ g8 hvs =>
          cases hvs with
          | @cons u9 _ _ _ g9 hvs =>
          cases hvs
          exact ⟨u8, u9, rfl, u8, u9, _, _, rfl, keepP P3 s4, g8, g9⟩
      rintro σ G2 ⟨v8, v9, x10, x11, rfl, P2, h8, h9⟩
      have h8 : De K G2 v8 (TWs 600) := h8
      have h9 : De K G2 v9 (NOTs 600) := h9
      have em : dueB (.inr 0) (.inr 901) (.inr 0) = .many 901 := by
        show (if 0 + 901 + 0 ≤ 40 then Due.none else Due.many (0 + 901 + 0)) = _
        rw [if_neg (by decide)]
      refine met_al (K := K) (d1 := .tuple []) (d2 := TWs 600) (d3 := .tuple []) (al_tup (al_cons (al_tup al_nil (by first | decide | simp [rest3, up7])) (al_cons (al_var (i := 8) (by rfl) h8) (al_cons (al_tup al_nil (by first | decide | simp [rest3, up7])) al_nil))) (by first | decide | simp [rest3, up7])) emp_res tw_res emp_res (fun z => by rw [em] at z; cases z) fun G3 u3 s3 hu3 => ?_
      rw [em] at hu3
      have h9 := de_mono s3 _ _ h9
      have P3 := keepP P2 s3
      refine ⟨(by show 3 ≤ sizeLine; decide), fun t4 nt4 => ?_⟩
      have s4 := upd_new (o := .tup [.str "statements", .int 901, .int 40]) nt4
      have ht4 : upd G3 t4 (.tup [.str "statements", .int 901, .int 40]) t4 = some (.tup [.str "statements", .int 901, .int 40]) := upd_same
      generalize upd G3 t4 (.tup [.str "statements", .int 901, .int 40]) = G4 at s4 ht4
      have h9 := de_mono s4 _ _ h9
      have P4 := keepP P3 s4
      have LA : Lay 1 (ansD (.many 901)) := lay_tup (n := 0) fun e he => by
        simp only [List.mem_cons, List.mem_nil_iff, or_false] at he
        rcases he with rfl | rfl | rfl
        · exact lay_str (by decide +kernel)
        · exact lay_int _
        · exact lay_int _
      refine ⟨ansD (.many 901), .tuple [.str "statements", .int 901, .int 40], LA.2.2 _ _ _ (de_mono s4 _ _ hu3), .tup (.inl (.inl ht4)) (.cons (.str _) (.cons (.int _) (.cons (.int _) .nil))), by decide +kernel, by decide +kernel, _, rfl, ?_⟩
      rw [show PyData.eqv (ansD (.many 901)) (.tuple [.str "statements", .int 901, .int 40]) = true by decide +kernel]
      refine iteF ?_
      clear s3 s4 ht4 nt4 LA hu3 h8 em
      refine met_al (K := K) (d1 := .tuple []) (d2 := NTb) (d3 := .tuple []) (al_tup (al_cons (al_tup al_nil (by first | decide | simp [rest3, up7])) (al_cons (al_tup (al_cons (al_tup (al_cons al_str (al_cons (al_var (i := 9) (by rfl) h9) (al_cons (al_tup (al_cons (al_tup (al_cons al_str al_nil) (by first | decide | simp [rest3, up7])) al_nil) (by first | decide | simp [rest3, up7])) (al_cons (al_tup al_nil (by first | decide | simp [rest3, up7])) al_nil)))) (by first | decide | simp [rest3, up7])) al_nil) (by first | decide | simp [rest3, up7])) (al_cons (al_tup al_nil (by first | decide | simp [rest3, up7])) al_nil))) (by first | decide | simp [rest3, up7])) emp_res nt_res emp_res (fun z => by cases z) fun G5 u5 s5 hu5 => ?_
      have P5 := keepP P4 s5
      refine ⟨(by show 4 ≤ sizeLine; decide), fun t6 nt6 => ?_⟩
      have s6 := upd_new (o := .tup [.str "statement", .str "turn", .int 0, .bl true]) nt6
      have ht6 : upd G5 t6 (.tup [.str "statement", .str "turn", .int 0, .bl true]) t6 = some (.tup [.str "statement", .str "turn", .int 0, .bl true]) := upd_same
      generalize upd G5 t6 (.tup [.str "statement", .str "turn", .int 0, .bl true]) = G6 at s6 ht6
      have P6 := keepP P5 s6
      have LB : Lay 1 (ansD (.stm "turn" 0)) := lay_tup (n := 0) fun e he => by
        simp only [List.mem_cons, List.mem_nil_iff, or_false] at he
        rcases he with rfl | rfl | rfl | rfl
        · exact lay_str (by decide +kernel)
        · exact lay_str (by decide +kernel)
        · exact lay_int _
        · exact lay_bl _
      refine ⟨ansD (.stm "turn" 0), .tuple [.str "statement", .str "turn", .int 0, .bool true], LB.2.2 _ _ _ (de_mono s6 _ _ hu5), .tup (.inl (.inl ht6)) (.cons (.str _) (.cons (.str _) (.cons (.int _) (.cons (.bl _) .nil)))), by decide +kernel, by decide +kernel, _, rfl, ?_⟩
      rw [show PyData.eqv (ansD (.stm "turn" 0)) (.tuple [.str "statement", .str "turn", .int 0, .bool true]) = true by decide +kernel]
      refine iteF ?_
      clear s5 s6 ht6 nt6 LB hu5 h9
      -- a deep test
      refine Al.set (K := K) (H0 := G6) (d := .tuple [.str "f"]) (al_tup (al_cons al_str al_nil) (by first | decide | simp [rest3, up7])) (Same.refl _) fun G7 v12 s7 h12 => ?_
      have P7 := keepP P6 s7
      refine ⟨5, rfl, by decide, by decide, ?_⟩
      refine for_it walk_range (fun i σ G => ∃ (v12 : V) (dd : PyData) (x10 : Option V) (k' lf' : Int), σ = [some (.ref a), some (.ref p), some (.ref q), x3, x4, x5, x6, x7, some v8, some v9, x10, x11, some v12, x13, x14, x15] ∧ PenAt G p l ns k' lf' ∧ 0 ≤ k' ∧ k' ≤ k + ((i : Nat) : Int) ∧ 0 ≤ lf' ∧ De K G v12 dd ∧ TsG (i + 1) dd)
        ⟨v12, _, x10, k, lf, rfl, P7, j1, by omega, j3, h12, .w rfl rfl (by decide +kernel)⟩ (fun _ _ _ _ _ => trivial) ?_ ?_
      · rintro i y σ G8 Gx hi ⟨v12, dd, x10, k2, lf2, rfl, P8, i1, i2, i3, h12, ht⟩ ⟨rfl, rfl⟩
        have hi : i < 5 := hi
        refine pk1 (K := K) (H0 := Gx) (ds := [.tuple [.str "not", dd], .tuple [.str "and", dd, .tuple [.str "x"]], .tuple [.str "or", .tuple [.str "y"], dd]]) (pi := 1) (al_lst (al_cons (al_tup (al_cons al_str (al_cons (al_var (i := 12) (by rfl) h12) al_nil)) (by first | decide | simp [rest3, up7])) (al_cons (al_tup (al_cons al_str (al_cons (al_var (i := 12) (by rfl) h12) (al_cons (al_tup (al_cons al_str al_nil) (by first | decide | simp [rest3, up7])) al_nil))) (by first | decide | simp [rest3, up7])) (al_cons (al_tup (al_cons al_str (al_cons (al_tup (al_cons al_str al_nil) (by first | decide | simp [rest3, up7])) (al_cons (al_var (i := 12) (by rfl) h12) al_nil))) (by first | decide | simp [rest3, up7])) al_nil))) (by first | decide | simp [rest3, up7])) rfl P8 hn i1 (by omega) i3 (by simp) (by simp) fun G9 k9 lf9 u9 d9 t1 t2 t3 s9 P9 hd9 hu9 => ?_
        refine ⟨u9, d9, _, k9, lf9, rfl, P9, t2, by omega, t3, hu9, ?_⟩
        have hx : TsG (i + 1) (.tuple [.str "x"]) := .w rfl rfl (by decide +kernel)
        have hy : TsG (i + 1) (.tuple [.str "y"]) := .w rfl rfl (by decide +kernel)
        simp only [List.mem_cons, List.mem_nil_iff, or_false] at hd9
        rcases hd9 with rfl | rfl | rfl
        · exact .neg rfl rfl ht
        · exact .bin rfl rfl (by decide +kernel) ht hx
        · exact .bin rfl rfl (by decide +kernel) hy ht
      rintro σ G8 ⟨v12, dd, x10, k2, lf2, rfl, P8, i1, i2, i3, h12, ht⟩
      have ht : TsG 6 dd := ht
      have i2 : k2 ≤ k + 5 := i2
      refine ⟨V.ref p, rfl, p, l, ns, k2, lf2, 4, rfl, P8, hn, i1, by omega, i3, by decide, by decide, fun G9 k9 lf9 d9 f1 f2 f3 f4 f5 s9 P9 => ⟨18, d9, rfl, rfl, ?_⟩⟩
      have h12 := de_but P8.dc s9 h12
      refine pk1 (K := K) (H0 := G9) (ds := rest3) (pi := 1) (al_lst (al_cons (al_tup al_nil (by first | decide | simp [rest3, up7])) (al_cons (al_tup (al_cons (al_tup (al_cons al_str al_nil) (by first | decide | simp [rest3, up7])) al_nil) (by first | decide | simp [rest3, up7])) (al_cons (al_tup (al_cons (al_tup (al_cons al_str (al_cons (al_tup (al_cons al_str al_nil) (by first | decide | simp [rest3, up7])) (al_cons (al_tup (al_cons (al_tup (al_cons al_str al_nil) (by first | decide | simp [rest3, up7])) al_nil) (by first | decide | simp [rest3, up7])) (al_cons (al_tup al_nil (by first | decide | simp [rest3, up7])) al_nil)))) (by first | decide | simp [rest3, up7])) al_nil) (by first | decide | simp [rest3, up7])) al_nil))) (by first | decide | simp [rest3, up7])) rfl P9 hn f2 (by omega) f3 (by decide) (by decide) fun G10 k10 lf10 v14 rd t1 t2 t3 s10 P10 hrd h14 => ⟨V.int (18 + d9), v14, rfl, ?_⟩
      have h12 := de_but P9.dc s10 h12
      obtain ⟨mm, emm, hmm⟩ : ∃ mm : Nat, 18 + d9 = (mm : Int) ∧ 18 ≤ mm ∧ mm ≤ 22 := ⟨(18 + d9).toNat, (Int.toNat_of_nonneg (by omega)).symm, by omega, by omega⟩
      rw [emm]
      have h13 : De K G10 (.int (mm : Nat)) (.int (mm : Nat)) := .int _
      dsimp only
      refine Al.set (K := K) (H0 := G10) (d := .tuple ([.tuple [.str "if", dd, .tuple [.tuple [.str "mark"]], rd]] ++ List.replicate mm (.tuple [.str "unmark"]))) (al_catT (al_tup (al_cons (al_tup (al_cons al_str (al_cons (al_var (i := 12) (by rfl) h12) (al_cons (al_tup (al_cons (al_tup (al_cons al_str al_nil) (by first | decide | simp [rest3, up7])) al_nil) (by first | decide | simp [rest3, up7])) (al_cons (al_var (i := 14) (by rfl) h14) al_nil)))) (by first | decide | simp [rest3, up7])) al_nil) (by first | decide | simp [rest3, up7])) (al_repT (al_tup (al_cons (al_tup (al_cons al_str al_nil) (by first | decide | simp [rest3, up7])) al_nil) (by first | decide | simp [rest3, up7])) (al_var (i := 13) (by rfl) h13) (by omega) (by omega)) (by rw [List.length_replicate]; show 1 + mm ≤ 1000; omega)) (Same.refl _) fun G11 v5 s11 h5 => ?_
      have P11 := keepP P10 s11
      refine pk1s (K := K) (H0 := G11) (ds := up7) (pi := 1) (al_lst (al_cons (al_tup al_nil (by first | decide | simp [rest3, up7])) (al_cons (al_lst al_nil (by first | decide | simp [rest3, up7])) (al_cons (al_tup (al_cons (al_tup (al_cons al_str al_nil) (by first | decide | simp [rest3, up7])) al_nil) (by first | decide | simp [rest3, up7])) (al_cons (al_tup (al_cons (al_tup (al_cons al_str al_nil) (by first | decide | simp [rest3, up7])) (al_cons (al_tup (al_cons al_str al_nil) (by first | decide | simp [rest3, up7])) al_nil)) (by first | decide | simp [rest3, up7])) (al_cons (al_tup (al_cons (al_tup (al_cons al_str al_nil) (by first | decide | simp [rest3, up7])) al_nil) (by first | decide | simp [rest3, up7])) (al_cons al_int (al_cons (al_tup (al_cons (al_tup (al_cons al_str (al_cons (al_tup (al_cons al_str al_nil) (by first | decide | simp [rest3, up7])) (al_cons (al_tup al_nil (by first | decide | simp [rest3, up7])) (al_cons (al_tup al_nil (by first | decide | simp [rest3, up7])) al_nil)))) (by first | decide | simp [rest3, up7])) al_nil) (by first | decide | simp [rest3, up7])) al_nil))))))) (by first | decide | simp [rest3, up7])) rfl P11 hn t2 (by omega) t3 (by decide) (by decide) fun G12 k12 lf12 v15 ud q1 q2 q3 s12 P12 hud h15 => ?_
      have h5 := de_but P11.dc s12 h5
      refine Al.set (K := K) (H0 := G12) (d := .tuple [.tuple ([.tuple [.str "if", dd, .tuple [.tuple [.str "mark"]], rd]] ++ List.replicate mm (.tuple [.str "unmark"])), .tuple (List.replicate 18 (.tuple [.str "mark"])), ud]) (al_tup (al_cons (al_var (i := 5) rfl h5) (al_cons (al_repT (m := 18) (al_tup (al_cons (al_tup (al_cons al_str al_nil) (by first | decide | simp [rest3, up7])) al_nil) (by first | decide | simp [rest3, up7])) al_int (by decide) (by decide)) (al_cons (al_var (i := 15) rfl h15) al_nil))) (by simp)) (Same.refl _) fun G13 v4 s13 h4 => ?_
      obtain ⟨p4, us, rfl, hp4, hus⟩ : ∃ (p4 : Addr) (us : List V), v4 = .ref p4 ∧ G13 p4 = some (.tup us) ∧ DeAll K G13 us [.tuple ([.tuple [.str "if", dd, .tuple [.tuple [.str "mark"]], rd]] ++ List.replicate mm (.tuple [.str "unmark"])), .tuple (List.replicate 18 (.tuple [.str "mark"])), ud] := by
        cases h4 with
        | tup a b => exact ⟨_, _, rfl, a, b⟩
      obtain ⟨m14, g14, l14⟩ := rest3_ok rd hrd
      have TD6 := tsG_TD (ht.mono (by decide))
      have gif : GS 2 (.tuple [.str "if", dd, .tuple [.tuple [.str "mark"]], rd]) (1 + 0 + m14 + 1) := .inr ⟨dd, _, rd, 1 + 0, m14, rfl, TD6.t 6, TD6.l, TD6.w, .inl ⟨_, rfl, .cons (gs_leaf leaf_mark 1) .nil⟩, g14, rfl⟩
      obtain ⟨wu, gu, lu⟩ := gl_rep leaf_unmark 2 mm
      obtain ⟨wm, gm, lm⟩ := gl_rep leaf_mark 2 18
      obtain ⟨r1, Q1⟩ := bq_tl (blk := Str.ofString "down") (b := .tuple ([.tuple [.str "if", dd, .tuple [.tuple [.str "mark"]], rd]] ++ List.replicate mm (.tuple [.str "unmark"]))) rfl ((GdL.cons gif .nil).app gu) (by decide) (by omega)
      obtain ⟨r2, Q2⟩ := bq_tl (blk := Str.ofString "turn") (b := .tuple (List.replicate 18 (.tuple [.str "mark"]))) rfl gm (by decide) (by omega)
      obtain ⟨r3, Q3⟩ := up7_ok ud hud
      cases hus with
      | @cons y1 _ _ _ z1 hus =>
      cases hus with
      | @cons y2 _ _ _ z2 hus =>
      cases hus with
      | @cons y3 _ _ _ z3 hus =>
      cases hus
      exact rep_eq rfl hp4 z1 z2 z3 Q1 Q2 Q3 fun G' => kk G'
end
end SK
namespace SK
open PySem PySem.Spec PyProof.Rows L2 LamX NdefX
/-! ### the law's call, some tables of code objects beside the script -/
abbrev EndOk (h : Heap) (os : OsState) (r : Result) (s' : Shared) : Prop := r = .ok (.ret (.bool true)) ∧ PySem.OldK h s'.heap ∧ s'.os = os ∧ AllBare s'.gens
def tabObj : Obj := { cls := .none, data := .fields #[] }
section
variable {P : Program} {w : World} {K : PySem.W.Frag} {mg mb : Str → Option Value} {fa a : Addr} {s : Shared} {H : Hp} {vs : List Value} {ns : List Int} {lv : Nat} {sp : Sp} {ps : List (Addr × Addr)} {T : List (Addr × Str)}
theorem run_lawA (D : ∀ base : Heap, K.In base → base.Ns mainGlobals mg → (∀ p ∈ ps, TabB base mg p.1 p.2) → ∃ fd, Binds K fd ["script"] [] ∧ FnG P w K mg base CX0 lv fa fd ["script"] sp) (room : Room lv PySem.callerA)
    (hsp : ∀ (H : Hp) (a : Addr) (ns : List Int), SqL K H a (ns.map V.int) → ns.length ≤ 63 → Tabs T H → sp [.ref a] H (fun v _ => v = .bl true) E0)
    (hT : ∀ p ∈ T, p.1 ∈ ps.map (·.2)) (KX : K.In s.heap) (hm : s.heap.Ns mainGlobals mg) (hb : s.heap.Ns builtinsNs mb) (hbb : ∀ x : Str, x ≠ "__name__" → mb x = bootBuiltins x)
    (hlim : s.heap.NoLimit) (hgens : s.gens = #[]) (hPt : ∀ P ∈ ps.map (·.2), s.heap.get? P = some tabObj) (nPt : ∀ P ∈ ps.map (·.2), K.lookup P = none) (hC : ∀ p ∈ ps, PySem.W.CodeHd s.heap p.1 p.2)
    (hbm : ∃ (bm : Addr) (ob : Obj), mg "__builtins__" = some (.ref bm) ∧ bm ≠ builtinsNs ∧ s.heap.get? bm = some ob ∧ ob.cls = .type "module" ∧ ob.dict = some builtinsNs ∧ ob.data = .plain)
    (ha : s.heap.get? a = some { cls := .type "list", data := .seq vs.toArray }) (hn : ns.length ≤ 63) (hS : SqL K H a (ns.map V.int)) (ok : HOk P w H s.heap) (hHP : ∀ P ∈ ps.map (·.2), H P = some (.tbl #[]))
    (hO : ∀ b, H b = none ∨ b ∈ ps.map (·.2) ∨ (b = a ∧ ∃ o xs, H b = some (.frz o (.lst xs)))) (hK : H a ≠ none → K.lookup a = none) :
    codeAny (model P w) PySem.callerA (.call (.ref fa) ⟨[.ref a], []⟩) (EndOk s.heap s.os) s := by
  have free : ∀ {b : Addr} {o : Obj}, s.heap.get? b = some o → (∀ vs n, o.data ≠ .seq vs n) → o.data ≠ .fields #[] → H b = none := fun {b o} e h1 h2 => by
    rcases hO b with z | z | ⟨rfl, _⟩
    · exact z
    · rw [hPt b z] at e
      have e' := Option.some.inj e
      subst e'
      exact absurd rfl h2
    · rw [ha] at e
      have e' := Option.some.inj e
      subst e'
      exact absurd rfl (h1 _ _)
  have dicts : ∀ {b : Addr} {m : Str → Option Value}, s.heap.Ns b m → (hidT s.heap H).Ns b m := fun {b m} ⟨o, es, ep, e, d, r⟩ =>
    ⟨o, es, ep, hidT_get e (free e (fun vs n z => by rw [d] at z; cases z) fun z => by rw [d] at z; cases z), d, r⟩
  have Kb : K.In (hidT s.heap H) := fun b o e => by
    refine hidT_get (KX b o e) ?_
    rcases hO b with z | z | ⟨rfl, o', xs, z⟩
    · exact z
    · rw [nPt b z] at e
      cases e
    · rw [hK (by rw [z]; exact fun z => nomatch z)] at e
      cases e
  have M : Mod K mg (hidT s.heap H) := ⟨Kb, dicts hm, ⟨mb, dicts hb, hbb⟩, by
    obtain ⟨mc, h1, h2⟩ := hlim
    exact ⟨mc, dicts h1, h2⟩⟩
  have noG : ∀ P ∈ ps.map (·.2), mainGlobals ≠ P := fun P hP z => by
    obtain ⟨o, es, ep, e, d, _⟩ := hm
    rw [z, hPt P hP] at e
    have e' := Option.some.inj e
    subst e'
    cases d
  have TB : ∀ p ∈ ps, TabB (hidT s.heap H) mg p.1 p.2 := fun p hp => by
    have hp2 : p.2 ∈ ps.map (·.2) := List.mem_map.mpr ⟨p, hp, rfl⟩
    refine ⟨?_, ?_, noG _ hp2⟩
    · obtain ⟨o, us, file, tf, flags, tg, inF, text, tt, e1, r1, r2, r3, rest⟩ := hC p hp
      refine ⟨o, us, file, tf, flags, tg, inF, text, tt, hidT_get e1 (free e1 (fun vs n z => ?_) fun z => ?_), r1, r2, r3, rest⟩
      · rw [r2] at z
        cases z
      · rw [r2] at z
        injection z with z
        subst z
        simp at r3
    · obtain ⟨bm, ob, b1, b2, b3, b4, b5, b6⟩ := hbm
      refine ⟨bm, ob, b1, b2, fun z => ?_, fun z => ?_, hidT_get b3 (free b3 (fun vs n z => by rw [b6] at z; cases z) fun z => by rw [b6] at z; cases z), b4, b5, b6⟩
      · obtain ⟨o, es, ep, e, d, _⟩ := hm
        rw [z, e] at b3
        have e' := Option.some.inj b3
        subst e'
        rw [d] at b6
        cases b6
      · rw [z, hPt _ hp2] at b3
        have e' := Option.some.inj b3
        subst e'
        cases b6
  have e0 : Env0 P w K mg (hidT s.heap H) PySem.callerA [] s H := ⟨rfl, M, fun b o e => of_hidT e, Nat.le_of_eq (hidT_size _ _), trivial, fun b z => (by cases z), ok, AllBare.of_eq hgens⟩
  have tabs : Tabs T H := fun p hp => TabS.nil (hHP _ (hT p hp))
  obtain ⟨fd, b, G⟩ := D _ Kb (dicts hm) TB
  have back : ∀ b o, (hidT s.heap H).get? b = some o → s.heap.get? b = some o := fun b o e => (e0.bs b o e).1
  have bb := b s [Value.ref a] (e0.mod.kin.keeps back) (by rfl)
  refine codeAny_mono (G.run PySem.callerA [] s H ⟨[.ref a], []⟩ [.ref a] [V.ref a] _ E0 rfl room e0 bb (.cons rfl .nil) (hsp H a ns hS hn tabs)) fun r s' h => ?_
  cases r with
  | error e => exact h.elim
  | ok fl =>
    cases fl with
    | next => exact False.elim h
    | brk => exact False.elim h
    | cont => exact False.elim h
    | ret u =>
      obtain ⟨v, H', os, bare, un, ok', rv, qv⟩ := h
      have qv : v = .bl true := qv
      subst qv
      obtain rfl : u = Value.bool true := rv
      have grown : ∀ P ∈ ps.map (·.2), ∃ more : Array Value, s'.heap.get? P = some { cls := .none, data := .fields more } := fun P hP => by
        obtain ⟨more, z⟩ := un.tbls P #[] (hHP P hP)
        exact ⟨_, ok' P _ z⟩
      have same : ∀ b o, b ∉ ps.map (·.2) → s.heap.get? b = some o → s'.heap.get? b = some o := fun b o nb e => by
        rcases hO b with z | z | ⟨_, ob, xs, z⟩
        · exact un.keep b o e z (fun z => (by cases z)) (fun z => (by cases z))
        · exact absurd z nb
        · obtain ⟨f1, _⟩ := ok b _ z
          obtain ⟨f2, _⟩ := ok' b _ (un.frzs b ob _ z)
          rw [e] at f1
          cases f1
          exact f2
      refine ⟨rfl, ⟨fun b o e => ?_, fun b o e => ?_⟩, os, bare⟩
      · by_cases hbP : b ∈ ps.map (·.2)
        · obtain ⟨p, hp, rfl⟩ := List.mem_map.mp hbP
          rw [hPt _ hbP] at e
          have e' := Option.some.inj e
          subst e'
          obtain ⟨more, hmore⟩ := grown _ hbP
          exact .inr (.inl ⟨((hC p hp).tab (hPt _ hbP)).isCodeTable, rfl, #[], more, rfl, by rw [Array.empty_append]; exact hmore⟩)
        · exact .inl (same b o hbP e)
      · by_cases hbP : b ∈ ps.map (·.2)
        · obtain ⟨more, hmore⟩ := grown _ hbP
          exact ⟨_, hmore⟩
        · exact ⟨o, same b o hbP e⟩
theorem run_lawG (D : ∀ base : Heap, K.In base → base.Ns mainGlobals mg → (∀ p ∈ ps, TabB base mg p.1 p.2) → ∃ fd, Binds K fd ["script"] [] ∧ FnG P w K mg base CX0 lv fa fd ["script"] sp) (room : Room lv PySem.callerA)
    (hsp : ∀ (H : Hp) (a : Addr) (ns : List Int), SqL K H a (ns.map V.int) → ns.length ≤ 63 → Tabs T H → sp [.ref a] H (fun v _ => v = .bl true) E0)
    (hT : ∀ p ∈ T, p.1 ∈ ps.map (·.2)) (KX : K.In s.heap) (hm : s.heap.Ns mainGlobals mg) (hb : s.heap.Ns builtinsNs mb) (hbb : ∀ x : Str, x ≠ "__name__" → mb x = bootBuiltins x)
    (hlim : s.heap.NoLimit) (hgens : s.gens = #[]) (hPt : ∀ P ∈ ps.map (·.2), s.heap.get? P = some tabObj) (nPt : ∀ P ∈ ps.map (·.2), K.lookup P = none) (hC : ∀ p ∈ ps, PySem.W.CodeHd s.heap p.1 p.2)
    (hbm : ∃ (bm : Addr) (ob : Obj), mg "__builtins__" = some (.ref bm) ∧ bm ≠ builtinsNs ∧ s.heap.get? bm = some ob ∧ ob.cls = .type "module" ∧ ob.dict = some builtinsNs ∧ ob.data = .plain)
    (ha : s.heap.get? a = some { cls := .type "list", data := .seq vs.toArray }) (hi : IntsAre vs ns) (hn : ns.length ≤ 63) :
    codeAny (model P w) PySem.callerA (.call (.ref fa) ⟨[.ref a], []⟩) (EndOk s.heap s.os) s := by
  have rv := vals_ints hi
  have lv := hi.length
  have z63 : (63 : Nat) ≤ sizeLine := by decide
  have hz : ns.length ≤ sizeLine := Nat.le_trans hn z63
  have nap : a ∉ ps.map (·.2) := fun z => by
    have e := hPt a z
    rw [ha] at e
    have e := congrArg Obj.data (Option.some.inj e)
    cases e
  let lo : HO := .frz { cls := .type "list", data := .seq vs.toArray } (.lst (ns.map V.int))
  by_cases hk : K.lookup a = none
  · let H0 : Hp := fun b => if b = a then some lo else if b ∈ ps.map (·.2) then some (.tbl #[]) else none
    have ea : H0 a = some lo := if_pos rfl
    have eP : ∀ P ∈ ps.map (·.2), H0 P = some (.tbl #[]) := fun P hP => (if_neg (show ¬ P = a from fun z => nap (by rw [← z]; exact hP))).trans (if_pos hP)
    have en : ∀ b, b ≠ a → b ∉ ps.map (·.2) → H0 b = none := fun b n m => (if_neg n).trans (if_neg m)
    refine run_lawA (H := H0) D room hsp hT KX hm hb hbb hlim hgens hPt nPt hC hbm ha hn (.inl (.inr ⟨_, ea⟩)) (fun b u z => ?_) eP (fun b => ?_) fun _ => hk
    · by_cases h : b = a
      · subst h
        rw [ea] at z
        cases z
        exact ⟨ha, by rw [List.length_map]; exact hz, vs, _, rv, ha⟩
      · by_cases m : b ∈ ps.map (·.2)
        · rw [eP b m] at z
          cases z
          exact hPt b m
        · rw [en b h m] at z
          cases z
    · by_cases h : b = a
      · subst h
        exact .inr (.inr ⟨rfl, _, _, ea⟩)
      · by_cases m : b ∈ ps.map (·.2)
        · exact .inr (.inl m)
        · exact .inl (en b h m)
  · obtain ⟨o, ho⟩ := Option.ne_none_iff_exists'.mp hk
    have e := KX a o ho
    rw [ha] at e
    cases e
    let H1 : Hp := fun b => if b ∈ ps.map (·.2) then some (.tbl #[]) else none
    have eP : ∀ P ∈ ps.map (·.2), H1 P = some (.tbl #[]) := fun P hP => if_pos hP
    have en : ∀ b, b ∉ ps.map (·.2) → H1 b = none := fun b m => if_neg m
    refine run_lawA (H := H1) D room hsp hT KX hm hb hbb hlim hgens hPt nPt hC hbm ha hn (.inr ⟨_, vs.toArray, _, ho, rfl, rfl, rfl, by rw [List.size_toArray, lv]; exact hz, by simpa using rv⟩) (fun b u z => ?_) eP (fun b => ?_) fun z => absurd (en a nap) z
    · by_cases m : b ∈ ps.map (·.2)
      · rw [eP b m] at z
        cases z
        exact hPt b m
      · rw [en b m] at z
        cases z
    · by_cases m : b ∈ ps.map (·.2)
      · exact .inr (.inl m)
      · exact .inl (en b m)
end
end SK
namespace SK
open PySem PySem.Spec PyProof.Rows L2 LamX NdefX
open K0 (De DeAll XCl spX withX)
/-! ### what the top leaves, as one test -/
def clsB (K : PySem.W.Frag) (C : Addr) : Bool := match K.lookup C with
  | some ⟨.type "type", _, .cls cd, sl⟩ => (match cd.mro, sl.toList with
    | .ref D :: bm, [_, _, _, _, some (.builtin n), _] => decide (D = C) && (decide (n = "ValueError.__new__") && (!cd.hasDel && (cd.hasDict && PySem.HandSPX.refsVE bm)))
    | _, _ => false)
  | _ => false
theorem clsB_ok {K : PySem.W.Frag} {C : Addr} (h : clsB K C = true) : ∃ nm q N bs bm sn sub ab col dd k0 k1 k2 k3 k5, K.lookup C = some (excClassObj nm q C N bs bm true sn sub ab col dd k0 k1 k2 k3 k5 "ValueError.__new__") ∧ PySem.HandSPX.refsVE bm = true := by
  unfold clsB at h
  split at h
  · rename_i dd cd sl ho
    split at h
    · rename_i D bm k0 k1 k2 k3 n k5 hm hs
      simp only [Bool.and_eq_true, decide_eq_true_eq, Bool.not_eq_true'] at h
      obtain ⟨rfl, rfl, hdel, hd, hv⟩ := h
      obtain ⟨nm, bs, mro, ns, qn, hdc, sn, sub, ab, col, del⟩ := cd
      dsimp only at hm hdel hd
      subst hm hdel hd
      have e : sl = #[k0, k1, k2, k3, some (.builtin "ValueError.__new__"), k5] := by
        obtain ⟨l⟩ := sl
        simp only at hs
        rw [hs]
      subst e
      exact ⟨nm, qn, ns, bs, bm, sn, sub, ab, col, dd, k0, k1, k2, k3, k5, ho, hv⟩
    · cases h
  · cases h
def xB (K : PySem.W.Frag) (C : Addr) : Bool :=
  clsB K C && (decide (PySem.W.findIn K (.ref C) "__setattr__" = some (some (.builtin "object.__setattr__"))) && (decide (PySem.W.subIn K (.ref C) (.type "BaseException") = some true) && (decide (PySem.W.typeIn K (.ref C) = some (.type "type")) && (PySem.W.keepIn K (.ref C) &&
    (decide (PySem.W.findIn K (.ref C) "__getattribute__" = some (some (.builtin "BaseException.__getattribute__"))) && (decide (PySem.W.findIn K (.ref C) "__getattr__" = some none) && (PySem.W.hasDictIn K C && (decide (PySem.W.findIn K (.ref C) "__class__" = some (some (.builtin "object.__class__"))) &&
      (decide (PySem.W.specialIn K (.builtin "object.__class__") "__get__" = some (some (.builtin "getset_descriptor.__get__"))) && (decide (PySem.W.takesIn K (.builtin "object.__class__") = some true) && decide (PySem.W.mroIn K C (.type "object") = some true)))))))))))
theorem xB_ok {K : PySem.W.Frag} {C : Addr} (h : xB K C = true) : XCl K C := by
  simp only [xB, Bool.and_eq_true, decide_eq_true_eq] at h
  obtain ⟨h1, h2, h3, h4, h5, h6, h7, h8, h9, h10, h11, h12⟩ := h
  exact ⟨⟨clsB_ok h1, h2, h3, h4, h5⟩, h6, h7, h8, h9, h10, h11, h12⟩
def iniB (K : PySem.W.Frag) (x : Str) (fs : List Str) : Bool :=
  decide (PySem.W.findIn K (.ref (He.ga K x)) "__init__" = some (some (.ref (He.ma K (He.ga K x) "__init__")))) && (decide (PySem.W.typeIn K (.ref (He.ma K (He.ga K x) "__init__")) = some (.type "function")) && fs.all fun n => decide (PySem.W.findIn K (.ref (He.ga K x)) n = some none))
theorem put_old {H : Hp} {C a dx : Addr} {fs gs : List (Str × V)} (ne : dx ≠ a) : upd (withX H C a dx fs) dx (exd dx gs) = withX H C a dx gs := by
  funext b
  show upd (upd (upd H dx _) a _) dx _ b = upd (upd H dx _) a _ b
  by_cases hd : b = dx
  · rw [hd, upd_same, upd_ne ne, upd_same]
  · rw [upd_ne hd]
    by_cases ha : b = a
    · rw [ha, upd_same, upd_same]
    · rw [upd_ne ha, upd_ne ha, upd_ne hd, upd_ne hd]
section
variable {P : Program} {w : World} {K : PySem.W.Frag} {mg : Str → Option Value} {base : Heap} {f C : Addr} {fd : FuncData}
theorem sc_TooMany : FnScope ["self", "what", "many", "most"] ["self", "what", "many", "most"] (defScope (inClass (top 2) 0)) := ⟨rfl, rfl, rfl, by decide +kernel, rfl, by decide +kernel, by decide +kernel⟩
theorem ok_TooMany (F : Fun K "__init__" "TooMany.__init__" (inClass (top 2) 0) f fd) (T : OexC K C) (no : ∀ n ∈ (["what", "many", "most"] : List Str), PySem.W.findIn K (.ref C) n = some none) : FnOk P w K mg base CX0 1 f fd ["self", "what", "many", "most"] (spX C ["what", "many", "most"]) := by
  refine F.ok sc_TooMany (fun vs H Q E h => ?_) (fun cdv A outer s H vs Q E hr h => ?_)
  · obtain ⟨a, ys, rfl, hl, _⟩ := h
    exact congrArg Nat.succ hl
  · obtain ⟨a, ys, rfl, hl, ha, k⟩ := h
    match ys, hl with
    | [y0, y1, y2], _ =>
      refine ⟨_, pss_cons (ps_ost (pv 0) (pv 1)) (pss_cons (ps_ost (pv 0) (pv 2)) (pss_one (ps_ost (pv 0) (pv 3)))), ?_⟩
      refine ⟨y0, rfl, .ref a, rfl, a, C, rfl, T, (no _ (by simp)), .inl ⟨ha, fun dx nd ne => ?_⟩⟩
      refine ⟨y1, rfl, .ref a, rfl, a, C, rfl, T, (no _ (by simp)), .inr ⟨dx, _, upd_same, (upd_ne ne).trans upd_same, by simp, ?_⟩⟩
      rw [put_old ne]
      refine ⟨y2, rfl, .ref a, rfl, a, C, rfl, T, (no _ (by simp)), .inr ⟨dx, _, upd_same, (upd_ne ne).trans upd_same, by simp, ?_⟩⟩
      rw [put_old ne]
      exact k dx nd ne
theorem xr_TooMany (F : Fun K "__init__" "TooMany.__init__" (inClass (top 2) 0) f fd) (cl : XCl K C) (gC : mg "TooMany" = some (.ref C)) (iC : PySem.W.findIn K (.ref C) "__init__" = some (some (.ref f)))
    (tI : PySem.W.typeIn K (.ref f) = some (.type "function")) (no : ∀ n ∈ (["what", "many", "most"] : List Str), PySem.W.findIn K (.ref C) n = some none) : XR P w K mg base "TooMany" C ["what", "many", "most"] :=
  ⟨cl, gC, no, f, fd, iC, tI, ok_TooMany F cl.T no, Fun.binds F fun _ _ _ _ _ _ us hl => match us, hl with | [_, _, _, _], _ => rfl⟩
theorem sc_BadStatement : FnScope ["self", "block", "number"] ["self", "block", "number"] (defScope (inClass (top 3) 0)) := ⟨rfl, rfl, rfl, by decide +kernel, rfl, by decide +kernel, by decide +kernel⟩
theorem ok_BadStatement (F : Fun K "__init__" "BadStatement.__init__" (inClass (top 3) 0) f fd) (T : OexC K C) (no : ∀ n ∈ (["block", "number"] : List Str), PySem.W.findIn K (.ref C) n = some none) : FnOk P w K mg base CX0 1 f fd ["self", "block", "number"] (spX C ["block", "number"]) := by
  refine F.ok sc_BadStatement (fun vs H Q E h => ?_) (fun cdv A outer s H vs Q E hr h => ?_)
  · obtain ⟨a, ys, rfl, hl, _⟩ := h
    exact congrArg Nat.succ hl
  · obtain ⟨a, ys, rfl, hl, ha, k⟩ := h
    match ys, hl with
    | [y0, y1], _ =>
      refine ⟨_, pss_cons (ps_ost (pv 0) (pv 1)) (pss_one (ps_ost (pv 0) (pv 2))), ?_⟩
      refine ⟨y0, rfl, .ref a, rfl, a, C, rfl, T, (no _ (by simp)), .inl ⟨ha, fun dx nd ne => ?_⟩⟩
      refine ⟨y1, rfl, .ref a, rfl, a, C, rfl, T, (no _ (by simp)), .inr ⟨dx, _, upd_same, (upd_ne ne).trans upd_same, by simp, ?_⟩⟩
      rw [put_old ne]
      exact k dx nd ne
theorem xr_BadStatement (F : Fun K "__init__" "BadStatement.__init__" (inClass (top 3) 0) f fd) (cl : XCl K C) (gC : mg "BadStatement" = some (.ref C)) (iC : PySem.W.findIn K (.ref C) "__init__" = some (some (.ref f)))
    (tI : PySem.W.typeIn K (.ref f) = some (.type "function")) (no : ∀ n ∈ (["block", "number"] : List Str), PySem.W.findIn K (.ref C) n = some none) : XR P w K mg base "BadStatement" C ["block", "number"] :=
  ⟨cl, gC, no, f, fd, iC, tI, ok_BadStatement F cl.T no, Fun.binds F fun _ _ _ _ _ _ us hl => match us, hl with | [_, _, _], _ => rfl⟩
end
/-! ### what is told of LET_IN -/
def tupA (K : PySem.W.Frag) (a : Addr) (vs : List He.Dv) : Bool := match K.lookup a with
  | some ⟨.type c, _, .seq its _, _⟩ => decide (c = "tuple") && (decide (its.size ≤ sizeLine) && He.relAll (vs.map (He.Dv.v K)) its.toList)
  | _ => false
theorem tupA_ok {K : PySem.W.Frag} {a : Addr} {vs : List He.Dv} (h : tupA K a vs = true) (H : Hp) : SqT K H a (vs.map (He.Dv.v K)) := by
  unfold tupA at h
  cases q : K.lookup a with
  | none =>
    rw [q] at h
    cases h
  | some o =>
    obtain ⟨oc, od, dt, osl⟩ := o
    rw [q] at h
    cases oc with
    | type c =>
      cases dt with
      | seq its n =>
        obtain ⟨h1, h2⟩ := He.ba (show (decide (c = "tuple") && (decide (its.size ≤ sizeLine) && He.relAll (vs.map (He.Dv.v K)) its.toList)) = true from h)
        obtain ⟨h3, h4⟩ := He.ba h2
        exact .inr ⟨_, its, n, q, congrArg Value.type (of_decide_eq_true h1), rfl, of_decide_eq_true h3, He.relAll_ok h4⟩
      | _ => cases h
    | _ => cases dt <;> cases h
def letB (K : PySem.W.Frag) (d : Addr) : Bool := letK.all fun z => match PySem.W.nsIn K d z with
  | some (some (.ref a)) => tupA K a ((letD z).map He.Dv.str)
  | _ => false
theorem keyOf_in {P : Params} {l : List DictEntry} {ks : List Str} (h : l.map He.keyOf = He.keysIn P ks) {e : DictEntry} (he : e ∈ l) : ∃ x t, e.key = .str x t ∧ x ∈ ks := by
  have m : He.keyOf e ∈ l.map He.keyOf := List.mem_map.mpr ⟨e, he, rfl⟩
  rw [h] at m
  obtain ⟨k, hk, q⟩ := List.mem_map.mp m
  unfold He.keyOf at q
  split at q
  · rename_i x t z
    have q := Option.some.inj q
    exact ⟨x, t, z, by rw [← (Prod.mk.inj q).1]; exact hk⟩
  · cases q
theorem let_no {K : PySem.W.Frag} {w : World} {d : Addr} (h : He.dicW K d = some (He.keysIn w.params letK)) {z : Str} (hz : z ∉ letK) : PySem.W.nsIn K d z = some none := by
  obtain ⟨es, n, D⟩ := He.dicW_ok h
  have e : es.toList.map He.keyOf = He.keysIn w.params letK := by
    unfold He.dicW at h
    rw [D.at_] at h
    simp only [D.low] at h
    exact Option.some.inj h
  unfold PySem.W.nsIn
  rw [D.at_]
  have f : es.toList.find? (fun e => e.key.isStr z) = none := List.find?_eq_none.mpr fun x hx => by
    obtain ⟨y, t, k1, k2⟩ := keyOf_in e hx
    rw [k1]
    intro q
    have q : (y == z) = true := q
    exact hz ((beq_iff_eq.mp q) ▸ k2)
  have g : es.toList.any (fun e => e.refKey) = false := List.any_eq_false.mpr fun x hx => by
    obtain ⟨y, t, k1, _⟩ := keyOf_in e hx
    unfold DictEntry.refKey
    rw [k1]
    simp
  simp only [f, g]
  rfl
theorem letIn_ok {K : PySem.W.Frag} {w : World} {d : Addr} (h : letB K d = true) (k : He.dicW K d = some (He.keysIn w.params letK)) : LetIn K w d := by
  refine ⟨He.dicW_ok k, fun z hz => let_no k hz, fun z hz => ?_⟩
  have q := List.all_eq_true.mp h z hz
  cases e : PySem.W.nsIn K d z with
  | none =>
    rw [e] at q
    cases q
  | some r =>
    rw [e] at q
    cases r with
    | none => cases q
    | some u =>
      cases u with
      | ref a =>
        refine ⟨a, rfl, fun H => ?_⟩
        have y := tupA_ok (K := K) (a := a) (vs := (letD z).map He.Dv.str) q H
        rw [List.map_map] at y
        exact y
      | _ => cases q
def exs01 (K : PySem.W.Frag) : List Bool := [(K.lookup sysModules).isSome,
  decide (PySem.W.kitOne K (.ref (He.ga K "BadStatement")) (.ref (He.ga K "TreesError")) = some true),
  He.tupB K "PLAIN_TESTS_statements" [.str "mark", .str "f", .str "x", .str "y", .str "root", .str "ends", .str "next", .str "p", .str "here", .str "true"],
  He.tupB K "ANSWERS" [.str "yes", .str "no", .str "node", .str "p"],
  letB K (He.ga K "LET_IN"),
  (xB K (He.ga K "TooMany") && iniB K "TooMany" [("what" : Str), ("many" : Str), ("most" : Str)]),
  (xB K (He.ga K "BadStatement") && iniB K "BadStatement" [("block" : Str), ("number" : Str)])]
def ex01 (K : PySem.W.Frag) : Bool := (exs01 K).all id
def fa01 : List He.Fa := [.glo "is_list", .glo "is_count", .glo "is_test", .glo "is_word_let", .glo "is_set", .glo "is_return", .glo "is_if", .glo "is_statement", .glo "number_of_statements", .glo "check_blocks", .glo "frozen", .glo "_law_pen", .glo "_law_draw", .glo "_law_pick", .glo "_law_test", .glo "_law_simple", .glo "_law_block", .glo "_law_known", .glo "_law_routine", .glo "_law_size", .glo "_law_met", .glo "_law_is_test", .glo "_law_is_right", .glo "_law_due", .glo "_law_odd", .glo "_law_put", .glo "_law_as_lists", .glo "law", .glo "Routine", .glo "PLAIN_TESTS_statements", .glo "ANSWERS", .glo "LET_IN", .glo "TooMany", .glo "BadStatement", .glo "TreesError", .free "isinstance", .free "len", .free "tuple", .free "list", .free "bool", .free "str", .free "sum", .free "int", .free "abs", .free "range", .free "min", .free "repr", .free "zip", .int "MOST_STATEMENTS" 40, .int "MOST_TESTS" 6, .cls "Routine", .noat "Routine" "down", .noat "Routine" "turn", .noat "Routine" "up", .mkr "Routine", .exm "BadStatement" "BadStatement" true, .exm "TooMany" "BadStatement" false, .exm "TooMany" "TooMany" true]
def dDef (x : Str) (st : Stmt) : He.DefD := ⟨(x, none), x, x, defArgs st, defBody st, defScope st, [], []⟩
def dMet (x m q : Str) (st : Stmt) : He.DefD := ⟨(x, some m), m, q, defArgs st, defBody st, defScope st, [], []⟩
def fn01 : List He.DefD := [dDef "is_list" (top 11), dDef "is_count" (top 12), dDef "is_test" (top 13), dDef "is_word_let" (top 14), dDef "is_set" (top 15), dDef "is_return" (top 16), dDef "is_if" (top 17), dDef "is_statement" (top 18), dDef "number_of_statements" (top 19), dDef "check_blocks" (top 20), dDef "frozen" (top 21), dDef "_law_pen" (top 51), dDef "_law_draw" (top 52), dDef "_law_pick" (top 53), dDef "_law_test" (top 54), dDef "_law_simple" (top 55), dDef "_law_block" (top 56), dDef "_law_known" (top 57), dDef "_law_routine" (top 58), dDef "_law_size" (top 59), dDef "_law_met" (top 60), dDef "_law_is_test" (top 61), dDef "_law_is_right" (top 62), dDef "_law_due" (top 63), dDef "_law_odd" (top 64), dDef "_law_put" (top 65), dDef "_law_as_lists" (top 66), dDef "law" (top 67), dMet "TooMany" "__init__" "TooMany.__init__" (inClass (top 2) 0), dMet "BadStatement" "__init__" "BadStatement.__init__" (inClass (top 3) 0), dMet "Routine" "__init__" "Routine.__init__" (inClass (top 49) 0)]
def tf01 : List He.Defn := []
def ts01 : List He.Tab := [(fun K => He.ga K "LET_IN", letK)]
/-! ### the Hook -/
def KF (g : Addr → Option Obj) : PySem.W.Frag := He.frT g (sysModules :: He.asD g 5)
def obsK (g : Addr → Option Obj) : He.AlX := (He.obsT fa01 fn01 ts01 (KF g), ex01 (KF g) && He.tabsB g tf01 (KF g))
abbrev SaysK (w : World) (h : Heap) (K : PySem.W.Frag) : Prop := He.SaysX fa01 fn01 ts01 tf01 ex01 w h K
theorem saysK {w : World} {h : Heap} (e : obsK h.get? = He.valX fn01 ts01 w) : SaysK w h (KF h.get?) := by
  obtain ⟨m1, m2⟩ := He.ba (show (ex01 (KF h.get?) && He.tabsB h.get? tf01 (KF h.get?)) = true from congrArg Prod.snd e)
  have at_ : ∀ p ∈ tf01, PySem.W.codeHdIn (KF h.get?) (He.cT (KF h.get?) p).1 (He.cT (KF h.get?) p).2 = true ∧ ∃ o, h.get? (He.cT (KF h.get?) p).2 = some o ∧ He.emptyTab o = true := fun p hp => by
    obtain ⟨a1, a2⟩ := He.ba (List.all_eq_true.mp m2 p hp)
    refine ⟨a1, ?_⟩
    cases z : h.get? (He.cT (KF h.get?) p).2 with
    | none => rw [z] at a2; cases a2
    | some o => rw [z] at a2; exact ⟨o, rfl, a2⟩
  refine ⟨congrArg Prod.fst e, m1, fun p hp => (at_ p hp).1, fun p hp => ?_, fun p hp => ?_⟩
  · obtain ⟨_, o, z, y⟩ := at_ p hp
    exact He.frT_none z y
  · obtain ⟨_, o, z, y⟩ := at_ p hp
    rw [z, He.emptyTab_eq y]
def hkK : PySem.W.Hook where
  α := He.AlX
  obs := fun s => obsK s.heap.get?
  val := fun w => He.valX fn01 ts01 w
  says := fun w h => ∃ K : PySem.W.Frag, K.In h ∧ SaysK w h K
  of := fun _ _ e => ⟨_, He.frT_in, saysK e⟩
  keeps := fun _ _ _ ⟨K, hK, c⟩ k => ⟨K, PySem.W.Frag.In.keeps hK k, ⟨c.t, c.more, c.hd, c.out, fun p hp => k _ _ (c.empty p hp)⟩⟩
def obK (s : PySem.W.SharedT) : He.AlX := obsK (HandSHeadRun.getT s)
theorem obK_eq (s : PySem.W.SharedT) : obK s = hkK.obs s.abs := by
  have e : HandSHeadRun.getT s = s.abs.heap.get? := funext (HandSHeadRun.getT_eq s)
  show obsK _ = obsK _
  rw [e]
section
variable {P : Program} {w : World} {K : PySem.W.Frag} {mg : Str → Option Value} {base h : Heap}
theorem SaysK.fun_ (c : SaysK w h K) {d : He.DefD} {st : Stmt} (hm : d ∈ fn01) (hp : d.params = defArgs st) (hb : d.body = defBody st) (hs : d.scope = defScope st) (hd : d.dfl = []) : ∃ fd, Fun K d.name d.qual st (He.fAd K d.at_) fd := by
  obtain ⟨fd, F⟩ := c.t.d.defs hm
  obtain ⟨oc, od, dV, kV, doc, pm, an, cdv, ct, osl, e, lk, hcd, hD, _⟩ := F.ex
  have hdv : d.dvs K = [] := by
    unfold He.DefD.dvs
    rw [hd]
    rfl
  have e3 : dV = .none := by
    rcases hD with ⟨_, z⟩ | ⟨z, _⟩
    · exact z
    · exact absurd hdv z
  subst e3
  refine ⟨fd, ⟨oc, od, kV, doc, pm, an, cdv, ct, osl, ?_, lk, hcd⟩, F.kp⟩
  rw [e, hp, hb, hs]
theorem SaysK.is (c : SaysK w h K) {b : Bool} (i : Nat) (e : (exs01 K)[i]? = some b) : b = true := by
  have m : (exs01 K).all id = true := c.more
  exact List.all_eq_true.mp m b (List.mem_of_getElem? e)
theorem SaysK.fact (c : SaysK w h K) (i : Nat) {f : He.Fa} (e : fa01[i]? = some f) : f.ok K = true := c.t.d.facts (List.mem_of_getElem? e)
theorem SaysK.glo (c : SaysK w h K) (Kb : K.In base) (hm : base.Ns mainGlobals mg) (i : Nat) {x : Str} (e : fa01[i]? = some (.glo x)) : mg x = some (.ref (He.ga K x)) := He.glo_ok Kb hm (c.fact i e)
theorem SaysK.free (c : SaysK w h K) (Kb : K.In base) (hm : base.Ns mainGlobals mg) (i : Nat) {x : Str} (e : fa01[i]? = some (.free x)) : mg x = none := He.free_ok Kb hm (c.fact i e)
def tabsK (K : PySem.W.Frag) : List (Addr × Addr) := tf01.map fun p => He.cT K p
def TK (K : PySem.W.Frag) : List (Addr × Str) := []
theorem law_all (c : SaysK w h K) (Kb : K.In base) (hm : base.Ns mainGlobals mg) (TB : ∀ p ∈ tabsK K, TabB base mg p.1 p.2) : ∃ fd, Binds K fd ["script"] [] ∧ FnG P w K mg base CX0 26 (He.ga K "law") fd ["script"] (spLaw K) := by
  obtain ⟨v_is_list_d, v_is_list_F⟩ := c.fun_ (d := dDef "is_list" (top 11)) (st := top 11) (List.mem_of_getElem? (i := 0) rfl) rfl rfl rfl rfl
  have v_is_list_b : Binds K v_is_list_d ["value"] [] := Fun.binds v_is_list_F fun _ _ _ _ _ _ us hl => match us, hl with | [_], _ => rfl
  have v_is_list_g := c.glo Kb hm 0 (x := "is_list") rfl
  obtain ⟨v_is_count_d, v_is_count_F⟩ := c.fun_ (d := dDef "is_count" (top 12)) (st := top 12) (List.mem_of_getElem? (i := 1) rfl) rfl rfl rfl rfl
  have v_is_count_b : Binds K v_is_count_d ["value"] [] := Fun.binds v_is_count_F fun _ _ _ _ _ _ us hl => match us, hl with | [_], _ => rfl
  have v_is_count_g := c.glo Kb hm 1 (x := "is_count") rfl
  obtain ⟨v_is_test_d, v_is_test_F⟩ := c.fun_ (d := dDef "is_test" (top 13)) (st := top 13) (List.mem_of_getElem? (i := 2) rfl) rfl rfl rfl rfl
  have v_is_test_b : Binds K v_is_test_d ["test", "most"] [] := Fun.binds v_is_test_F fun _ _ _ _ _ _ us hl => match us, hl with | [_, _], _ => rfl
  have v_is_test_g := c.glo Kb hm 2 (x := "is_test") rfl
  obtain ⟨v_is_word_let_d, v_is_word_let_F⟩ := c.fun_ (d := dDef "is_word_let" (top 14)) (st := top 14) (List.mem_of_getElem? (i := 3) rfl) rfl rfl rfl rfl
  have v_is_word_let_b : Binds K v_is_word_let_d ["name", "block"] [] := Fun.binds v_is_word_let_F fun _ _ _ _ _ _ us hl => match us, hl with | [_, _], _ => rfl
  have v_is_word_let_g := c.glo Kb hm 3 (x := "is_word_let") rfl
  obtain ⟨v_is_set_d, v_is_set_F⟩ := c.fun_ (d := dDef "is_set" (top 15)) (st := top 15) (List.mem_of_getElem? (i := 4) rfl) rfl rfl rfl rfl
  have v_is_set_b : Binds K v_is_set_d ["statement"] [] := Fun.binds v_is_set_F fun _ _ _ _ _ _ us hl => match us, hl with | [_], _ => rfl
  have v_is_set_g := c.glo Kb hm 4 (x := "is_set") rfl
  obtain ⟨v_is_return_d, v_is_return_F⟩ := c.fun_ (d := dDef "is_return" (top 16)) (st := top 16) (List.mem_of_getElem? (i := 5) rfl) rfl rfl rfl rfl
  have v_is_return_b : Binds K v_is_return_d ["statement", "block"] [] := Fun.binds v_is_return_F fun _ _ _ _ _ _ us hl => match us, hl with | [_, _], _ => rfl
  have v_is_return_g := c.glo Kb hm 5 (x := "is_return") rfl
  obtain ⟨v_is_if_d, v_is_if_F⟩ := c.fun_ (d := dDef "is_if" (top 17)) (st := top 17) (List.mem_of_getElem? (i := 6) rfl) rfl rfl rfl rfl
  have v_is_if_b : Binds K v_is_if_d ["statement"] [] := Fun.binds v_is_if_F fun _ _ _ _ _ _ us hl => match us, hl with | [_], _ => rfl
  have v_is_if_g := c.glo Kb hm 6 (x := "is_if") rfl
  obtain ⟨v_is_statement_d, v_is_statement_F⟩ := c.fun_ (d := dDef "is_statement" (top 18)) (st := top 18) (List.mem_of_getElem? (i := 7) rfl) rfl rfl rfl rfl
  have v_is_statement_b : Binds K v_is_statement_d ["statement", "block"] [] := Fun.binds v_is_statement_F fun _ _ _ _ _ _ us hl => match us, hl with | [_, _], _ => rfl
  have v_is_statement_g := c.glo Kb hm 7 (x := "is_statement") rfl
  obtain ⟨v_number_of_statements_d, v_number_of_statements_F⟩ := c.fun_ (d := dDef "number_of_statements" (top 19)) (st := top 19) (List.mem_of_getElem? (i := 8) rfl) rfl rfl rfl rfl
  have v_number_of_statements_b : Binds K v_number_of_statements_d ["name", "block"] [] := Fun.binds v_number_of_statements_F fun _ _ _ _ _ _ us hl => match us, hl with | [_, _], _ => rfl
  have v_number_of_statements_g := c.glo Kb hm 8 (x := "number_of_statements") rfl
  obtain ⟨v_check_blocks_d, v_check_blocks_F⟩ := c.fun_ (d := dDef "check_blocks" (top 20)) (st := top 20) (List.mem_of_getElem? (i := 9) rfl) rfl rfl rfl rfl
  have v_check_blocks_b : Binds K v_check_blocks_d ["down", "turn", "up"] [] := Fun.binds v_check_blocks_F fun _ _ _ _ _ _ us hl => match us, hl with | [_, _, _], _ => rfl
  have v_check_blocks_g := c.glo Kb hm 9 (x := "check_blocks") rfl
  obtain ⟨v_frozen_d, v_frozen_F⟩ := c.fun_ (d := dDef "frozen" (top 21)) (st := top 21) (List.mem_of_getElem? (i := 10) rfl) rfl rfl rfl rfl
  have v_frozen_b : Binds K v_frozen_d ["value"] [] := Fun.binds v_frozen_F fun _ _ _ _ _ _ us hl => match us, hl with | [_], _ => rfl
  have v_frozen_g := c.glo Kb hm 10 (x := "frozen") rfl
  obtain ⟨v_law_pen_d, v_law_pen_F⟩ := c.fun_ (d := dDef "_law_pen" (top 51)) (st := top 51) (List.mem_of_getElem? (i := 11) rfl) rfl rfl rfl rfl
  have v_law_pen_b : Binds K v_law_pen_d ["script"] [] := Fun.binds v_law_pen_F fun _ _ _ _ _ _ us hl => match us, hl with | [_], _ => rfl
  have v_law_pen_g := c.glo Kb hm 11 (x := "_law_pen") rfl
  obtain ⟨v_law_draw_d, v_law_draw_F⟩ := c.fun_ (d := dDef "_law_draw" (top 52)) (st := top 52) (List.mem_of_getElem? (i := 12) rfl) rfl rfl rfl rfl
  have v_law_draw_b : Binds K v_law_draw_d ["pen", "many"] [] := Fun.binds v_law_draw_F fun _ _ _ _ _ _ us hl => match us, hl with | [_, _], _ => rfl
  have v_law_draw_g := c.glo Kb hm 12 (x := "_law_draw") rfl
  obtain ⟨v_law_pick_d, v_law_pick_F⟩ := c.fun_ (d := dDef "_law_pick" (top 53)) (st := top 53) (List.mem_of_getElem? (i := 13) rfl) rfl rfl rfl rfl
  have v_law_pick_b : Binds K v_law_pick_d ["pen", "some"] [] := Fun.binds v_law_pick_F fun _ _ _ _ _ _ us hl => match us, hl with | [_, _], _ => rfl
  have v_law_pick_g := c.glo Kb hm 13 (x := "_law_pick") rfl
  obtain ⟨v_law_test_d, v_law_test_F⟩ := c.fun_ (d := dDef "_law_test" (top 54)) (st := top 54) (List.mem_of_getElem? (i := 14) rfl) rfl rfl rfl rfl
  have v_law_test_b : Binds K v_law_test_d ["pen", "depth"] [] := Fun.binds v_law_test_F fun _ _ _ _ _ _ us hl => match us, hl with | [_, _], _ => rfl
  have v_law_test_g := c.glo Kb hm 14 (x := "_law_test") rfl
  obtain ⟨v_law_simple_d, v_law_simple_F⟩ := c.fun_ (d := dDef "_law_simple" (top 55)) (st := top 55) (List.mem_of_getElem? (i := 15) rfl) rfl rfl rfl rfl
  have v_law_simple_b : Binds K v_law_simple_d ["pen", "name"] [] := Fun.binds v_law_simple_F fun _ _ _ _ _ _ us hl => match us, hl with | [_, _], _ => rfl
  have v_law_simple_g := c.glo Kb hm 15 (x := "_law_simple") rfl
  obtain ⟨v_law_block_d, v_law_block_F⟩ := c.fun_ (d := dDef "_law_block" (top 56)) (st := top 56) (List.mem_of_getElem? (i := 16) rfl) rfl rfl rfl rfl
  have v_law_block_b : Binds K v_law_block_d ["pen", "name", "most", "depth"] [] := Fun.binds v_law_block_F fun _ _ _ _ _ _ us hl => match us, hl with | [_, _, _, _], _ => rfl
  have v_law_block_g := c.glo Kb hm 16 (x := "_law_block") rfl
  obtain ⟨v_law_known_d, v_law_known_F⟩ := c.fun_ (d := dDef "_law_known" (top 57)) (st := top 57) (List.mem_of_getElem? (i := 17) rfl) rfl rfl rfl rfl
  have v_law_known_b : Binds K v_law_known_d ["name"] [] := Fun.binds v_law_known_F fun _ _ _ _ _ _ us hl => match us, hl with | [_], _ => rfl
  have v_law_known_g := c.glo Kb hm 17 (x := "_law_known") rfl
  obtain ⟨v_law_routine_d, v_law_routine_F⟩ := c.fun_ (d := dDef "_law_routine" (top 58)) (st := top 58) (List.mem_of_getElem? (i := 18) rfl) rfl rfl rfl rfl
  have v_law_routine_b : Binds K v_law_routine_d ["pen"] [] := Fun.binds v_law_routine_F fun _ _ _ _ _ _ us hl => match us, hl with | [_], _ => rfl
  have v_law_routine_g := c.glo Kb hm 18 (x := "_law_routine") rfl
  obtain ⟨v_law_size_d, v_law_size_F⟩ := c.fun_ (d := dDef "_law_size" (top 59)) (st := top 59) (List.mem_of_getElem? (i := 19) rfl) rfl rfl rfl rfl
  have v_law_size_b : Binds K v_law_size_d ["block"] [] := Fun.binds v_law_size_F fun _ _ _ _ _ _ us hl => match us, hl with | [_], _ => rfl
  have v_law_size_g := c.glo Kb hm 19 (x := "_law_size") rfl
  obtain ⟨v_law_met_d, v_law_met_F⟩ := c.fun_ (d := dDef "_law_met" (top 60)) (st := top 60) (List.mem_of_getElem? (i := 20) rfl) rfl rfl rfl rfl
  have v_law_met_b : Binds K v_law_met_d ["blocks"] [] := Fun.binds v_law_met_F fun _ _ _ _ _ _ us hl => match us, hl with | [_], _ => rfl
  have v_law_met_g := c.glo Kb hm 20 (x := "_law_met") rfl
  obtain ⟨v_law_is_test_d, v_law_is_test_F⟩ := c.fun_ (d := dDef "_law_is_test" (top 61)) (st := top 61) (List.mem_of_getElem? (i := 21) rfl) rfl rfl rfl rfl
  have v_law_is_test_b : Binds K v_law_is_test_d ["value", "most"] [] := Fun.binds v_law_is_test_F fun _ _ _ _ _ _ us hl => match us, hl with | [_, _], _ => rfl
  have v_law_is_test_g := c.glo Kb hm 21 (x := "_law_is_test") rfl
  obtain ⟨v_law_is_right_d, v_law_is_right_F⟩ := c.fun_ (d := dDef "_law_is_right" (top 62)) (st := top 62) (List.mem_of_getElem? (i := 22) rfl) rfl rfl rfl rfl
  have v_law_is_right_b : Binds K v_law_is_right_d ["value", "name"] [] := Fun.binds v_law_is_right_F fun _ _ _ _ _ _ us hl => match us, hl with | [_, _], _ => rfl
  have v_law_is_right_g := c.glo Kb hm 22 (x := "_law_is_right") rfl
  obtain ⟨v_law_due_d, v_law_due_F⟩ := c.fun_ (d := dDef "_law_due" (top 63)) (st := top 63) (List.mem_of_getElem? (i := 23) rfl) rfl rfl rfl rfl
  have v_law_due_b : Binds K v_law_due_d ["blocks"] [] := Fun.binds v_law_due_F fun _ _ _ _ _ _ us hl => match us, hl with | [_], _ => rfl
  have v_law_due_g := c.glo Kb hm 23 (x := "_law_due") rfl
  obtain ⟨v_law_odd_d, v_law_odd_F⟩ := c.fun_ (d := dDef "_law_odd" (top 64)) (st := top 64) (List.mem_of_getElem? (i := 24) rfl) rfl rfl rfl rfl
  have v_law_odd_b : Binds K v_law_odd_d ["pen", "name"] [] := Fun.binds v_law_odd_F fun _ _ _ _ _ _ us hl => match us, hl with | [_, _], _ => rfl
  have v_law_odd_g := c.glo Kb hm 24 (x := "_law_odd") rfl
  obtain ⟨v_law_put_d, v_law_put_F⟩ := c.fun_ (d := dDef "_law_put" (top 65)) (st := top 65) (List.mem_of_getElem? (i := 25) rfl) rfl rfl rfl rfl
  have v_law_put_b : Binds K v_law_put_d ["pen", "block", "told"] [] := Fun.binds v_law_put_F fun _ _ _ _ _ _ us hl => match us, hl with | [_, _, _], _ => rfl
  have v_law_put_g := c.glo Kb hm 25 (x := "_law_put") rfl
  obtain ⟨v_law_as_lists_d, v_law_as_lists_F⟩ := c.fun_ (d := dDef "_law_as_lists" (top 66)) (st := top 66) (List.mem_of_getElem? (i := 26) rfl) rfl rfl rfl rfl
  have v_law_as_lists_b : Binds K v_law_as_lists_d ["value"] [] := Fun.binds v_law_as_lists_F fun _ _ _ _ _ _ us hl => match us, hl with | [_], _ => rfl
  have v_law_as_lists_g := c.glo Kb hm 26 (x := "_law_as_lists") rfl
  obtain ⟨v_law_d, v_law_F⟩ := c.fun_ (d := dDef "law" (top 67)) (st := top 67) (List.mem_of_getElem? (i := 27) rfl) rfl rfl rfl rfl
  have v_law_b : Binds K v_law_d ["script"] [] := Fun.binds v_law_F fun _ _ _ _ _ _ us hl => match us, hl with | [_], _ => rfl
  have v_law_g := c.glo Kb hm 27 (x := "law") rfl
  obtain ⟨x_TooMany_d, x_TooMany_F⟩ := c.fun_ (d := dMet "TooMany" "__init__" "TooMany.__init__" (inClass (top 2) 0)) (st := inClass (top 2) 0) (List.mem_of_getElem? (i := 28) rfl) rfl rfl rfl rfl
  have x_TooMany_g := c.glo Kb hm 32 (x := "TooMany") rfl
  obtain ⟨x_TooMany_1, x_TooMany_2⟩ := He.ba (c.is 5 rfl)
  unfold iniB at x_TooMany_2
  obtain ⟨x_TooMany_3, x_TooMany_4⟩ := He.ba x_TooMany_2
  obtain ⟨x_TooMany_5, x_TooMany_6⟩ := He.ba x_TooMany_4
  have x_TooMany_X : XR P w K mg base "TooMany" (He.ga K "TooMany") ["what", "many", "most"] := xr_TooMany x_TooMany_F (xB_ok x_TooMany_1) x_TooMany_g (of_decide_eq_true x_TooMany_3) (of_decide_eq_true x_TooMany_5) fun n hn => of_decide_eq_true (List.all_eq_true.mp x_TooMany_6 n hn)
  obtain ⟨x_BadStatement_d, x_BadStatement_F⟩ := c.fun_ (d := dMet "BadStatement" "__init__" "BadStatement.__init__" (inClass (top 3) 0)) (st := inClass (top 3) 0) (List.mem_of_getElem? (i := 29) rfl) rfl rfl rfl rfl
  have x_BadStatement_g := c.glo Kb hm 33 (x := "BadStatement") rfl
  obtain ⟨x_BadStatement_1, x_BadStatement_2⟩ := He.ba (c.is 6 rfl)
  unfold iniB at x_BadStatement_2
  obtain ⟨x_BadStatement_3, x_BadStatement_4⟩ := He.ba x_BadStatement_2
  obtain ⟨x_BadStatement_5, x_BadStatement_6⟩ := He.ba x_BadStatement_4
  have x_BadStatement_X : XR P w K mg base "BadStatement" (He.ga K "BadStatement") ["block", "number"] := xr_BadStatement x_BadStatement_F (xB_ok x_BadStatement_1) x_BadStatement_g (of_decide_eq_true x_BadStatement_3) (of_decide_eq_true x_BadStatement_5) fun n hn => of_decide_eq_true (List.all_eq_true.mp x_BadStatement_6 n hn)
  obtain ⟨m_Routine_init_d, m_Routine_init_F⟩ := c.fun_ (d := dMet "Routine" "__init__" "Routine.__init__" (inClass (top 49) 0)) (st := inClass (top 49) 0) (List.mem_of_getElem? (i := 30) rfl) rfl rfl rfl rfl
  have m_Routine_init_b : Binds K m_Routine_init_d ["self", "down", "turn", "up"] [] := Fun.binds m_Routine_init_F fun _ _ _ _ _ _ us hl => match us, hl with | [_, _, _, _], _ => rfl
  have f_isinstance := c.free Kb hm 35 (x := "isinstance") rfl
  have f_len := c.free Kb hm 36 (x := "len") rfl
  have f_tuple := c.free Kb hm 37 (x := "tuple") rfl
  have f_list := c.free Kb hm 38 (x := "list") rfl
  have f_bool := c.free Kb hm 39 (x := "bool") rfl
  have f_str := c.free Kb hm 40 (x := "str") rfl
  have f_sum := c.free Kb hm 41 (x := "sum") rfl
  have f_int := c.free Kb hm 42 (x := "int") rfl
  have f_abs := c.free Kb hm 43 (x := "abs") rfl
  have f_range := c.free Kb hm 44 (x := "range") rfl
  have f_min := c.free Kb hm 45 (x := "min") rfl
  have f_repr := c.free Kb hm 46 (x := "repr") rfl
  have f_zip := c.free Kb hm 47 (x := "zip") rfl
  have g_Routine := c.glo Kb hm 28 (x := "Routine") rfl
  have g_PLAIN_TESTS_statements := c.glo Kb hm 29 (x := "PLAIN_TESTS_statements") rfl
  have g_ANSWERS := c.glo Kb hm 30 (x := "ANSWERS") rfl
  have g_LET_IN := c.glo Kb hm 31 (x := "LET_IN") rfl
  have g_TooMany := c.glo Kb hm 32 (x := "TooMany") rfl
  have g_BadStatement := c.glo Kb hm 33 (x := "BadStatement") rfl
  have g_TreesError := c.glo Kb hm 34 (x := "TreesError") rfl
  have i_MOST_STATEMENTS := He.int_ok Kb hm (c.fact 48 (f := .int "MOST_STATEMENTS" 40) rfl)
  have i_MOST_TESTS := He.int_ok Kb hm (c.fact 49 (f := .int "MOST_TESTS" 6) rfl)
  have c_Routine := He.cls_ok (c.fact 50 (f := .cls "Routine") rfl)
  have n_Routine_down := He.noat_ok (c.fact 51 (f := .noat "Routine" "down") rfl)
  have n_Routine_turn := He.noat_ok (c.fact 52 (f := .noat "Routine" "turn") rfl)
  have n_Routine_up := He.noat_ok (c.fact 53 (f := .noat "Routine" "up") rfl)
  have k_Routine := He.mkr_ok (c.fact 54 (f := .mkr "Routine") rfl)
  have e_BadStatement_BadStatement := He.exm_ok (c.fact 55 (f := .exm "BadStatement" "BadStatement" true) rfl)
  have e_TooMany_BadStatement := He.exm_ok (c.fact 56 (f := .exm "TooMany" "BadStatement" false) rfl)
  have e_TooMany_TooMany := He.exm_ok (c.fact 57 (f := .exm "TooMany" "TooMany" true) rfl)
  have k_BadStatement_TreesError := of_decide_eq_true (c.is 1 rfl)
  have ex_0 := c.is 2 (b := He.tupB K "PLAIN_TESTS_statements" [.str "mark", .str "f", .str "x", .str "y", .str "root", .str "ends", .str "next", .str "p", .str "here", .str "true"]) rfl
  have ex_1 := c.is 3 (b := He.tupB K "ANSWERS" [.str "yes", .str "no", .str "node", .str "p"]) rfl
  have ex_2 := c.is 4 (b := letB K (He.ga K "LET_IN")) rfl
  have sys : ∃ o, K.lookup sysModules = some o := Option.isSome_iff_exists.mp (c.is 0 rfl)
  have hP : ∀ H, SqT K H (He.ga K "PLAIN_TESTS_statements") (plain10.map V.str) := fun H => He.tupB_ok ex_0 H
  have hA : ∀ H, SqT K H (He.ga K "ANSWERS") (ans4.map V.str) := fun H => He.tupB_ok ex_1 H
  have LI : LetIn K w (He.ga K "LET_IN") := letIn_ok ex_2 (by
    have e := congrArg Prod.snd c.t
    have e2 : [He.dicW K (He.ga K "LET_IN")] = [some (He.keysIn w.params letK)] := e
    injection e2)
  have X2 : Ex2 P w K mg base (He.ga K "BadStatement") (He.ga K "TooMany") (He.ga K "TreesError") := ⟨x_BadStatement_X, x_TooMany_X, g_TreesError, e_BadStatement_BadStatement, e_TooMany_BadStatement, e_TooMany_TooMany, k_BadStatement_TreesError⟩
  obtain ⟨tMS, gMS⟩ := i_MOST_STATEMENTS
  obtain ⟨tMT, gMT⟩ := i_MOST_TESTS
  have GL := ok_isL (P := P) (w := w) (base := base) v_is_list_F f_isinstance f_tuple f_list
  have GC := ok_isC (P := P) (w := w) (base := base) v_is_count_F f_isinstance f_bool f_int
  have GT := ok_tst v_is_test_F f_len g_PLAIN_TESTS_statements hP v_is_list_g v_is_list_F.kp GL v_is_list_b v_is_count_g v_is_count_F.kp GC v_is_count_b v_is_test_g v_is_test_b 7
  have GW := ok_wl (P := P) (base := base) v_is_word_let_F f_isinstance f_str g_LET_IN LI
  have GS := ok_set (P := P) (w := w) (base := base) v_is_set_F f_len f_isinstance f_bool
  have GR := ok_ret (P := P) (w := w) (base := base) v_is_return_F f_len g_ANSWERS hA
  have GIf := ok_if v_is_if_F f_len gMT v_is_list_g v_is_list_F.kp GL v_is_list_b v_is_test_g v_is_test_F.kp GT v_is_test_b
  have GSt := ok_st v_is_statement_F f_len v_is_list_g v_is_list_F.kp GL v_is_list_b v_is_word_let_g v_is_word_let_F.kp GW v_is_word_let_b v_is_set_g v_is_set_F.kp GS v_is_set_b v_is_return_g v_is_return_F.kp GR v_is_return_b v_is_if_g v_is_if_F.kp GIf v_is_if_b
  have GNu := ok_num v_number_of_statements_F x_BadStatement_X f_list v_is_list_g v_is_list_F.kp GL v_is_list_b v_is_statement_g v_is_statement_F.kp GSt v_is_statement_b
  have GCb := ok_cbX v_check_blocks_F x_TooMany_X f_sum gMS v_number_of_statements_g v_number_of_statements_F.kp GNu v_number_of_statements_b
  have GFz := ok_fz v_frozen_F f_tuple v_is_list_g v_is_list_F.kp GL v_is_list_b v_frozen_g v_frozen_b 20
  have GIn := ok_initX m_Routine_init_F c_Routine n_Routine_down n_Routine_turn n_Routine_up v_check_blocks_g v_check_blocks_F.kp GCb v_check_blocks_b v_frozen_g v_frozen_F.kp GFz v_frozen_b
  have GM := ok_met v_law_met_F X2 f_isinstance g_Routine k_Routine GIn m_Routine_init_b
  have GPen := ok_pen (P := P) (w := w) (base := base) v_law_pen_F f_list
  have GD := ok_draw (P := P) (w := w) (base := base) v_law_draw_F f_int f_len f_abs
  have GPk := ok_pick v_law_pick_F f_len v_law_draw_g v_law_draw_F.kp GD v_law_draw_b
  have GLt := ok_lt v_law_test_F v_law_draw_g v_law_draw_F.kp GD v_law_draw_b v_law_pick_g v_law_pick_F.kp GPk v_law_pick_b v_law_test_g v_law_test_b 4
  have GSi := ok_si v_law_simple_F v_law_draw_g v_law_draw_F.kp GD v_law_draw_b v_law_pick_g v_law_pick_F.kp GPk v_law_pick_b
  have GLb := ok_lb v_law_block_F f_range f_tuple v_law_draw_g v_law_draw_F.kp GD v_law_draw_b v_law_test_g v_law_test_F.kp GLt v_law_test_b v_law_simple_g v_law_simple_F.kp GSi v_law_simple_b v_law_block_g v_law_block_b 3
  have GKn := ok_kn (mg := mg) (P := P) (w := w) (base := base) v_law_known_F
  have GSz := ok_sz (P := P) (w := w) (base := base) v_law_size_F f_len f_sum v_law_size_g v_law_size_b 3
  have GAl := ok_al (P := P) (w := w) (base := base) v_law_as_lists_F f_isinstance f_tuple v_law_as_lists_g v_law_as_lists_b 13
  have GRo := ok_ro v_law_routine_F f_tuple f_sum f_len v_law_draw_g v_law_draw_F.kp GD v_law_draw_b v_law_pick_g v_law_pick_F.kp GPk v_law_pick_b v_law_known_g v_law_known_F.kp GKn v_law_known_b v_law_block_g v_law_block_F.kp GLb v_law_block_b v_law_size_g v_law_size_F.kp GSz v_law_size_b v_law_simple_g v_law_simple_F.kp GSi v_law_simple_b
  have GIt := ok_laT (P := P) (w := w) (base := base) v_law_is_test_F f_len f_isinstance f_tuple f_list f_str f_repr sys v_law_is_test_g v_law_is_test_b 7
  have GRi := ok_ri v_law_is_right_F f_len f_isinstance f_tuple f_list f_str f_repr sys v_law_is_test_g v_law_is_test_F.kp GIt v_law_is_test_b
  have GDu := ok_due v_law_due_F f_isinstance f_tuple f_list f_list f_zip v_law_is_right_g v_law_is_right_F.kp GRi v_law_is_right_b
  have GOd := ok_od v_law_odd_F f_range v_law_pick_g v_law_pick_F.kp GPk v_law_pick_b
  have GPu := ok_pu v_law_put_F f_len f_isinstance f_tuple v_law_draw_g v_law_draw_F.kp GD v_law_draw_b v_law_put_g v_law_put_b 5
  exact ⟨v_law_d, v_law_b, ok_law v_law_F f_range f_min f_len f_repr sys v_law_pen_g v_law_pen_F.kp GPen v_law_pen_b v_law_draw_g v_law_draw_F.kp GD v_law_draw_b v_law_pick_g v_law_pick_F.kp GPk v_law_pick_b v_law_routine_g v_law_routine_F.kp GRo v_law_routine_b v_law_as_lists_g v_law_as_lists_F.kp GAl v_law_as_lists_b v_law_met_g v_law_met_F.kp GM v_law_met_b v_law_due_g v_law_due_F.kp GDu v_law_due_b v_law_odd_g v_law_odd_F.kp GOd v_law_odd_b v_law_put_g v_law_put_F.kp GPu v_law_put_b⟩
end
end SK
namespace SK
open PySem PySem.Spec PyProof.Rows L2 LamX NdefX
abbrev RR : PySem.W.OpenRow := PySem.W.OpenLaw.row PySem.Challenge.rw_lettertrees_k01_routines_refused
def namesK : List Str := [("TreesError" : Str), ("TooMany" : Str), ("BadStatement" : Str), ("BadText" : Str), ("MOST_STATEMENTS" : Str), ("MOST_TESTS" : Str), ("PLAIN_TESTS_statements" : Str), ("ANSWERS" : Str), ("LET_IN" : Str), ("is_list" : Str), ("is_count" : Str), ("is_test" : Str), ("is_word_let" : Str), ("is_set" : Str), ("is_return" : Str), ("is_if" : Str), ("is_statement" : Str), ("number_of_statements" : Str), ("check_blocks" : Str), ("frozen" : Str), ("names_in_test" : Str), ("names_in_statement" : Str), ("names_in_block" : Str), ("LINES" : Str), ("PLAIN_TESTS_writing" : Str), ("BLANKS" : Str), ("line_of" : Str), ("plain_text" : Str), ("test_text" : Str), ("inner_text" : Str), ("if_lines" : Str), ("block_lines" : Str), ("routine_lines" : Str), ("BLOCKS" : Str), ("HEADS" : Str), ("last_outside" : Str), ("is_in_brackets" : Str), ("rough_test" : Str), ("rough_inner" : Str), ("read_test" : Str), ("test_of_line" : Str), ("Reader" : Str), ("first_unlike" : Str), ("read_blocks" : Str), ("Routine" : Str), ("_law_pen" : Str), ("_law_draw" : Str), ("_law_pick" : Str), ("_law_test" : Str), ("_law_simple" : Str), ("_law_block" : Str), ("_law_known" : Str), ("_law_routine" : Str), ("_law_size" : Str), ("_law_met" : Str), ("_law_is_test" : Str), ("_law_is_right" : Str), ("_law_due" : Str), ("_law_odd" : Str), ("_law_put" : Str), ("_law_as_lists" : Str)]
theorem runF (w : World) : HandSHeadRun.RunEq RR (PySem.W.view RR.prog [67]) hkK obK 9000 namesK (w.withFollow "special-get-raises" false) := by
  intro os
  kernel_rfl
theorem runT (w : World) : HandSHeadRun.RunEq RR (PySem.W.view RR.prog [67]) hkK obK 9000 namesK (w.withFollow "special-get-raises" true) := by
  intro os
  kernel_rfl
theorem runK (w : World) : HandSHeadRun.RunEq RR (PySem.W.view RR.prog [67]) hkK obK 9000 namesK w := PySem.W.byRow2 "special-get-raises" (P := fun w => HandSHeadRun.RunEq RR (PySem.W.view RR.prog [67]) hkK obK 9000 namesK w) runF runT w
end SK
open PySem PySem.W PySem.Calls PyProof.Rows
theorem PySem.Challenge.cw_lettertrees_k01_routines_refused_holds : PySem.Challenge.rw_lettertrees_k01_routines_refused.Holds := by
  w_on; o_law
  refine HandSHeadRun.head_any (r := SK.RR) (q := view SK.RR.prog [67]) (H := SK.hkK) (ob := SK.obK) (M := 9000) (loose := SK.namesK) (d := HandSHeadRun.topDef SK.RR.prog 67) (kwd := []) SK.obK_eq
    (by kernel_rfl) (fun s => by kernel_rfl) SK.runK (by kernel_rfl) (by kernel_rfl) (by kernel_rfl) (by rfl) (by first | assumption | decide +kernel) (by decide +kernel) ⟨rfl, rfl, rfl, rfl, rfl, by decide +kernel⟩ ?hw ?hc
  case hw => w_witness2
  case hc =>
    refine Att.attach_call (l := PySem.Challenge.rw_lettertrees_k01_routines_refused) (n := 63) rfl (by kernel_rfl) fun w s₀ s₁ mg mb fa o pm cd doc a vs ns G Y ho hd hcd hmg hobj hints hlen hg => ?_
    obtain ⟨K, KX, c⟩ := Y
    have hl : mg ("law" : PySem.Str) = some (.ref (He.ga K "law")) := SK.SaysK.glo c KX G.T.g 27 rfl
    have hmg' : mg ("law" : PySem.Str) = some (.ref fa) := by
      have e : (HandSHeadRun.topDef SK.RR.prog 67).name = ("law" : PySem.Str) := by kernel_rfl
      rw [← e]
      exact hmg
    rw [hmg'] at hl
    have ef : fa = He.ga K "law" := Value.ref.inj (Option.some.inj hl)
    rw [ef]
    have mem : ∀ P ∈ (SK.tabsK K).map (·.2), ∃ p ∈ SK.tf01, (He.cT K p).2 = P := fun P hP => by
      obtain ⟨q, hq, rfl⟩ := List.mem_map.mp hP
      obtain ⟨p, hp, rfl⟩ := List.mem_map.mp hq
      exact ⟨p, hp, rfl⟩
    refine SK.run_lawG (ps := SK.tabsK K) (T := SK.TK K) (K := K) (mg := mg) (mb := mb) (fun base Kb hm TB => SK.law_all c Kb hm TB) ⟨rfl, by decide, by decide⟩ (fun H a ns h1 h2 h3 => ⟨a, ns, rfl, h1, h2, fun _ => rfl⟩) ?_ KX G.T.g G.T.b G.T.builtins G.T.nolimit hg (fun P hP => ?_) (fun P hP => ?_) (fun p hp => ?_) G.T.bmain hobj hints hlen
    · intro p hp
      simp only [SK.TK, List.mem_cons, List.mem_nil_iff, or_false] at hp
      skip
    · obtain ⟨p, hp, rfl⟩ := mem P hP
      exact c.empty p hp
    · obtain ⟨p, hp, rfl⟩ := mem P hP
      exact c.out p hp
    · obtain ⟨q, hq, rfl⟩ := List.mem_map.mp hp
      exact codeHd_of_K KX (c.hd q hq)
