import PyProof.Rows.All
import Wide.All
import OpenK.AllK
import Wide.FinOn
import HandS.ForSpec
import HandS.ExcInit
import KE.KExcIs
import HandS.IsInst
import HandS.ExcValue
import HandS.Dict
import HandS.SortKw
import KE.SortKeyHeap
import KE.SortCalls
import HandS.Comp
import HandS.Iter
import HandS.Nested
import HandS.Walk
import HandS.DictComp
import KE.GoesMore
import KE.GoesEnum
import HandS.Text
import HandS.Style
import HandS.WordsDict
import PyProof.StrLaws
import HandS.Strs
import HandS.SetTxt0
import HandS.Steps
import HandS.Conv
import PyProof.ListStr
import HandS.More
import PyProof.ReprLen
import HandS.EndTab
import KE.KStateDown
import Lean
import HandS.Defaults
import HandS.Head0
import HandS.Head1
import HandS.Head2
import HandS.HeadEnd
import HandS.HeadHook4
import PySem.Challenge.RW_lettertrees_k28_cells_of_ways
set_option Elab.async false
set_option linter.all false
set_option maxRecDepth 100000
set_option maxHeartbeats 0
/-! ### calls of an own exception class with keywords: the boot's __new__ takes any, the own __init__ gets them -/
namespace K0
open PySem PySem.W PySem.Calls PySem.HandSPX
section
variable {M : Model} {A : Around} {E : Value → Shared → Prop} {h : Heap} {g : Array GenState} {d : Drawn} {t : Nat} {os : OsState}
variable {nm q : Str} {C N : Addr} {bs bm bmB : List Value} {hdct : Bool} {sn : List Str} {sub : List Value} {ab : Bool} {col : Option Bool} {dd : Option Addr}
variable {k0 k1 k2 k3 k5 : Option Value} {B newId initId : String}

theorem kw_check_new (F : ExcBaseFacts B newId initId bmB) (hT : ∀ X : String, bm.contains (.type X) = bmB.contains (.type X)) {rest : List Value} {kw : List (Str × Value)} {Q : Unit → Shared → Prop}
    (hC : h.get? C = some (excClassObj nm q C N bs bm hdct sn sub ab col dd k0 k1 k2 k3 k5 newId)) (hq : Q () ⟨h, g, d, t, os⟩) :
    wpAny M A (checkBuiltinCall newId ⟨.ref C :: rest, kw⟩) Q E ⟨h, g, d, t, os⟩ := by
  have hB : (Value.ref C :: bm).contains (.type B) = true := by
    rw [List.contains_cons, hT, F.hasB, Bool.or_true]
  have hs := F.noStar
  simp only [checkBuiltinCall, F.newKind, F.newSplit, F.newRow]
  repeat
    first
    | refine wpAny_loadPart_at hC ?_
    | (refine wpAny_isSubtype_exc hC ?_
       rw [hB])
    | refine wpAny_staticBase_exc hC ?_
    | refine wpAny_madeBy_exc hC ?_
    | simp only [bne_self_eq_false, Bool.false_eq_true, if_false]
    | wp_step
  exact hq
end
section
variable {prog : Program} {w : World} {A : Around} {E : Value → Shared → Prop} {R : Result → Shared → Prop} {h : Heap} {g : Array GenState} {d : Drawn} {t : Nat} {os : OsState}
variable {nm q : Str} {C N : Addr} {bs bm bmB : List Value} {hdct : Bool} {sn : List Str} {sub : List Value} {ab : Bool} {col : Option Bool} {dd : Option Addr}
variable {k0 k1 k2 k3 k5 : Option Value} {B newId initId : String}

/-- the heap with a new exception of the class at C, its args behind it -/
abbrev twoMore (h : Heap) (C : Addr) (rest : List Value) : Heap := (h.push (W.kdv_tup rest)).push (excO C h.objs.size)

theorem kw_new (F : ExcBaseFacts B newId initId bmB) (hT : ∀ X : String, bm.contains (.type X) = bmB.contains (.type X)) {rest : List Value} {kw : List (Str × Value)}
    (hC : h.get? C = some (excClassObj nm q C N bs bm hdct sn sub ab col dd k0 k1 k2 k3 k5 newId))
    (hq : R (.ok (.ret (.ref (h.objs.size + 1)))) ⟨twoMore h C rest, g, d, t, os⟩) (hz : rest.length ≤ sizeLine) :
    codeAny (model prog w) A (.builtin newId ⟨.ref C :: rest, kw⟩) R ⟨h, g, d, t, os⟩ := by
  have e0 := F.ends
  have cB : (Value.ref C :: bm).contains (.type B) = true := by
    rw [List.contains_cons, hT, F.hasB, Bool.or_true]
  have cA : (Value.ref C :: bm).contains (.type "AttributeError") = false := by
    rw [List.contains_cons, hT, F.noAttr] <;> rfl
  have cN : (Value.ref C :: bm).contains (.type "NameError") = false := by
    rw [List.contains_cons, hT, F.noName] <;> rfl
  refine codeAny_builtinAt F.entry ?_
  unfold Builtin.«BaseException.__new__»
  refine wpAt_bind ?_
  show wpAt _ _ _ (stack >>= _) _ _ _
  refine wpAt_bind (wpAt_stack fun p below => wpAt_of_wpAny ?_)
  wp_walk
  refine wpAt_of_wpAny ?_
  rw [F.owner]
  repeat
    first
    | with_reducible refine wpAny_madeHere_exc F.canon hC ?_
    | with_reducible refine wpAny_loadPart_at hC ?_
    | (with_reducible refine wpAny_isSubtype_exc hC ?_
       first | rw [cB] | rw [cA] | rw [cN])
    | wp_step
  show R _ _
  rw [Heap.size_push]
  exact hq

theorem kw_typeCall (F : ExcBaseFacts B newId initId bmB) (hT : ∀ X : String, bm.contains (.type X) = bmB.contains (.type X)) {rest : List Value} {kw : List (Str × Value)} {fI : Addr} {Q : Fin → Shared → Prop}
    (hC : h.get? C = some (excClassObj nm q C N bs bm hdct sn sub ab col dd k0 k1 k2 k3 k5 newId))
    (hi : W.Looks (model prog w) h (typeLookup (.ref C) "__init__") (some (.ref fI))) (hb : ∀ self, W.Looks (model prog w) h (bindSpecial (.ref fI) self) (.ref fI, [self])) (hz : rest.length ≤ sizeLine)
    (hq : codeAny (model prog w) A (.call (.ref fI) ⟨.ref (h.objs.size + 1) :: rest, kw⟩)
      (fun r s' => match r with | .ok (.ret v) => v = .none ∧ Q (.done (.ret (.ref (h.objs.size + 1)))) s' | .ok _ => False | .error e => E e s') ⟨twoMore h C rest, g, d, t, os⟩) :
    wpAny (model prog w) A (Builtin.«type.__call__» ⟨.ref C :: rest, kw⟩) Q E ⟨h, g, d, t, os⟩ := by
  repeat
    first
    | with_reducible refine wpAny_loadPart_at hC ?_
    | with_reducible refine wpAny_madeBy_exc hC ?_
    | wp_step
  refine codeAny_call_builtin_code (Code.quiet_builtin _ F.quiet) (kw_check_new F hT hC ?_)
  refine kw_new F hT hC ?_ hz
  show wpAny _ _ _ _ _ _
  have k : ∀ b o, h.get? b = some o → (twoMore h C rest).get? b = some o := fun b o e => Heap.get?_push_of_some _ (Heap.get?_push_of_some _ e)
  have hC1 := k _ _ hC
  have hx : (twoMore h C rest).get? (h.objs.size + 1) = some (excO C h.objs.size) := by heap_get
  have cC : (Value.ref C :: bm).contains (.ref C) = true := by simp
  have i1 := hi.keeps k
  have b1 := (hb (.ref (h.objs.size + 1))).keeps k
  unfold isInstance
  repeat
    first
    | with_reducible refine wpAny_loadPart_at hx ?_
    | (with_reducible refine wpAny_isSubtype_exc hC1 ?_
       rw [cC])
    | wp_step
  show wpAny _ _ (typeLookup (.ref C) _) _ _ _
  refine i1.at ?_
  refine wpAny_holding (wpAny_bind (b1.at ?_))
  refine wpAny_bind (wpAny_call (codeAny_mono hq fun r s' z => ?_))
  cases r with
  | error e => exact z
  | ok f =>
    cases f with
    | ret v =>
      obtain ⟨rfl, z⟩ := z
      first
      | exact wpAny_pure (wpAny_pure z)
      | (wp_walk
         exact z)
    | next => exact z.elim
    | brk => exact z.elim
    | cont => exact z.elim

theorem kw_checkCall {M : Model} {rest : List Value} {kw : List (Str × Value)} {Q : Unit → Shared → Prop} (hC : h.get? C = some (excClassObj nm q C N bs bm hdct sn sub ab col dd k0 k1 k2 k3 k5 newId))
    (hq : Q () ⟨h, g, d, t, os⟩) : wpAny M A (checkBuiltinCall "type.__call__" ⟨.ref C :: rest, kw⟩) Q E ⟨h, g, d, t, os⟩ := by
  have e3 := tc_sub
  have ty : (⟨h, g, d, t, os⟩ : Shared).TypeIs (.ref C) "type" := ⟨_, hC, rfl⟩
  simp only [checkBuiltinCall, tc_kind, tc_split]
  repeat (any_goals (first
    | assumption
    | with_reducible refine wpAny_loadPart_at hC ?_
    | with_reducible refine wpAny_onRaise ?_
    | with_reducible refine wpAny_map ?_
    | wp_step))

theorem kw_call (F : ExcBaseFacts B newId initId bmB) (hT : ∀ X : String, bm.contains (.type X) = bmB.contains (.type X)) {rest : List Value} {kw : List (Str × Value)} {fI : Addr}
    (hC : h.get? C = some (excClassObj nm q C N bs bm hdct sn sub ab col dd k0 k1 k2 k3 k5 newId))
    (hi : W.Looks (model prog w) h (typeLookup (.ref C) "__init__") (some (.ref fI))) (hb : ∀ self, W.Looks (model prog w) h (bindSpecial (.ref fI) self) (.ref fI, [self])) (hz : rest.length ≤ sizeLine)
    (hq : codeAny (model prog w) (A.under (.builtin "type.__call__" ⟨.ref C :: rest, kw⟩)) (.call (.ref fI) ⟨.ref (h.objs.size + 1) :: rest, kw⟩) (W.InitBack (h.objs.size + 1) R) ⟨twoMore h C rest, g, d, t, os⟩) :
    codeAny (model prog w) A (.call (.ref C) ⟨rest, kw⟩) R ⟨h, g, d, t, os⟩ := by
  have f1 := tc_lookup
  have f2 := tc_bind (.ref C)
  have ty : (⟨h, g, d, t, os⟩ : Shared).TypeIs (.ref C) "type" := ⟨_, hC, rfl⟩
  refine codeAny_of_tree ?_
  show wpAny _ _ (callAny (.ref C) _) _ _ _
  repeat (any_goals (first
    | assumption
    | with_reducible refine wpAny_loadPart_at hC ?_
    | wp_step))
  refine ⟨rfl, ?_⟩
  refine codeAny_call_builtin_at (Code.quiet_builtin _ (by decide +kernel)) entry_typeCall (kw_checkCall hC (kw_typeCall F hT hC hi hb hz ?_))
  refine codeAny_mono hq fun r s' z => ?_
  cases r with
  | error e => exact z
  | ok f => cases f <;> exact z
end
end K0
namespace K0
open PySem PySem.Spec PyProof.Rows L2
abbrev St := L2.St
section
variable {X : Cx} {pins : List (Addr × Obj)} {σ : St} {H H' : Hp} {s : Shared}
/-- things told by what is true of their one object may be forgotten -/
theorem forget (I : Inv X pins σ H' s) (sub : ∀ b o, H b = some o → H' b = some o) (ext : ∀ b o, H' b = some o → H b = some o ∨ ∃ φ, o = HO.ext φ) : Inv X pins σ H s := by
  have fr : ∀ b, H' b = none → H b = none := fun b n => by
    cases q : H b with
    | none => rfl
    | some o =>
      rw [sub b o q] at n
      cases n
  have back : ∀ b o, H' b = some o → (∀ φ, o ≠ HO.ext φ) → H b = some o := fun b o q n => by
    rcases ext b o q with z | ⟨φ, z⟩
    · exact z
    · exact absurd z (n φ)
  refine ⟨I.ok, I.os, I.bare, ⟨I.base.keep, I.base.slot, fun b o e n hx => fr b (I.base.free b o e n hx), I.base.there, fun b xs q => ?_, fun b o u q => ?_, fun b ps q => ?_⟩, I.loc, I.cell, fr _ I.free, fun x c e => fr c (I.freeC x c e), fun p hp => ?_, fun b o q => ?_, I.len⟩
  · exact back b _ (I.base.tups b xs q) (fun φ z => nomatch z)
  · exact back b _ (I.base.frzs b o u q) (fun φ z => nomatch z)
  · obtain ⟨m, z⟩ := I.base.tbls b ps q
    exact ⟨m, back b _ z (fun φ z => nomatch z)⟩
  · obtain ⟨h1, h2, h3, h4, h5⟩ := I.pin p hp
    exact ⟨h1, fr _ h2, h3, h4, h5⟩
  · exact (I.hok b o (sub b o q)).stay (fun c v _ z => z) (fun c z => back c _ z (fun φ z => nomatch z)) fun c xs z => back c _ z (fun φ z => nomatch z)
end

/-! ### an exception of an own class with its own __init__ -/
structure XCl (K : PySem.W.Frag) (C : Addr) : Prop where
  T : OexC K C
  ga : PySem.W.findIn K (.ref C) "__getattribute__" = some (some (.builtin "BaseException.__getattribute__"))
  gg : PySem.W.findIn K (.ref C) "__getattr__" = some none
  hd : PySem.W.hasDictIn K C = true
  ha : PySem.W.findIn K (.ref C) "__class__" = some (some (.builtin "object.__class__"))
  hn : PySem.W.specialIn K (.builtin "object.__class__") "__get__" = some (some (.builtin "getset_descriptor.__get__"))
  ht : PySem.W.takesIn K (.builtin "object.__class__") = some true
  hm : PySem.W.mroIn K C (.type "object") = some true
/-- the heap with an exception of C at a, its dict of the fields fs at dx -/
abbrev withX (H : Hp) (C a dx : Addr) (fs : List (Str × V)) : Hp := upd (upd H dx (exd dx fs)) a (exo a C (some dx))
/-- what such an __init__ does: the fields fs get the arguments -/
def spX (C : Addr) (fs : List Str) : Sp := fun vs H Q _ => ∃ (a : Addr) (ys : List V), vs = .ref a :: ys ∧ ys.length = fs.length ∧ H a = some (exo a C none) ∧
  ∀ dx, H dx = none → dx ≠ a → Q .non (withX H C a dx (fs.zip ys).reverse)
theorem withX_sub {H : Hp} {C a dx : Addr} {fs : List (Str × V)} (ha : H a = none) (hd : H dx = none) : ∀ b o, H b = some o → withX H C a dx fs b = some o := fun b o e => by
  show upd (upd H dx _) a _ b = some o
  rw [upd_ne (ne_of_none e ha), upd_ne (ne_of_none e hd)]
  exact e
theorem withX_ext {H : Hp} {C a dx : Addr} {fs : List (Str × V)} : ∀ b o, withX H C a dx fs b = some o → H b = some o ∨ ∃ φ, o = HO.ext φ := fun b o e => by
  have e' : upd (upd H dx (exd dx fs)) a (exo a C (some dx)) b = some o := e
  by_cases hb : b = a
  · subst hb
    rw [upd_same] at e'
    exact .inr ⟨_, (Option.some.inj e').symm⟩
  · rw [upd_ne hb] at e'
    by_cases hd : b = dx
    · subst hd
      rw [upd_same] at e'
      exact .inr ⟨_, (Option.some.inj e').symm⟩
    · rw [upd_ne hd] at e'
      exact .inl e'
section
variable {X : Cx} {k : Nat} {f C : Addr} {fd : FuncData} {ps : List Str} {sp : Sp}
theorem run_mx {pins : List (Addr × Obj)} {σ : St} {H : Hp} {s : Shared} {Q : VK} {us args : List Value} {kw : List (Str × Value)} {vs : List V} (T : OexC X.K C) (iC : PySem.W.findIn X.K (.ref C) "__init__" = some (some (.ref f)))
    (tI : PySem.W.typeIn X.K (.ref f) = some (.type "function")) (F : FnOk X.prog X.w X.K X.mg X.base CX0 k f fd ps sp) (hr : Room (k + 1) X.A)
    (hb : ∀ (s : Shared) (self : Value), X.K.In s.heap → BindsTo s fd ⟨self :: us, kw⟩ (ps.zip (self :: args))) (I : Inv X pins σ H s) (hz : us.length ≤ sizeLine) (r : Vals vs args)
    (h : ∀ a, H a = none → sp (.ref a :: vs) (upd H a (exo a C none)) (fun v H2 => v = .non ∧ Q (.ref a) H2) E0) :
    wpAny (model X.prog X.w) X.A (call (.ref C) us kw) (EP X pins σ Q) X.xe s := by
  obtain ⟨nm, q, N, bs, bm, sn, sub, ab, col, dd, k0, k1, k2, k3, k5, hC, hbm⟩ := T.cls
  obtain ⟨hp, g, dr, tk, os⟩ := s
  have up : hp.objs.size ≤ hp.objs.size + 1 := Nat.le_succ _
  have hq := h (hp.objs.size + 1) (I.hok.fresh up)
  have keep : ∀ b o, hp.get? b = some o → (twoMore hp C us).get? b = some o := fun b o e => Heap.get?_push_of_some _ (Heap.get?_push_of_some _ e)
  have there : (twoMore hp C us).get? (hp.objs.size + 1) = some (PySem.HandSPX.excO C hp.objs.size) := by heap_get
  have I2 : Inv X pins σ (upd H (hp.objs.size + 1) (exo (hp.objs.size + 1) C none)) ⟨twoMore hp C us, g, dr, tk, os⟩ := I.laid (t' := tk) keep up (exo_ok there)
  have r2 : Vals (V.ref (hp.objs.size + 1) :: vs) (Value.ref (hp.objs.size + 1) :: args) := .cons rfl r
  refine wpAny_call (kw_call PySem.F.excBase_ValueError (fun Y => PySem.HandSPX.refsVE_contains Y bm hbm) (I.kIn _ _ hC) (PySem.W.looks_findIn I.kIn iC) (fun self => PySem.W.bind_fn I.kIn self tI) hz
    (codeAny_mono (F.run _ X.stack _ _ ⟨Value.ref (hp.objs.size + 1) :: us, kw⟩ _ _ _ E0 (hr.make C us kw) (I2.env0.make C us kw) (hb _ _ I2.kIn) r2 hq) fun r s' hq' => ?_))
  cases r with
  | error er => exact hq'.elim
  | ok fl =>
    cases fl with
    | ret u =>
      obtain ⟨v, H3, I3, rv, ev, q3⟩ := I2.after hq'
      subst ev
      exact ⟨rv, ⟨V.ref (hp.objs.size + 1), H3, I3, rfl, q3⟩⟩
    | next => exact False.elim hq'
    | brk => exact False.elim hq'
    | cont => exact False.elim hq'
/-- the class made, its fields kept: as a value -/
theorem run_mv {fs : List Str} {pins : List (Addr × Obj)} {σ : St} {H : Hp} {s : Shared} {Q : VK} {us args : List Value} {kw : List (Str × Value)} {vs : List V} (T : OexC X.K C) (iC : PySem.W.findIn X.K (.ref C) "__init__" = some (some (.ref f)))
    (tI : PySem.W.typeIn X.K (.ref f) = some (.type "function")) (F : FnOk X.prog X.w X.K X.mg X.base CX0 k f fd ps (spX C fs)) (hr : Room (k + 1) X.A)
    (hb : ∀ (s : Shared) (self : Value), X.K.In s.heap → BindsTo s fd ⟨self :: us, kw⟩ (ps.zip (self :: args))) (I : Inv X pins σ H s) (hz : us.length ≤ sizeLine) (r : Vals vs args) (hl : vs.length = fs.length)
    (h : ∀ a dx, H a = none → H dx = none → dx ≠ a → Q (.ref a) (withX H C a dx (fs.zip vs).reverse)) :
    wpAny (model X.prog X.w) X.A (call (.ref C) us kw) (EP X pins σ Q) X.xe s := by
  refine run_mx T iC tI F hr hb I hz r fun a na => ⟨a, vs, rfl, hl, upd_same, fun dx nd ne => ⟨rfl, ?_⟩⟩
  have nd' : H dx = none := by
    rw [upd_ne ne] at nd
    exact nd
  have e : withX (upd H a (exo a C none)) C a dx (fs.zip vs).reverse = withX H C a dx (fs.zip vs).reverse := by
    funext b
    show upd (upd (upd H a _) dx _) a _ b = upd (upd H dx _) a _ b
    by_cases hb : b = a
    · rw [hb, upd_same, upd_same]
    · rw [upd_ne hb, upd_ne hb]
      by_cases hd : b = dx
      · rw [hd, upd_same, upd_same]
      · rw [upd_ne hd, upd_ne hd, upd_ne hb]
  rw [e]
  exact h a dx na nd' ne
end
end K0
namespace K0
open PySem PySem.Spec PyProof.Rows L2
section
variable {X : Cx} {k : Nat} {f C : Addr} {fd : FuncData} {ps : List Str} {fs : List Str} {x n : Str} {e : Expr} {es : List Expr} {ta : TA} {te : TE} {p pos pos' : Pos} {kws : List Keyword}
/-- what the top says of such a class and its __init__ -/
structure XMk (X : Cx) (x : Str) (C : Addr) (fs : List Str) : Prop where
  cl : XCl X.K C
  gC : X.mg x = some (.ref C)
  ini : ∃ f fd k, PySem.W.findIn X.K (.ref C) "__init__" = some (some (.ref f)) ∧ PySem.W.typeIn X.K (.ref f) = some (.type "function") ∧ FnOk X.prog X.w X.K X.mg X.base CX0 k f fd (("self" : Str) :: fs) (spX C fs) ∧ Room (k + 1) X.A ∧
    (∀ (s : Shared) (self : Value) (us : List Value), us.length = fs.length → BindsTo s fd ⟨self :: us, []⟩ ((("self" : Str) :: fs).zip (self :: us))) ∧
    (∀ (s : Shared) (self : Value) (us : List Value), us.length = fs.length → BindsTo s fd ⟨[self], fs.zip us⟩ ((("self" : Str) :: fs).zip (self :: us)))
/-- C(e, ..) : whatever is asked of the arguments and the heap there, the new exception stands behind it -/
structure PX (X : Cx) (e : Expr) (C : Addr) (fs : List Str) (ta : TA) : Prop where
  run : ∀ (pins : List (Addr × Obj)) (s : Shared) (σ : St) (H : Hp) (P : List V → Hp → Prop), Inv X pins σ H s → (ta σ H fun vs H1 => vs.length = fs.length ∧ vs.length ≤ 1000 ∧ P vs H1) →
    wpAny (model X.prog X.w) X.A (eval e X.env) (fun u s1 => ∃ (vs : List V) (H1 : Hp) (a dx : Addr), u = .ref a ∧ H1 a = none ∧ H1 dx = none ∧ dx ≠ a ∧ Inv X pins σ (withX H1 C a dx (fs.zip vs).reverse) s1 ∧ P vs H1) X.xe s
theorem us_small {vs : List V} {us : List Value} (r : Vals vs us) (h : vs.length ≤ 1000) : us.length ≤ sizeLine := by
  rw [← Paired.length r, sizeLine_eq]
  omega
theorem px_pos (M : XMk X x C fs) (hg : Gl X x) (ha : PA X (e :: es) ta) (hdb : (x == ("__debug__" : Str)) = false := by decide)
    (he : starEach (e :: es) X.env = (false, eval e X.env) :: starEach es X.env := by rfl) (hpl : (backTo pos (starEach es X.env)).any (·.1) = false := by rfl) :
    PX X (.Call (.Name x p) (e :: es) [] pos) C fs ta := by
  refine ⟨fun pins s σ H P I h => ?_⟩
  obtain ⟨f, fd, k, iC, tI, F, hr, b1, _⟩ := M.ini
  refine wpAny_Call_Name_kw (ld_glob I hg M.gC ?_ hdb)
  refine PySem.W.callWith_K (h₀ := X.base) I.ok.mod.kin M.cl.T.kC (thn (ha.run pos pins s σ H _ I h) fun us s1 ⟨vs, H1, I1, r, hl, hz, q⟩ => ⟨I1.kIn, ?_⟩) he hpl
  refine thn (run_mv (fs := fs) (Q := fun v H2 => ∃ a dx, v = .ref a ∧ H1 a = none ∧ H1 dx = none ∧ dx ≠ a ∧ H2 = withX H1 C a dx (fs.zip vs).reverse) M.cl.T iC tI F hr (fun s self _ => b1 s self us (r.length.symm.trans hl)) I1 (us_small r hz) r hl
    fun a dx na nd ne => ⟨a, dx, rfl, na, nd, ne, rfl⟩) fun u s2 ⟨v, H2, I2, rv, a, dx, ev, na, nd, ne, eH⟩ => ?_
  subst ev eH
  exact ⟨vs, H1, a, dx, rv, na, nd, ne, I2, q⟩
theorem px_kw (M : XMk X x C fs) (hg : Gl X x) (hkw : PK X kws ta) (hall : (backToKw pos (keywordEach kws X.env)).all (·.1.isSome) = true := by rfl) (hks : (backToKw pos (keywordEach kws X.env)).filterMap (·.1) = fs := by rfl)
    (hdb : (x == ("__debug__" : Str)) = false := by decide) (hpl : ((backTo pos (starEach [] X.env)).any (·.1) || (backToKw pos (keywordEach kws X.env)).any (·.1.isNone)) = false := by rfl) :
    PX X (.Call (.Name x p) [] kws pos) C fs ta := by
  refine ⟨fun pins s σ H P I h => ?_⟩
  obtain ⟨f, fd, k, iC, tI, F, hr, _, b2⟩ := M.ini
  refine wpAny_Call_Name_kw (ld_glob I hg M.gC ?_ hdb)
  refine PySem.W.callWith_KW0 (h₀ := X.base) I.ok.mod.kin M.cl.T.kC hall (thn (hkw.run pos pins s σ H _ I h) fun us s1 ⟨vs, H1, I1, r, hl, hz, q⟩ => ⟨I1.kIn, ?_⟩) hpl
  rw [hks]
  refine thn (run_mv (fs := fs) (us := []) (Q := fun v H2 => ∃ a dx, v = .ref a ∧ H1 a = none ∧ H1 dx = none ∧ dx ≠ a ∧ H2 = withX H1 C a dx (fs.zip vs).reverse) M.cl.T iC tI F hr (fun s self _ => b2 s self us (r.length.symm.trans hl)) I1 (Nat.zero_le _) r hl
    fun a dx na nd ne => ⟨a, dx, rfl, na, nd, ne, rfl⟩) fun u s2 ⟨v, H2, I2, rv, a, dx, ev, na, nd, ne, eH⟩ => ?_
  subst ev eH
  exact ⟨vs, H1, a, dx, rv, na, nd, ne, I2, q⟩
/-- C(e, ..) as a value -/
def tMx (C : Addr) (fs : List Str) (ta : TA) : TE := fun σ H Q => ta σ H fun vs H1 => vs.length = fs.length ∧ vs.length ≤ 1000 ∧ ∀ a dx, H1 a = none → H1 dx = none → dx ≠ a → Q (.ref a) (withX H1 C a dx (fs.zip vs).reverse)
theorem pe_mx (h : PX X e C fs ta) : PE X e (tMx C fs ta) := by
  refine ⟨fun pins s σ H Q I h0 => thn (h.run pins s σ H _ I h0) fun u s1 hh => ?_⟩
  obtain ⟨vs, H1, a, dx, rfl, na, nd, ne, I1, q⟩ := hh
  exact ⟨.ref a, _, I1, rfl, q a dx na nd ne⟩
/-- C(e, ..).n: the exception itself is let go -/
def tFx (fs : List Str) (n : Str) (ta : TA) : TE := fun σ H Q => ta σ H fun vs H1 => vs.length = fs.length ∧ vs.length ≤ 1000 ∧ ∃ v, (fs.zip vs).reverse.lookup n = some v ∧ Q v H1
theorem pe_fx (cl : XCl X.K C) (hno : PySem.W.findIn X.K (.ref C) n = some none) (h : PX X e C fs ta) (hb : attributeBase e n X.env (eval e X.env) = eval e X.env := by rfl) : PE X (.Attribute e n pos) (tFx fs n ta) := by
  refine ⟨fun pins s σ H Q I h0 => attr_of hb (thn (h.run pins s σ H _ I h0) fun u s1 hh => ?_)⟩
  obtain ⟨vs, H1, a, dx, rfl, na, nd, ne, I1, v, l, q⟩ := hh
  have ea : withX H1 C a dx (fs.zip vs).reverse a = some (exo a C (some dx)) := upd_same
  have ed : withX H1 C a dx (fs.zip vs).reverse dx = some (exd dx (fs.zip vs).reverse) := (upd_ne ne).trans upd_same
  obtain ⟨t1, ho⟩ := exo_at I1.hok ea
  obtain ⟨mA, hns, rel⟩ := exd_at I1.hok ed
  obtain ⟨od, hd, hl⟩ := lookIn_ns hns
  obtain ⟨u, hu, ru⟩ := RelO.some_of (v := v) (o := mA n) (by rw [← l]; exact rel n)
  have J : PySem.W.InstAt s1.heap a _ C (some od) := ⟨ho, rfl, rfl, hd⟩
  exact PySem.HandSPX.exc_get I1.kIn J cl.ga cl.gg cl.T.exC (PySem.W.findObj_own cl.hd hno rfl (by rw [hl, hu])) (handed_of ru) ⟨v, H1, (forget I1 (withX_sub na nd) withX_ext).tok _, ru, q⟩
/-! ### C(), a class without an own __init__ -/
theorem pe_m0 {newId initId B : String} {bmB : List Value} (F : ExcBaseFacts B newId initId bmB) (q : PySem.W.excIn X.K C bmB newId = true) (gC : X.mg x = some (.ref C)) (kC : PySem.W.keepIn X.K (.ref C) = true) (hg : Gl X x) (hdb : (x == ("__debug__" : Str)) = false := by decide) :
    PE X (.Call (.Name x p) [] [] pos) (fun _ H Q => ∀ a, H a = none → Q (.ref a) (upd H a (exo a C none))) := by
  refine ⟨fun pins s σ H Q I h => ?_⟩
  refine wpAny_Call_Name_kw (ld_glob I hg gC ?_ hdb)
  refine PySem.W.callWith_K0 I.kIn kC ?_
  show wpAny _ _ (call (.ref C) []) _ _ _
  obtain ⟨bm, N, nm, qn, bs, hdct, sn, sub, ab, col, dd, k0, k1, k2, k3, k5, mN, hC, hN, hni, T⟩ := exc_obj I.kIn q
  refine wpAny_call_exc_subT F T hC hN hni (fun h' a hm => ?_) (Nat.zero_le _)
  have hn : H a = none := I.hok.gone hm.new
  obtain ⟨t, ht, _, _⟩ := hm.there
  exact ⟨.ref a, upd H a (exo a C none), I.laidN hm.keeps hm.new hn (exo_ok ht), rfl, h a hn⟩
/-! ### isinstance(e, c), e such an exception -/
def rIsx (K : PySem.W.Frag) : List V → Hp → VK → Prop := fun xs H Q => ∃ (a D : Addr) (c : V) (u : Value) (b : Bool), xs = [.ref a, c] ∧ ClsV c u ∧ XCl K D ∧ (H a = some (exo a D none) ∨ ∃ dx gs, H a = some (exo a D (some dx)) ∧ H dx = some (exd dx gs)) ∧
  PySem.W.kitOne K (.ref D) u = some b ∧ Q (.bl b) H
theorem call_isx : CallR X (.builtin "isinstance") (rIsx X.K) := by
  intro pins s σ H xs us Q I r h
  obtain ⟨a, D, c, u, b, rfl, k, cl, ha, e, q⟩ := h
  obtain ⟨u1, u2, rfl, r1, r2⟩ := vals2 r
  obtain rfl : u1 = Value.ref a := r1
  have e2 := k.eq r2
  subst e2
  have hc : (PySem.W.clsIn X.K D).isSome = true := by
    obtain ⟨cd, hcd, _⟩ := PySem.W.any_some cl.hd
    rw [hcd]
    rfl
  have J : ∃ ox od, PySem.W.InstAt s.heap a ox D od := by
    rcases ha with ha | ⟨dx, gs, ha, hd⟩
    · obtain ⟨t1, ho⟩ := exo_at I.hok ha
      exact ⟨_, none, ho, rfl, rfl, trivial⟩
    · obtain ⟨t1, ho⟩ := exo_at I.hok ha
      obtain ⟨mA, hns, rel⟩ := exd_at I.hok hd
      obtain ⟨od, hd, hl⟩ := lookIn_ns hns
      exact ⟨_, some od, ho, rfl, rfl, hd⟩
  obtain ⟨ox, od, J⟩ := J
  exact PySem.W.kia_one (PySem.W.kitx_exc (ox := ox) (od := od) hc cl.ga cl.gg cl.T.exC cl.ha cl.hn cl.ht cl.hm) I.kIn J e (fun z => nomatch z) fun tk => ⟨.bl b, H, I.tok tk, rfl, q⟩
end
/-! ### repr of data with empty dicts -/
mutual
inductive De (K : PySem.W.Frag) (H : Hp) : V → PyData → Prop
  | non : De K H .non .none
  | bl (b : Bool) : De K H (.bl b) (.bool b)
  | int (i : Int) : De K H (.int i) (.int i)
  | str (x : Str) : De K H (.str x) (.str x)
  | lst {a : Addr} {xs : List V} {ds : List PyData} : H a = some (.lst xs) → DeAll K H xs ds → De K H (.ref a) (.list ds)
  | tup {a : Addr} {xs : List V} {ds : List PyData} : H a = some (.tup xs) → DeAll K H xs ds → De K H (.ref a) (.tuple ds)
  | dic {a : Addr} : H a = some (.dK []) → De K H (.ref a) (.dict [])
inductive DeAll (K : PySem.W.Frag) (H : Hp) : List V → List PyData → Prop
  | nil : DeAll K H [] []
  | cons {v : V} {vs : List V} {d : PyData} {ds : List PyData} : De K H v d → DeAll K H vs ds → DeAll K H (v :: vs) (d :: ds)
end
section
variable {X : Cx} {pins : List (Addr × Obj)} {σ : St} {H : Hp} {s : Shared}
theorem off {a : Addr} {o : HO} (hs : H sysModules = none) (h : H a = some o) : sysModules ≠ a := fun e => by
  rw [← e, hs] at h
  cases h
mutual
theorem de_reads (I : Inv X pins σ H s) (hs : H sysModules = none) : ∀ (d : PyData) (v : V) (u : Value), De X.K H v d → RelV v u → ∃ as, Reads s.heap u d as ∧ sysModules ∉ as
  | .none, _, _, h, r => by
    cases h
    obtain rfl : _ = Value.none := r
    exact ⟨_, Reads.none, by simp⟩
  | .bool b, _, _, h, r => by
    cases h
    obtain rfl : _ = Value.bool b := r
    exact ⟨_, Reads.bool b, by simp⟩
  | .int i, _, _, h, r => by
    cases h
    obtain ⟨t, rfl⟩ := r
    exact ⟨_, Reads.int i t, by simp⟩
  | .str x, _, _, h, r => by
    cases h
    obtain ⟨t, rfl⟩ := r
    exact ⟨_, Reads.str x t, by simp⟩
  | .list ds, _, _, h, r => by
    cases h with
    | @lst a xs _ ha hd =>
      obtain rfl : _ = Value.ref a := r
      obtain ⟨_, its, n, rv, ho⟩ := (show ObjOk X.prog X.w H s.heap a (.lst xs) from I.hok a _ ha)
      obtain ⟨as, hr, hn⟩ := de_all I hs ds xs its hd rv
      refine ⟨_, Reads.list ho rfl rfl hr, fun z => ?_⟩
      rcases List.mem_cons.mp z with z | z
      · exact off hs ha z
      · exact hn z
  | .tuple ds, _, _, h, r => by
    cases h with
    | @tup a xs _ ha hd =>
      obtain rfl : _ = Value.ref a := r
      obtain ⟨_, its, rv, o, ho, hc, n, hd2⟩ := (show ObjOk X.prog X.w H s.heap a (.tup xs) from I.hok a _ ha)
      obtain ⟨as, hr, hn⟩ := de_all I hs ds xs its hd rv
      exact ⟨_, Reads.tuple ho hc hd2 hr, hn⟩
  | .dict _, _, _, h, r => by
    cases h with
    | @dic a ha =>
      obtain rfl : _ = Value.ref a := r
      obtain ⟨_, _, vs, rv, o, es, ep, ho, hx, hd, _, hp, _⟩ := (show ObjOk X.prog X.w H s.heap a (.dK []) from I.hok a _ ha)
      cases rv
      have e0 : es.toList = [] := by
        have z := hp.length
        exact List.eq_nil_of_length_eq_zero z
      refine ⟨_, Reads.dict (as := []) (bs := []) ho hx.1 hd (by rw [e0]; exact ReadsAll.nil) (by rw [e0]; exact ReadsAll.nil), fun z => ?_⟩
      simp at z
      exact off hs ha z
theorem de_all (I : Inv X pins σ H s) (hs : H sysModules = none) : ∀ (ds : List PyData) (vs : List V) (us : List Value), DeAll X.K H vs ds → Vals vs us → ∃ as, ReadsAll s.heap us ds as ∧ sysModules ∉ as
  | [], _, _, h, r => by
    cases h
    cases r
    exact ⟨_, ReadsAll.nil, by simp⟩
  | d :: ds, _, _, h, r => by
    cases h with
    | cons h1 h2 =>
      cases r with
      | cons r1 r2 =>
        obtain ⟨as, q1, n1⟩ := de_reads I hs d _ _ h1 r1
        obtain ⟨bs, q2, n2⟩ := de_all I hs ds _ _ h2 r2
        exact ⟨_, ReadsAll.cons q1 q2, fun z => (List.mem_append.mp z).elim n1 n2⟩
end
end
section
variable {X : Cx}
/-- repr(xs), xs a list of data -/
def rRep (K : PySem.W.Frag) : List V → Hp → VK → Prop := fun xs H Q => ∃ (a : Addr) (d : PyData), xs = [.ref a] ∧ De K H (.ref a) d ∧ d.showable = true ∧ d.depth ≤ 8 ∧ d.shown.length ≤ sizeLine ∧ Q (.str d.shown) H
theorem call_rep (hg : X.A.guards = some []) (hu : X.A.units + 64 < cLine) (hsys : ∃ o, X.K.lookup sysModules = some o) : CallR X (.builtin "repr") (rRep X.K) := by
  intro pins s σ H xs us Q I r h
  obtain ⟨a, d, rfl, hd, hsh, hdp, hz, q⟩ := h
  obtain ⟨oS, hoS⟩ := hsys
  have hs : H sysModules = none := (I.bs _ _ (I.ok.mod.kin _ _ hoS)).2
  obtain ⟨u, rfl, ru⟩ := vals1 r
  obtain rfl : u = Value.ref a := ru
  obtain ⟨as, hr, hn⟩ := de_reads I hs d _ _ hd rfl
  exact repr_of_reads' hr hsh (fun _ => hn) hg (by omega) (fun _ _ z => z) (fun h' t tk hk => ⟨.str d.shown, H, I.kept hk, ⟨t, rfl⟩, q⟩) hz
end
end K0
/-! ### sorted(xs, key=f), f's calls seen by an invariant of one's own; the keys are texts -/
namespace SK
open PySem PySem.W PySem.Calls PyProof.Rows
def IsText (v : Value) (k : Str) : Prop := ∃ t, v = .str k t
abbrev Texts (us : List Value) (ks : List Str) : Prop := EachIs IsText us ks
section
variable {prog : Program} {w : World} {A : Around} {E : Value → Shared → Prop} {s : Shared} {a kS : Addr} {b : Bool} {vs : List Value} {ks : List Str} {e1 : Nat} {P : PySem.Fin → Shared → Prop}
theorem texts_read {h : Heap} : ∀ {us : List Value} {ks : List Str}, Texts us ks → EachIs (fun v d => ∃ as, Reads h v d as) us (ks.map PyData.str)
  | _, _, .nil => .nil
  | _, _, .cons ⟨t, e⟩ r => .cons ⟨[], by rw [e]; exact .str _ t⟩ (texts_read r)
theorem alike_texts (ks : List Str) : AllAlike (ks.map PyData.str) := AllAlike.of fun x y => by simp [alike]
theorem sortable_texts (ks : List Str) : Sortable (ks.map PyData.str) := Sortable.others fun x => ⟨(nomatch ·), fun xs => (nomatch ·)⟩
/-- what an invariant J of the sort has to tell -/
structure ByJ (prog : Program) (w : World) (A : Around) (a kS : Addr) (e1 : Nat) (f : Value) (vs : List Value) (ks : List Str) (J : Nat → Shared → Prop) : Prop where
  is : ∀ i s, J i s → ∃ kA e, s.heap.get? kS = some (seqObj "list" kA e) ∧ Texts kA.toList (ks.take i) ∧ s.heap.get? a = some (seqObj "list" #[] e1)
  turn : ∀ (i : Nat) (v : Value) (k : Str), vs[i]? = some v → ks[i]? = some k → ∀ s, J i s → wpAny (model prog w) A (call f [v]) (fun u s2 => IsText u k ∧ ∃ kA e, s2.heap.get? kS = some (seqObj "list" kA e) ∧ Texts kA.toList (ks.take i) ∧
    ∀ h3 e3, Heap.SameBut kS s2.heap h3 → h3.get? kS = some (seqObj "list" (kA.push u) e3) → J (i + 1) { s2 with heap := h3 }) (fun _ _ => False) s
theorem rest_by {f : Value} {J : Nat → Shared → Prop} (B : ByJ prog w A a kS e1 f vs ks J) (hka : kS ≠ a) (hlen : ks.length = vs.length) (hZ : vs.length ≤ sizeLine) (hu : A.units < cLine) (j0 : J 0 s)
    (h : ∀ s' h' tk out c, J vs.length s' → (∀ b o, b ≠ a → b ≠ kS → s'.heap.get? b = some o → h'.get? b = some o) → h'.get? a = some (seqObj "list" (List.toArray out) c) → KeyedOut b (ks.map PyData.str) vs out → P (.done (.ret .none)) { s' with heap := h', toks := tk }) :
    wpAny (model prog w) A (ksk_rest a f b vs.toArray e1 (.ref kS)) P E s := by
  unfold ksk_rest
  refine wpAny_bind (wpAny_rule ?_)
  first
    | rw [List.forIn_toArray]
    | (rw [← Array.forIn_toList]; simp only [List.toList_toArray])
  refine wpAny_bind (ksk_fold J vs 0 s j0 (fun j x s' hx hJ => ?_) fun s' hJ => ?_)
  · rw [Nat.zero_add] at hJ ⊢
    have hj : j < vs.length := (List.getElem?_eq_some_iff.mp hx).1
    obtain ⟨k, hkj⟩ : ∃ k, ks[j]? = some k := ⟨_, List.getElem?_eq_getElem (by omega)⟩
    refine wpAny_bind (wpAny_attempt (wpAny_mono (B.turn j x k hx hkj s' hJ) (fun u s2 q => ?_) fun _ _ z => z.elim))
    obtain ⟨ht, kA, e, nk, tx, go⟩ := q
    dsimp only
    have hz : kA.size ≤ vs.length := by
      have z := tx.length
      rw [Array.length_toList, List.length_take] at z
      omega
    have hz2 : kA.size ≤ sizeLine := Nat.le_trans hz hZ
    obtain ⟨c2, hc2⟩ : ∃ c2, (s2.heap.update kS (Obj.mapSeq (·.push u))).get? kS = some (seqObj "list" (kA.push u) c2) := ⟨_, get?_update_seq nk (·.push u)⟩
    refine wpAny_bind (listUpdate_at nk rfl ?_ hz2 (by rw [Array.size_push]; omega))
    exact wpAny_pure ⟨rfl, go _ c2 (Heap.SameBut.update s2.heap kS (Obj.mapSeq (·.push u))) hc2⟩
  · rw [Nat.zero_add] at hJ
    obtain ⟨kA, e, nk, tx, na⟩ := B.is _ _ hJ
    refine wpAny_bind (listItems_at nk rfl ?_)
    obtain ⟨G, g1, g2⟩ := L2.restrict s'.heap fun b => decide (b ≠ kS)
    have gs : ∀ b o, G.get? b = some o → s'.heap.get? b = some o := fun b o q => by
      by_cases hb : b = kS
      · rw [hb, g2 kS (decide_eq_false fun z => z rfl)] at q
        cases q
      · rw [← g1 b (decide_eq_true hb)]
        exact q
    have et : ks.take vs.length = ks := List.take_of_length_le (by omega)
    rw [et] at tx
    have er := texts_read (h := s'.heap) tx
    have hsz : kA.size = vs.length := by
      have z := tx.length
      rw [Array.length_toList] at z
      omega
    refine keyH_end (h₁ := G) (κ := dataKind s'.heap (ks.map PyData.str)) (fun b o _ q => gs b o q) (g2 kS (decide_eq_false fun z => z rfl)) nk na hka (SortsAt.data er (alike_texts ks) (sortable_texts ks) fun d hd => ?_) hsz hZ fun h' tk c kp hA => ?_
    · obtain ⟨x, _, rfl⟩ := List.mem_map.mp hd
      simp only [PyData.depth]
      omega
    · exact h s' h' tk _ c hJ (fun b o n1 n2 q => kp b o n1 (by rw [g1 b (decide_eq_true n2)]; exact q)) hA ⟨s'.heap, kA.toList, alike_texts ks, rfl, er⟩
theorem sorted_by {β : Type} {R : Value → β → Prop} {l : Addr} {f : Value} {kw : List (Str × Value)} {Q : Value → Shared → Prop} {bs : List β} (key : β → Str) (hl : s.heap.IsList l vs.toArray) (er : EachIs R vs bs) (hZ : bs.length ≤ sizeLine) (hu : A.units + 2 < cLine) (ha1 : argsOk "sorted" ⟨[.ref l], kw⟩)
    (ha2 : ∀ x, argsOk "list.sort" ⟨[.ref x], kw⟩) (ht : ∀ x, Builtin.«list.sort» ⟨[.ref x], kw⟩ = ksk_tree x f b)
    (go : ∀ (a kS : Addr) (e1 : Nat) (h0 : Heap), (∀ b o, s.heap.get? b = some o → h0.get? b = some o) → s.heap.objs.size ≤ a → s.heap.objs.size ≤ kS → kS ≠ a → h0.get? kS = some (seqObj "list" #[] 0) → h0.get? a = some (seqObj "list" #[] e1) →
      ∃ J : Nat → Shared → Prop, ByJ prog w A.in1.in1 a kS e1 f vs (bs.map key) J ∧ J 0 { s with heap := h0 } ∧
        ∀ s' h' tk out c, J vs.length s' → (∀ b o, b ≠ a → b ≠ kS → s'.heap.get? b = some o → h'.get? b = some o) → h'.get? a = some (seqObj "list" (List.toArray out) c) → out.length = bs.length → EachIs R out (bs.mergeSort (dataLe b fun x => .str (key x))) → Q (.ref a) { s' with heap := h', toks := tk }) :
    wpAny (model prog w) A (call (.builtin "sorted") [.ref l] kw) Q E s := by
  refine sorted_of_sort hl (by rw [er.length]; exact hZ) ha1 ha2 fun E' => ?_
  rw [ht]
  have at0 := copyHeap_at s.heap vs
  generalize ha : s.heap.objs.size + 1 = a at at0 ⊢
  have old : ∀ b o, s.heap.get? b = some o → (copyHeap s.heap vs).get? b = some o := fun b o q => copyHeap_old q
  have hsa : a < (copyHeap s.heap vs).objs.size := Heap.lt_size at0
  generalize copyHeap s.heap vs = h1 at at0 old hsa ⊢
  obtain ⟨e1, ho1⟩ : ∃ e1, (h1.update a (Obj.mapSeq fun _ => (#[] : Array Value))).get? a = some (seqObj "list" #[] e1) := ⟨_, get?_update_seq at0 fun _ => #[]⟩
  have hkS : ((h1.update a (Obj.mapSeq fun _ => (#[] : Array Value))).push (seqObj "tuple" vs.toArray 0)).objs.size = h1.objs.size + 1 := by
    rw [size_push', Heap.size_update]
  unfold ksk_tree
  refine wpAny_bind (listItems_at at0 rfl ?_)
  refine wpAny_bind (listUpdate_at at0 rfl ?_ (by rw [List.size_toArray, er.length]; exact hZ) (Nat.zero_le _))
  refine wpAny_bind (seqEpoch_at ho1 rfl ?_)
  refine wpAny_bind (wpAny_newTuple ?_ (by show vs.length ≤ _; rw [er.length]; exact hZ))
  refine wpAny_bind (wpAny_newList ?_ (Nat.zero_le _))
  refine wpAny_holding ?_
  rw [hkS]
  have nka : h1.objs.size + 1 ≠ a := by omega
  have za : s.heap.objs.size ≤ a := by omega
  have zk : s.heap.objs.size ≤ h1.objs.size + 1 := by omega
  have nba : ∀ b o, s.heap.get? b = some o → b ≠ a := fun b o q => Nat.ne_of_lt (Nat.lt_of_lt_of_le (Heap.lt_size q) za)
  obtain ⟨J, B, j0, fin⟩ := go a (h1.objs.size + 1) e1 (((h1.update a (Obj.mapSeq fun _ => (#[] : Array Value))).push (seqObj "tuple" vs.toArray 0)).push (seqObj "list" #[] 0))
    (fun b o q => Heap.get?_push_of_some _ (Heap.get?_push_of_some _ (((Heap.SameBut.update h1 a (Obj.mapSeq fun _ => (#[] : Array Value))).2 b (nba b o q)).trans (old b o q)))) za zk nka
    (by rw [← hkS]; exact Heap.get?_push_size _ rfl) (Heap.get?_push_of_some _ (Heap.get?_push_of_some _ ho1))
  refine rest_by B nka (by rw [List.length_map]; exact er.length.symm) (by rw [er.length]; exact hZ) (by show A.units + 1 + 1 < cLine; omega) j0 fun s' h' tk out c hJ kp hA ko => ⟨rfl, ?_⟩
  have em : (bs.map key).map PyData.str = bs.map fun x => PyData.str (key x) := by
    rw [List.map_map]
    rfl
  rw [em] at ko
  exact fin s' h' tk out c hJ kp hA ((ko.length (by rw [List.length_map]; exact er.length.symm)).trans er.length) (keyedOut_each (fun x => PyData.str (key x)) ko er)
end
end SK
/-! ### sorted(e, key=lambda x: body), e a list of texts, x's key a text -/
namespace SK
open PySem PySem.Spec PyProof.Rows L2 LamX NdefX
abbrev St := L2.St
abbrev CX0 := C8.CX0
abbrev E0 := C8.E0
section
variable {CX : CXT} {P : Program} {w : World} {K : PySem.W.Frag} {mg : Str → Option Value} {base : Heap} {N ps fr : List Str} {F : NF} {f : Addr} {A : Around} {outer : List Env} {s : Shared} {H : Hp} {E : XK} {us : List Value} {vs : List V} {ws : List (Option V)} {k : Nat} {body : Expr} {tb : TE} {Q : VK} {pm ctv : Value}
/-- a lambda with parameters is called -/
theorem lam_run (S : NScope N ps fr F.scope) (hbind : bindArgs (PySem.W.kla_fn F.name F.qual F.params body F.scope F.cl pm (.ref F.c) ctv) ⟨us, []⟩ = pure (ps.zip us)) (ho : s.heap.get? f = some (PySem.W.kla_obj F.name F.qual F.params body F.scope F.cl pm F.c ctv))
    (hco : H F.c = some (CodeO F.c F.qual)) (hr : Room (k + 1) A) (e0 : Env0 P w K mg base A outer s H) (C : CellsAt F.cl fr ws s.heap H) (r : Vals vs us) (hl : vs.length = ps.length) (hbody : PE (ncx CX P w K mg base N F f A outer s H E) body tb)
    (hq : tb (startF N vs ws) H Q) : codeAny (model P w) A (.call (.ref f) ⟨us, []⟩) (CR CX outer P w H s Q E) s := by
  have lim : s.heap.NoLimit := e0.mod.nolimit.keeps fun b o e => (e0.bs b o e).1
  refine PySem.W.kla_callFunE hr.depth ho rfl S.co S.gen rfl (codeO_at e0.hok hco) ?_
  rw [hbind]
  refine wpAny_pure (wpAny_newFunctionEnv S.nocell (fun ⟨n, _⟩ hy => S.par n (List.of_mem_zip hy).1) (fun h₁ hns hsb => ⟨lim.fresh _ hsb, ?_⟩) S.kind)
  show codeAny _ _ (.expr body (envF F f s.heap.objs.size)) _ _
  have kp : ∀ b o, s.heap.get? b = some o → h₁.get? b = some o := fun b o e => hsb.extBut b o (Nat.ne_of_lt (Heap.lt_size e)) (Heap.get?_push_of_some _ e)
  have J := inv_startN (CX := CX) (f := f) (E := E) (tk := s.toks + (ps.zip us).length) S hr.hd e0 hl r C hns kp
  refine PySem.W.kla_codeExpr (wpAny_mono (hbody.run [] _ _ H Q J hq) (fun v s' hs => ?_) fun e s' hs => hs)
  obtain ⟨x, H', J', rv, q⟩ := hs
  exact ⟨x, H', J'.os, J'.bare, J'.base, J'.hok, rv, q⟩
end
/-- what the sort knows of its two lists -/
def aO (a : Addr) (e1 : Nat) : HO := .ext fun h => h.get? a = some (seqObj "list" #[] e1)
def kO (kS : Addr) (ks : List Str) : HO := .ext fun h => ∃ kA e, h.get? kS = some (seqObj "list" kA e) ∧ Texts kA.toList ks
theorem aO_ok {P : Program} {w : World} {H : Hp} {h : Heap} {a : Addr} {e1 : Nat} (q : h.get? a = some (seqObj "list" #[] e1)) : ObjOk P w H h a (aO a e1) := ⟨q, ⟨_, q⟩, fun h1 h2 z st => st _ z⟩
theorem kO_ok {P : Program} {w : World} {H : Hp} {h : Heap} {a : Addr} {ks : List Str} {kA : Array Value} {e : Nat} (q : h.get? a = some (seqObj "list" kA e)) (t : Texts kA.toList ks) : ObjOk P w H h a (kO a ks) :=
  ⟨⟨kA, e, q, t⟩, ⟨_, q⟩, fun h1 h2 ⟨k1, e1, z, t1⟩ st => ⟨k1, e1, st _ z, t1⟩⟩
theorem aO_at {P : Program} {w : World} {H : Hp} {h : Heap} {a : Addr} {e1 : Nat} (x : HOk P w H h) (e : H a = some (aO a e1)) : h.get? a = some (seqObj "list" #[] e1) := (x a _ e).1
theorem kO_at {P : Program} {w : World} {H : Hp} {h : Heap} {a : Addr} {ks : List Str} (x : HOk P w H h) (e : H a = some (kO a ks)) : ∃ kA e, h.get? a = some (seqObj "list" kA e) ∧ Texts kA.toList ks := (x a _ e).1
theorem vals_texts : ∀ {ws : List Str} {us : List Value}, Vals (ws.map V.str) us → Texts us ws
  | [], [], _ => .nil
  | [], _ :: _, h => by cases h
  | _ :: _, [], h => by cases h
  | w :: ws, u :: us, h => by
    cases h with
    | cons h1 h2 => exact .cons h1 (vals_texts h2)
theorem texts_vals : ∀ {us : List Value} {ws : List Str}, Texts us ws → Vals (ws.map V.str) us
  | _, _, .nil => .nil
  | _, _, .cons h1 h2 => .cons h1 (texts_vals h2)
theorem each_get {α β : Type} {R : α → β → Prop} : ∀ {us : List α} {ws : List β}, PySem.W.EachIs R us ws → ∀ {i : Nat} {u : α} {x : β}, us[i]? = some u → ws[i]? = some x → R u x
  | _, _, .nil, i, u, x, h, _ => by simp at h
  | _, _, .cons r t, 0, u, x, h1, h2 => by
    simp at h1 h2
    subst h1 h2
    exact r
  | _, _, .cons r t, i + 1, u, x, h1, h2 => each_get t (by simpa using h1) (by simpa using h2)
theorem texts_snoc {us : List Value} {ks : List Str} {u : Value} {k : Str} : Texts us ks → IsText u k → Texts (us ++ [u]) (ks ++ [k])
  | .nil, h => .cons h .nil
  | .cons a t, h => .cons a (texts_snoc t h)
/-- the reading, behind the list: its words, the key of each by the lambda's body, then the new list in their order -/
def sTail (K : PySem.W.Frag) (T : List (Addr × Str)) (H0 : Hp) (N : List Str) (js : List Nat) (tb : TE) (σ : St) (Q : VK) (x : V) (H1 : Hp) : Prop := ∃ (l : Addr) (ws : List Str) (key : Str → Str), x = .ref l ∧ SqL K H1 l (ws.map V.str) ∧ Tabs T H1 ∧ ExtN H0 H1 ∧
  ∀ H2, ExtN H1 H2 → Tabs T H2 → (∀ y ∈ ws, ∀ H3, Same H2 H3 → tb (startF N [.str y] (js.map (slotAt σ))) H3 fun v H4 => v = .str (key y) ∧ Same H3 H4) ∧
    ∀ H5 p, H2 p = none → Same H2 H5 → H5 p = some (.lst ((ws.mergeSort (PySem.W.dataLe false fun x => .str (key x))).map V.str)) → Q (.ref p) H5
def tSort (K : PySem.W.Frag) (T : List (Addr × Str)) (H0 : Hp) (N : List Str) (js : List Nat) (te tb : TE) : TE := fun σ H Q => te σ H (sTail K T H0 N js tb σ Q)
theorem extN_seq {K : PySem.W.Frag} {H H' : Hp} {l : Addr} {xs : List V} (e : ExtN H H') (h : SqL K H l xs) : SqL K H' l xs := by
  rcases h with (h | ⟨o, h⟩) | h
  · exact .inl (.inl (e _ _ h fun ps z => nomatch z))
  · exact .inl (.inr ⟨o, e _ _ h fun ps z => nomatch z⟩)
  · exact .inr h
section
variable {X : Cx}
theorem pe_sortkey {T : List (Addr × Str)} {c P : Addr} {k : Nat} {e body : Expr} {params : Arguments} {scope : Scope} {te tb : TE} {p lpos kpos pos : Pos} {N fr : List Str} {a1 : Str} {js : List Nat} (hg : Gl X "sorted") (hm : X.mg "sorted" = none) (ha : PE X e te) (TB : TabB X.base X.mg c P) (hcode : X.env.code = .ref c)
    (hmT : (P, X.env.qual ++ "<lambda>") ∈ T) (hu : ∀ p ∈ T, p.1 = P → p.2 = X.env.qual ++ "<lambda>") (hr : Room (k + 3) X.A) (hex : X.ex = []) (S : NScope N [a1] fr scope)
    (hnd : ndefB X.env.scope scope fr = true) (hjs : js.map (fun j => X.N[j]?) = fr.map some) (hdef : defaultsOf params X.env = ([], []))
    (hbind : ∀ (q : Str) (cl : List (Str × Addr)) (pm cv ctv v : Value), bindArgs (PySem.W.kla_fn "<lambda>" q params body scope cl pm cv ctv) ⟨[v], []⟩ = pure [(a1, v)])
    (hbody : ∀ (A : Around) (outer : List Env) (s : Shared) (H : Hp) (f c' : Addr) (cl : List (Str × Addr)), Room k (A.deeper (envF ⟨"<lambda>", X.env.qual ++ "<lambda>", params, [], scope, cl, c'⟩ f s.heap.objs.size)) →
      PE (ncx CX0 X.prog X.w X.K X.mg X.base N ⟨"<lambda>", X.env.qual ++ "<lambda>", params, [], scope, cl, c'⟩ f A outer s H E0) body tb)
    (hs1 : starEach [e] X.env = [(false, eval e X.env)] := by rfl) :
    PE X (.Call (.Name "sorted" p) [e] [⟨some "key", .Lambda params body scope lpos, kpos⟩] pos) (tSort X.K T X.H_0 N js te tb) := by
  have hfree := ndef_free hnd
  have hfr := ndef_fr hnd
  refine ⟨fun pins s σ H Q I h => ?_⟩
  refine wpAny_Call_Name_kw (ld_blt I hg hm PyProof.Rows.boot_sorted ?_)
  refine PyProof.Rows.callWith_kw ?_ (by rw [hs1]; rfl) (by rw [hs1]; rfl) (by rfl) (by rfl)
  refine thn ((pa_cons ha pa_nil hs1).run pos pins s σ H (fun vs H1 => match vs with
    | [x] => sTail X.K T X.H_0 N js tb σ Q x H1
    | _ => False) I h) fun us s1 ⟨vs, H1, I1, r1, q1⟩ => ?_
  match vs, r1, q1 with
  | [x], r1, q1 =>
  obtain ⟨l, ws, key, rfl, hS, hT, h01, q⟩ := q1
  obtain ⟨u, rfl, ru⟩ := vals1 r1
  obtain rfl : u = Value.ref l := ru
  have hcl : ∀ y ∈ scope.names, y.2 = .free → ∃ c, X.env.cells.lookup y.1 = some c := fun y hy e => (hfree y hy e).elim (fun z => I1.ok.has _ (.inl z)) fun z => I1.ok.has _ (.inr z)
  show wpAny _ _ (evalAll ((do let v ← eval (.Lambda params body scope lpos) X.env; standAt pos; pure v) :: (backToKw pos (keywordEach [] X.env)).map (·.2))) _ _ s1
  refine wpAny_evalAll_cons (wpAny_bind (lam_make2 I1 TB hcode hmT hu hT hdef hcl fun f c' pm ctv H2 s2 I2 eN T2 ho hfn hfs hco => wpAny_bind (wpAny_standAt (wpAny_pure ?_))))
  refine wpAny_evalAll_nil ?_
  show wpAny _ _ (call (.builtin "sorted") [.ref l] [(Str.ofString "key", .ref f)]) _ _ s2
  obtain ⟨qa, qend⟩ := q H2 eN T2
  obtain ⟨its, rv, hl, hz⟩ := I2.list (extN_seq eN hS)
  rw [List.length_map] at hz
  have hu2 : X.A.units + 2 < cLine := by
    have z := hr.un
    omega
  have tx := vals_texts rv
  refine sorted_by (b := false) key hl.isList tx hz hu2 (PyProof.Rows.ksk_s1 _ _) (fun x => PyProof.Rows.ksk_l1 _ _) (fun x => PyProof.Rows.ksk_t1 _ _) fun a kS e1 h0 k0 za zk nka hk ha0 => ?_
  have na : H2 a = none := I2.hok.fresh za
  have nk : H2 kS = none := I2.hok.fresh zk
  have fr0 : ∀ b, H2 b = none → Fr0 X.H_0 b := fun b n o e => by
    by_cases ht : ∃ ps, o = .tbl ps
    · exact ht
    · have z := eN b o (h01 b o e fun ps w => ht ⟨ps, w⟩) fun ps w => ht ⟨ps, w⟩
      rw [n] at z
      cases z
  refine ⟨fun i s' => ∃ H', Inv X pins σ H' s' ∧ Same H2 H' ∧ H' a = some (aO a e1) ∧ H' kS = some (kO kS ((ws.map key).take i)) ∧ s'.heap.get? f = some (PySem.W.kla_obj "<lambda>" (X.env.qual ++ "<lambda>") params body scope (cloFrom X.env.cells scope.names []) pm c' ctv) ∧ H' f = none,
    ⟨fun i s' ⟨H', I', sm, oa, ok, of, nf⟩ => ?_, fun i v k0 hv hk0 s' ⟨H', I', sm, oa, ok, of, nf⟩ => ?_⟩, ?_, fun s' h' tk out c0 ⟨H', I', sm, oa, ok, of, nf⟩ kp hA hlen er => ?_⟩
  · obtain ⟨kA, e, z1, z2⟩ := kO_at I'.hok ok
    exact ⟨kA, e, z1, z2, aO_at I'.hok oa⟩
  · obtain ⟨y, hy, rfl⟩ : ∃ y, ws[i]? = some y ∧ key y = k0 := by
      rw [List.getElem?_map] at hk0
      cases e : ws[i]? with
      | none =>
        rw [e] at hk0
        cases hk0
      | some y =>
        rw [e] at hk0
        exact ⟨y, rfl, Option.some.inj hk0⟩
    obtain ⟨t, rfl⟩ := each_get tx hv hy
    have C := cells_of I' (Caps.made I'.ok hfree hfr hjs)
    have hr2 : Room (k + 1) X.A.in1.in1 := hr.in1.in1
    have rc := lam_run (CX := CX0) (E := E0) (F := ⟨"<lambda>", X.env.qual ++ "<lambda>", params, [], scope, cloFrom X.env.cells scope.names [], c'⟩) (f := f) (us := [.str y t]) (vs := [.str y]) (Q := fun v H4 => v = .str (key y) ∧ Same H' H4) S (hbind _ _ _ _ _ _) of (sm _ _ hco) hr2 I'.env0.in1.in1 C
      (.cons ⟨t, rfl⟩ .nil) rfl (hbody _ _ _ _ _ _ _ (hr2.deeper _)) (qa y (List.mem_of_getElem? hy) H' sm)
    refine wpAny_call (codeAny_mono rc fun r s3 hq => ?_)
    cases r with
    | error e => exact (show False from hq).elim
    | ok fl =>
      cases fl with
      | next => exact (show False from hq).elim
      | brk => exact (show False from hq).elim
      | cont => exact (show False from hq).elim
      | ret u =>
        obtain ⟨v2, H4, os, bare, un, hok, rv2, rfl, sm4⟩ := (show CE X.stack X.prog X.w H' s' _ u s3 from hq)
        obtain ⟨hh, g, d, t4, os'⟩ := s3
        obtain rfl : os' = s'.os := os
        have I4 : Inv X pins σ H4 ⟨hh, g, d, t4, s'.os⟩ := I'.call (h' := hh) (g' := g) (d' := d) (t' := t4) (ch := []) un hok bare (fun b z => absurd z (by simp))
        obtain ⟨kA, e, nk4, tx4⟩ := kO_at I4.hok (sm4 _ _ ok)
        have nfk : f ≠ kS := fun z => by
          rw [z, ok] at nf
          cases nf
        have of4 := un.keep f _ of nf hfs (by simp)
        have nf4 := un.free f _ of nf (by simp)
        refine ⟨rv2, kA, e, nk4, tx4, fun h3 e3 hsb hk3 => ?_⟩
        have tx5 : Texts (kA.push u).toList ((ws.map key).take (i + 1)) := by
          have e5 : (ws.map key).take (i + 1) = (ws.map key).take i ++ [key y] := by
            rw [List.take_add_one, List.getElem?_map, hy]
            rfl
          rw [e5, Array.toList_push]
          exact texts_snoc tx4 rv2
        refine ⟨upd H4 kS (kO kS ((ws.map key).take (i + 1))), I4.write (x := kS) (e := kS) (by rw [sm4 _ _ ok]; trivial) (.inl rfl) (fun b o hb z => (hsb.2 b hb).trans z) ⟨_, hk3⟩ (kO_ok hk3 tx5), fun b o z => ?_, ?_, upd_same, ?_, ?_⟩
        · rw [upd_ne (ne_of_none z nk)]
          exact sm4 _ _ (sm _ _ z)
        · rw [upd_ne nka.symm]
          exact sm4 _ _ oa
        · exact (hsb.2 f nfk).trans of4
        · rw [upd_ne nfk]
          exact nf4
  · obtain ⟨G, g1, g2⟩ := restrict h0 fun b => decide (b ≠ kS)
    have lt : ∀ b o, s2.heap.get? b = some o → b ≠ kS ∧ b ≠ a := fun b o z => ⟨Nat.ne_of_lt (Nat.lt_of_lt_of_le (Heap.lt_size z) zk), Nat.ne_of_lt (Nat.lt_of_lt_of_le (Heap.lt_size z) za)⟩
    have gG : ∀ b o, b ≠ kS → h0.get? b = some o → G.get? b = some o := fun b o n z => by
      rw [g1 b (decide_eq_true n)]
      exact z
    have Gh : ∀ b o, G.get? b = some o → h0.get? b = some o := fun b o z => by
      by_cases hb : b = kS
      · rw [hb, g2 kS (decide_eq_false fun z => z rfl)] at z
        cases z
      · rw [← g1 b (decide_eq_true hb)]
        exact z
    have Ia := I2.laidN (h' := G) (t' := s2.toks) (a := a) (o := aO a e1) (fun b o z => gG b o (lt b o z).1 (k0 b o z)) (Heap.get?_none_of_le za) na (aO_ok (gG a _ nka.symm ha0))
    have nk2 : upd H2 a (aO a e1) kS = none := by
      rw [upd_ne nka]
      exact nk
    have Ik := Ia.laidN (h' := h0) (t' := s2.toks) (a := kS) (o := kO kS []) Gh (g2 kS (decide_eq_false fun z => z rfl)) nk2 (kO_ok hk .nil)
    refine ⟨_, Ik, fun b o z => ?_, ?_, ?_, k0 _ _ ho, ?_⟩
    · rw [upd_ne (ne_of_none z nk), upd_ne (ne_of_none z na)]
      exact z
    · rw [upd_ne nka.symm, upd_same]
    · rw [upd_same, List.take_zero]
    · rw [upd_ne (lt _ _ ho).1, upd_ne (lt _ _ ho).2]
      exact hfn
  · obtain ⟨G1, a1, a2, I5⟩ := I'.untrack ok (fr0 kS nk) hex
    obtain ⟨G2, b1, b2, I6⟩ := I5.untrack (a := a) (by rw [delH_ne nka.symm]; exact oa) (fr0 a na) hex
    have hlm : ((ws.mergeSort (PySem.W.dataLe false fun x => .str (key x))).map V.str).length ≤ sizeLine := by
      rw [List.length_map, List.length_mergeSort]
      exact hz
    have I7 := I6.laidN (h' := h') (t' := tk) (a := a) (o := .lst ((ws.mergeSort (PySem.W.dataLe false fun x => .str (key x))).map V.str))
      (fun b o z => kp b o (fun w => by rw [w, b2] at z; cases z) (fun w => by have z2 := b1 b o z; rw [w] at z2; have z3 := z2; rw [a2] at z3; cases z3) (a1 _ _ (b1 _ _ z))) b2 delH_same ⟨hlm, out, c0, texts_vals er, hA⟩
    refine ⟨.ref a, _, I7, rfl, qend _ a na (fun b o z => ?_) upd_same⟩
    rw [upd_ne (ne_of_none z na), delH_ne (ne_of_none z na), delH_ne (ne_of_none z nk)]
    exact sm _ _ z
end
end SK
/-! ### enumerate of a text and of a tuple; dict comprehensions over any walk -/
namespace SK
open PySem PySem.Spec PyProof.Rows L2 LamX NdefX
def ItES (x : Str) : It := ⟨fun i _ => i < x.cps.size, fun i H v H' => ∃ T c, v = .ref T ∧ H T = none ∧ H' = upd H T (.tup [.int (i : Nat), .str ⟨#[c]⟩]) ∧ x.cps[i]? = some c, fun i _ => i = x.cps.size⟩
def ItET (a : Addr) (xs : List V) : It := ⟨fun i H => H a = some (.tup xs) ∧ i < xs.length, fun i H v H' => ∃ T x, v = .ref T ∧ H T = none ∧ H' = upd H T (.tup [.int (i : Nat), x]) ∧ xs[i]? = some x, fun i H => H a = some (.tup xs) ∧ i = xs.length⟩
/-- a pair that enumerate hands out -/
theorem enum_turn {X : Cx} {pins : List (Addr × Obj)} {s : Shared} {σ : St} {H : Hp} {E : Value → Shared → Prop} {J : It} {fp : List Addr} {n i : Nat} {Pd : Nat → Value → Prop} {Sd : Nat → Heap → Prop} {e it : Addr} {elts : List Expr} {kk : Nat} {tpos : Pos} {tn : Nat → Heap → Prop} (I : Inv X pins σ H s)
    (D : PySem.Draws X.prog X.w X.A.in1 it fp n Pd Sd) (hf : ∀ b ∈ [e, it], FpOk X pins H b) (he : ∃ old, IsEnum s.heap e it ((i : Nat) : Int) old) (hst : Sd i s.heap) (hlt : i < n) (hne : e ≠ it) (hef : e ∉ fp)
    (hit : ∃ o, s.heap.get? it = some o) (rel : ∀ u, Pd i u → ∃ x, RelV x u ∧ ∀ H' T, H T = none → H' = upd H T (.tup [.int (i : Nat), x]) → J.yld i H (.ref T) H') (nx : ∀ h' h'', Sd (i + 1) h' → (∀ b o, b ≠ e → h'.get? b = some o → h''.get? b = some o) → (∃ old, IsEnum h'' e it (((i + 1 : Nat)) : Int) old) → tn (i + 1) h'') :
    wpAny (model X.prog X.w) X.A (pyNext (.ref e)) (fun r s1 => ∃ u, r = some u ∧
      wpAny (model X.prog X.w) X.A (letOwnedTupleGo (.Tuple elts kk tpos) (.ref e) u) (fun _ s2 => ∃ x H', Inv X pins σ H' s2 ∧ RelV x u ∧ J.yld i H x H' ∧ tn (i + 1) s2.heap ∧ ∀ b ∈ [e, it], H' b = none) E s1) E s := by
  obtain ⟨old, he⟩ := he
  have hel : e < s.heap.objs.size := Heap.lt_size he
  have hil : it < s.heap.objs.size := by
    obtain ⟨o, q⟩ := hit
    exact Heap.lt_size q
  refine wpAny_pyNext_enum_itemD D he hst hlt hne hef fun u h' tk hP ho hst' hT hsz hk => ?_
  obtain ⟨x, ru, hy⟩ := rel u hP
  refine ⟨_, rfl, wpAny_letOwnedTupleGo_enum (s := { s with heap := h', toks := tk + 1 }) ho fun h'' he' sb => ?_⟩
  have hT2 : h''.get? s.heap.objs.size = some { cls := .type "tuple", data := .seq #[.int i tk, u] } := (sb.2 _ (Nat.ne_of_gt hel)).trans hT
  have nw : ObjOk X.prog X.w (upd H s.heap.objs.size (.tup [.int (i : Nat), x])) h'' s.heap.objs.size (.tup [.int (i : Nat), x]) :=
    ⟨by show 2 ≤ sizeLine; decide, [.int i tk, u], .cons ⟨_, rfl⟩ (.cons ru .nil), ⟨_, hT2, rfl, _, rfl⟩⟩
  have I1 : Inv X pins σ (upd H s.heap.objs.size (.tup [.int (i : Nat), x])) { s with heap := h'', toks := tk + 1 } :=
    I.turnedNew (ch := [e, it]) (fun b ob hb q => (sb.2 b (fun z => hb (by simp [z]))).trans (hk b ob (fun z => hb (by simp [z])) (fun z => hb (by simp [z])) q)) hf (Nat.le_refl _) nw
  refine ⟨.ref s.heap.objs.size, _, I1, rfl, hy _ _ (I.hok.fresh (Nat.le_refl _)) rfl, nx h' h'' hst' (fun b o hb q => (sb.2 b hb).trans q) ⟨u, ?_⟩, fun b hb => ?_⟩
  · have e1 : ((i + 1 : Nat) : Int) = (i : Int) + 1 := by omega
    rw [e1]
    exact he'
  · have hb' : b < s.heap.objs.size := by
      have e' : b = e ∨ b = it := by simpa using hb
      rcases e' with z | z
      · rw [z]; exact hel
      · rw [z]; exact hil
    rw [upd_ne (Nat.ne_of_lt hb')]
    exact (hf b hb).1
theorem turn_enumS {P : Program} {w : World} {K : PySem.W.Frag} {elts : List Expr} {kk : Nat} {tpos : Pos} (x : Str) (t : Tok) (e it : Addr) :
    Turn P w K (.Tuple elts kk tpos) (ItES x) [e, it] e (fun i h => (∃ old, IsEnum h e it ((i : Nat) : Int) old) ∧ h.IsStrIter it (strIterType x) x t i ∧ e ≠ it) where
  mem := by simp
  obj := fun i h st b hb => by
    obtain ⟨⟨old, he⟩, ⟨o, ho, hc, hd⟩, _⟩ := st
    have e' : b = e ∨ b = it := by simpa using hb
    rcases e' with z | z
    · rw [z]
      exact ⟨_, he, fun v q => nomatch q⟩
    · rw [z]
      exact ⟨o, ho, fun v q => by rw [hd] at q; cases q⟩
  keep := fun i h h' st k => by
    obtain ⟨⟨old, he⟩, ⟨o, ho, r⟩, hne⟩ := st
    exact ⟨⟨old, k e (by simp) _ he⟩, ⟨o, k it (by simp) o ho, r⟩, hne⟩
  item := by
    intro X hP hw hK hc i pins s σ H E I hf st hg
    subst hP hw hK
    obtain ⟨he, hit, hne⟩ := st
    have hli : ∃ o, s.heap.get? it = some o := by
      obtain ⟨o, q, _⟩ := hit
      exact ⟨o, q⟩
    refine enum_turn (J := ItES x) (tn := fun i h => (∃ old, IsEnum h e it ((i : Nat) : Int) old) ∧ h.IsStrIter it (strIterType x) x t i ∧ e ≠ it) I (PySem.Draws.text (A := X.A.in1) (I.ok.hd hc) it x t) hf he hit hg hne (by simpa using hne) hli (fun u ⟨c, tu, hx, eu⟩ => ⟨.str ⟨#[c]⟩, ⟨tu, eu⟩, fun H' T hT eH => ⟨T, c, rfl, hT, eH, hx⟩⟩) fun h' h'' hs k hE => ?_
    obtain ⟨o, ho, r⟩ := hs
    exact ⟨hE, ⟨o, k it o (Ne.symm hne) ho, r⟩, hne⟩
  done := by
    intro X hP hw hK hc i pins s σ H E I hf st hg
    subst hP hw hK
    obtain ⟨⟨old, he⟩, hit, hne⟩ := st
    obtain ⟨f0, f1, f2, f3, f4, f5⟩ := hf it (by simp)
    have hg : i = x.cps.size := hg
    rw [hg] at hit
    exact wpAny_pyNext_enum_endD (PySem.Draws.text (A := X.A.in1) (I.ok.hd hc) it x t) he hit fun h' eb => ⟨rfl, I.turned (t' := s.toks) (fun b o hb q => eb b o hb q) f0 f1 f3 f4 f5⟩
  self := fun A i s Q E st h => let ⟨⟨_, he⟩, _⟩ := st; wpAny_pyIter_enum he h
theorem turn_enumT {P : Program} {w : World} {K : PySem.W.Frag} {elts : List Expr} {kk : Nat} {tpos : Pos} (a : Addr) (xs : List V) (e it : Addr) :
    Turn P w K (.Tuple elts kk tpos) (ItET a xs) [e, it] e (fun i h => (∃ old, IsEnum h e it ((i : Nat) : Int) old) ∧ h.IsTupleIter it a i ∧ e ≠ it) where
  mem := by simp
  obj := fun i h st b hb => by
    obtain ⟨⟨old, he⟩, ⟨o, ho, hc, hd⟩, _⟩ := st
    have e' : b = e ∨ b = it := by simpa using hb
    rcases e' with z | z
    · rw [z]
      exact ⟨_, he, fun v q => nomatch q⟩
    · rw [z]
      exact ⟨o, ho, fun v q => by rw [hd] at q; cases q⟩
  keep := fun i h h' st k => by
    obtain ⟨⟨old, he⟩, hi, hne⟩ := st
    exact ⟨⟨old, k e (by simp) _ he⟩, hi.at fun o q => k it (by simp) o q, hne⟩
  item := by
    intro X hP hw hK hc i pins s σ H E I hf st hg
    subst hP hw hK
    obtain ⟨he, hit, hne⟩ := st
    obtain ⟨ha, hlt⟩ := hg
    obtain ⟨its, rv, p, hz⟩ := I.tuple (.inl (.inl ha))
    have hl := rv.length
    have nat : ∀ b ∈ [e, it], a ≠ b := fun b hb z => by
      have q := (hf b hb).1
      rw [← z, ha] at q
      cases q
    have hli : ∃ o, s.heap.get? it = some o := by
      obtain ⟨o, q, _⟩ := hit
      exact ⟨o, q⟩
    have hp : s.heap.IsTuple a its.toArray := p
    refine enum_turn (J := ItET a xs) (tn := fun i h => (∃ old, IsEnum h e it ((i : Nat) : Int) old) ∧ h.IsTupleIter it a i ∧ e ≠ it) I (PySem.Draws.tuple (A := X.A.in1) (I.ok.hd hc) it a (nat it (by simp)) its.toArray) hf he ⟨hit, hp⟩ (by simpa [← hl] using hlt) hne (by simp only [List.mem_cons, List.mem_nil_iff, or_false, not_or]; exact ⟨hne, Ne.symm (nat e (by simp))⟩) hli (fun u hu => ?_) fun h' h'' hs k hE => ⟨hE, hs.1.at fun o q => k it o (Ne.symm hne) q, hne⟩
    obtain ⟨x, hx⟩ : ∃ x, xs[i]? = some x := ⟨_, List.getElem?_eq_getElem hlt⟩
    obtain ⟨u2, hu2, ru⟩ := rv.get hx
    have e2 : u2 = u := by
      have z : its.toArray[i]? = some u2 := by simpa using hu2
      exact Option.some.inj (z.symm.trans hu)
    subst e2
    exact ⟨x, ru, fun H' T hT eH => ⟨T, x, rfl, hT, eH, hx⟩⟩
  done := by
    intro X hP hw hK hc i pins s σ H E I hf st hg
    subst hP hw hK
    obtain ⟨⟨old, he⟩, hit, hne⟩ := st
    obtain ⟨ha, hlt⟩ := hg
    obtain ⟨its, rv, p, hz⟩ := I.tuple (.inl (.inl ha))
    have hl := rv.length
    obtain ⟨f0, f1, f2, f3, f4, f5⟩ := hf it (by simp)
    have nat : a ≠ it := fun z => by
      rw [← z, ha] at f0
      cases f0
    have hp : s.heap.IsTuple a its.toArray := p
    have ei : i = its.toArray.size := by
      rw [List.size_toArray, ← hl]
      exact hlt
    rw [ei] at hit
    exact wpAny_pyNext_enum_endD (PySem.Draws.tuple (A := X.A.in1) (I.ok.hd hc) it a nat its.toArray) he ⟨hit, hp⟩ fun h' eb => ⟨rfl, I.turned (t' := s.toks) (fun b o hb q => eb b o hb q) f0 f1 f3 f4 f5⟩
  self := fun A i s Q E st h => let ⟨⟨_, he⟩, _⟩ := st; wpAny_pyIter_enum he h
section
variable {X : Cx}
def iEnumS (ta : TA) : TI := fun σ H R => ta σ H fun vs H1 => ∃ x, vs = [.str x] ∧ R (ItES x) H1
theorem pi_enumS {e : Expr} {ta : TA} {p pos tpos : Pos} {elts : List Expr} {kk : Nat} (hg : Gl X "enumerate") (hm : X.mg "enumerate" = none) (ha : PA X [e] ta) (hs : starEach [e] X.env = [(false, eval e X.env)] := by rfl) :
    PI X (.Tuple elts kk tpos) (.Call (.Name "enumerate" p) [e] [] pos) (iEnumS ta) := by
  refine ⟨fun pins s σ H R I h => ?_⟩
  refine Call_ (ld_blt I hg hm boot_enumerate (PyProof.Rows.callWith_type1 (thn (ha.run pos pins s σ H _ I h) fun us s1 ⟨vs, H1, I1, r1, q1⟩ => ?_) hs rfl))
  obtain ⟨x, rfl, q⟩ := q1
  obtain ⟨u, rfl, t, rfl⟩ := vals1 r1
  refine call_enumerate_str fun h' he hit hsz hk => wpAny_pyIter_enum he ?_
  have I2 : Inv X pins σ H1 { s1 with heap := h' } := I1.kept (t' := s1.toks) hk
  refine ⟨s1.heap.objs.size + 1, [s1.heap.objs.size + 1, s1.heap.objs.size], _, _, H1, rfl, I2, turn_enumS x t (s1.heap.objs.size + 1) s1.heap.objs.size, ⟨⟨.none, he⟩, hit, Nat.succ_ne_self _⟩, fun b hb => ?_, q⟩
  have e' : b = s1.heap.objs.size + 1 ∨ b = s1.heap.objs.size := by simpa using hb
  have hle : s1.heap.objs.size ≤ b := by
    rcases e' with z | z
    · rw [z]; exact Nat.le_add_right _ _
    · rw [z]; exact Nat.le_refl _
  exact I1.fpOk hle (I1.hok.fresh hle)
def iEnumT (ta : TA) : TI := fun σ H R => ta σ H fun vs H1 => ∃ a xs, vs = [.ref a] ∧ H1 a = some (.tup xs) ∧ R (ItET a xs) H1
theorem walk_enumS {x : Str} : Walk (ItES x) x.cps.size (fun _ => True) (YPair (fun i => some (.int (i : Nat))) (fun i => x.cps[i]?.map fun c => .str ⟨#[c]⟩)) := by
  refine ⟨fun _ _ hi _ => hi, fun _ _ => rfl, fun i H v H' _ _ y => ?_⟩
  obtain ⟨T, c, h1, h2, h3, h4⟩ := y
  exact ⟨T, _, _, h1, h2, h3, rfl, by show x.cps[i]?.map _ = _; rw [h4]; rfl⟩
theorem walk_enumT {a : Addr} {xs : List V} : Walk (ItET a xs) xs.length (fun H => H a = some (.tup xs)) (YPair (fun i => some (.int (i : Nat))) (fun i => xs[i]?)) := by
  refine ⟨fun _ _ hi q => ⟨q, hi⟩, fun _ q => ⟨q, rfl⟩, fun i H v H' _ _ y => ?_⟩
  obtain ⟨T, x, h1, h2, h3, h4⟩ := y
  exact ⟨T, _, _, h1, h2, h3, rfl, h4⟩
end
/-- a dict comprehension over a walk -/
theorem dc_it {J : It} {n : Nat} {G : Hp → Prop} {Y : Nat → Hp → V → Hp → Prop} (w : Walk J n G Y) {g : TG} {tt : TT} {tk tv : TE} {vs : List Nat} {σ : St} {H1 : Hp} {D : Addr} {Qd : Hp → Prop} (Pv : Nat → Hp → Prop) (h0 : Pv 0 (upd H1 D (.dK []))) (hG : ∀ i H, i ≤ n → Pv i H → G H)
    (hs : ∀ i x H H', i < n → Pv i H → Y i H x H' → g x (wipe σ vs) H' fun σ2 H2 => wipe σ2 vs = wipe σ vs ∧ tt σ2 H2 fun b H3 =>
      if b = true then tk σ2 H3 fun y H4 => tv σ2 H4 fun z H5 => ∃ kvs k, y = kV k ∧ H5 D = some (.dK kvs) ∧ kvs.length < sizeLine ∧ Pv (i + 1) (upd H5 D (.dK (putK kvs k z))) else Pv (i + 1) H3) (hd : ∀ H, Pv n H → Qd H) :
    ∃ W : Nat → Nat → Hp → Prop, (∃ m, W 0 m (upd H1 D (.dK []))) ∧ ∀ i m H, W i m H →
      (J.stop i H ∧ Qd H) ∨ (J.go i H ∧ ∃ Nx : Hp → Prop, (∀ H', Nx H' → ∃ m', m' < m ∧ W (i + 1) m' H') ∧ ∀ x H', J.yld i H x H' → g x (wipe σ vs) H' fun σ2 H2 => wipe σ2 vs = wipe σ vs ∧ tt σ2 H2 fun b H3 =>
        if b = true then tk σ2 H3 fun y H4 => tv σ2 H4 fun z H5 => ∃ kvs k, y = kV k ∧ H5 D = some (.dK kvs) ∧ kvs.length < sizeLine ∧ Nx (upd H5 D (.dK (putK kvs k z))) else Nx H3) := by
  refine ⟨fun i m H => m + i = n ∧ Pv i H, ⟨n, rfl, h0⟩, fun i m H ⟨em, p⟩ => ?_⟩
  have q := hG i H (by omega) p
  rcases Nat.lt_or_ge i n with hlt | hge
  · exact .inr ⟨w.goes i H hlt q, Pv (i + 1), fun H' p' => ⟨n - (i + 1), by omega, by omega, p'⟩, fun x H' y => hs i x H H' hlt p (w.yields i H x H' hlt q y)⟩
  · obtain rfl : i = n := by omega
    exact .inl ⟨w.stops H q, hd H p⟩
end SK
namespace SK
open PySem PySem.Spec PyProof.Rows L2 LamX NdefX
/-- enumerate(v) with no start -/
theorem enum_new1 {v : Value} {o : Obj} {C : Heap → Prop} (B : Begins v o C) :
    Meets (Builtin.«enumerate.__new__» ⟨[.type "enumerate", v], []⟩) (fun _ R s => C s.heap ∧
      R (.ok (.ret (.ref (s.heap.push o).objs.size))) { s with heap := (s.heap.push o).push { cls := .type "enumerate", data := .fields #[.none, .bool false, .ref s.heap.objs.size, rawInt 0, .none, .none] } }) :=
  .of_wp fun prog w A R s h => by
    obtain ⟨hp, g, d, tk, os⟩ := s
    obtain ⟨h1, h⟩ := h
    have sub0 := sub_enumerate
    have it0 : ∀ {A' : Around} {E : Value → Shared → Prop} {Q : Value → Shared → Prop}, Q (.ref hp.objs.size) ⟨hp.push o, g, d, tk, os⟩ → wpAny (model prog w) A' (pyIter v) Q E ⟨hp, g, d, tk, os⟩ :=
      fun q => B.iter prog w _ _ ⟨hp, g, d, tk, os⟩ _ h1 q
    wp_walk using it0
    refine wpAny_stack_any fun st => wpAny_pure ?_
    split
    · rename_i c _ _ _ _ _
      cases (c == Value.type "enumerate")
      all_goals
        wp_walk using it0
        exact ⟨_, rfl, h⟩
    · wp_walk using it0
      exact ⟨_, rfl, h⟩
end SK
namespace SK
open PySem PySem.Spec PyProof.Rows L2 LamX NdefX
section
variable {prog : Program} {w : World} {A : Around} {E : Value → Shared → Prop} {s : Shared}
theorem enum_tuple {a : Addr} {items : Array Value} {Q : Value → Shared → Prop} (ht : s.heap.IsTuple a items)
    (h : ∀ h', IsEnum h' (s.heap.objs.size + 1) s.heap.objs.size 0 .none → h'.IsTupleIter s.heap.objs.size a 0 → (∀ b o, s.heap.get? b = some o → h'.get? b = some o) → Q (.ref (s.heap.objs.size + 1)) { s with heap := h' }) :
    wpAny (model prog w) A (call (.type "enumerate") [.ref a]) Q E s := by
  refine callType_new F.called_enumerate (by decide) (F.typeCall_enumerate_1 _) (F.newCall_enumerate_1 _) (fun obj => F.args_object_init_2 obj _) F.entry_enumerate_new (enum_new1 (begins_tuple a items)) ⟨ht, ?_⟩
  generalize ho : ({ cls := .type "tuple_iterator", data := .fields #[.ref a, .int 0 0] } : Obj) = o
  have hfr : o.isFreed = false := by
    rw [← ho]
    rfl
  have hz : (s.heap.push o).objs.size = s.heap.objs.size + 1 := Heap.size_push ..
  show _ ∧ _
  rw [hz]
  have he : IsEnum ((s.heap.push o).push { cls := .type "enumerate", data := .fields #[.none, .bool false, .ref s.heap.objs.size, rawInt 0, .none, .none] }) (s.heap.objs.size + 1) s.heap.objs.size 0 .none := by
    have q := Heap.get?_push_size (s.heap.push o) (o := { cls := .type "enumerate", data := .fields #[.none, .bool false, .ref s.heap.objs.size, rawInt 0, .none, .none] }) rfl
    rw [hz] at q
    exact q
  have hi : (s.heap.push o).get? s.heap.objs.size = some o := Heap.get?_push_size _ hfr
  refine ⟨⟨_, he, rfl⟩, h _ he ⟨o, Heap.get?_push_of_some _ hi, by rw [← ho], by rw [← ho]; rfl⟩ fun b u q => Heap.get?_push_of_some _ (Heap.get?_push_of_some _ q)⟩
end
section
variable {X : Cx}
theorem pi_enumT {e : Expr} {ta : TA} {p pos tpos : Pos} {elts : List Expr} {kk : Nat} (hg : Gl X "enumerate") (hm : X.mg "enumerate" = none) (ha : PA X [e] ta) (hs : starEach [e] X.env = [(false, eval e X.env)] := by rfl) :
    PI X (.Tuple elts kk tpos) (.Call (.Name "enumerate" p) [e] [] pos) (iEnumT ta) := by
  refine ⟨fun pins s σ H R I h => ?_⟩
  refine Call_ (ld_blt I hg hm boot_enumerate (PyProof.Rows.callWith_type1 (thn (ha.run pos pins s σ H _ I h) fun us s1 ⟨vs, H1, I1, r1, q1⟩ => ?_) hs rfl))
  obtain ⟨a, xs, rfl, hq, q⟩ := q1
  obtain ⟨u, rfl, ru⟩ := vals1 r1
  obtain rfl : u = Value.ref a := ru
  obtain ⟨its, rv, pt, hz⟩ := I1.tuple (.inl (.inl hq))
  have pt' : s1.heap.IsTuple a its.toArray := pt
  refine enum_tuple pt' fun h' he hit hk => wpAny_pyIter_enum he ?_
  have I2 : Inv X pins σ H1 { s1 with heap := h' } := I1.kept (t' := s1.toks) hk
  refine ⟨s1.heap.objs.size + 1, [s1.heap.objs.size + 1, s1.heap.objs.size], _, _, H1, rfl, I2, turn_enumT a xs (s1.heap.objs.size + 1) s1.heap.objs.size, ⟨⟨.none, he⟩, hit, Nat.succ_ne_self _⟩, fun b hb => ?_, q⟩
  have hle : s1.heap.objs.size ≤ b := by
    simp only [List.mem_cons, List.mem_nil_iff, or_false] at hb
    rcases hb with z | z
    · rw [z]; exact Nat.le_add_right _ _
    · rw [z]; exact Nat.le_refl _
  exact I1.fpOk hle (I1.hok.fresh hle)
/-- y = {k: v for .. in ..}, y a local name -/
theorem ps_setDc {i : Nat} {y : Str} {py : Pos} {kx vx tg iter : Expr} {ifs : List Expr} {scope : Scope} {own : List (Str × Nat)} {pos spos : Pos} {wi : TI} {g : TG} {tt : TT} {tk tv : TE} (hc : X.calm = true) (hN : X.N.Nodup) (hy : X.N[i]? = some y) (hyl : X.env.scope.names.lookup y = some .local)
    (hsw : swapsWith (.DictComp kx vx [⟨tg, iter, ifs, 0⟩] scope pos) (some (.Name y py)) spos.line X.env = pure true) (hi : PI X tg iter wi) (ok : BlkOk X.N X.env.scope scope own)
    (hg : ∀ (s : Shared) (H : Hp) (C : Addr) (cl : List (Str × Addr)) (fp : List Addr), PG (X.blk s H scope (compEnvC scope cl C X.env) fp) tg g) (ht : ∀ (s : Shared) (H : Hp) (C : Addr) (cl : List (Str × Addr)) (fp : List Addr), PTs (X.blk s H scope (compEnvC scope cl C X.env) fp) ifs tt)
    (hk : ∀ (s : Shared) (H : Hp) (C : Addr) (cl : List (Str × Addr)) (fp : List Addr), PE (X.blk s H scope (compEnvC scope cl C X.env) fp) kx tk)
    (he : ∀ (s : Shared) (H : Hp) (C : Addr) (cl : List (Str × Addr)) (fp : List Addr), PE (X.blk s H scope (compEnvC scope cl C X.env) fp) vx tv) (hs : ∀ x, foldedSetIterable iter X.env x = pure x := by intro _; rfl) :
    PS X (.Assign [.Name y py] (.DictComp kx vx [⟨tg, iter, ifs, 0⟩] scope pos) spos) (tAsg (tDc wi g tt tk tv (own.map (·.2))) (gName i)) := by
  refine ⟨fun pins s σ H D I h => ?_⟩
  rw [exec_Assign_Name_used _ _ _ _ hsw]
  refine wpAny_bind (wpAny_standAt (wpAny_bind ?_))
  show wpAny _ X.A (do let _ ← comprehension (.DictComp kx vx [⟨tg, iter, ifs, 0⟩] scope pos) scope X.env (firstIterPos [⟨tg, iter, ifs, 0⟩] pos) newDict false (eval iter X.env) (some (assign (.Name y py) X.env))) _ _ s
  have hh : tDc wi g tt tk tv (own.map (·.2)) σ H (fun x H1 => gName i x σ H1 D.nx) := h
  refine wpAny_bind (thn (dc_core (Qf := fun _ s' => SP X pins D .next s') hc hN I hi ok hg ht hk he hs hh fun L C s' m H' I' q hn f => ?_) fun _ s' hq => wpAny_pure (wpAny_pure hq))
  show wpAny _ _ (assign (.Name y py) X.env (.ref L)) _ _ _
  refine wpAny_assign_Name (store_ok2 (v := V.ref L) I' hN hy (.inl hyl) rfl (fun s2 I2 ⟨a, sb, ha⟩ => ?_) (.inr hyl))
  obtain ⟨f0, f1, f2, f3, f4, f5⟩ := f
  have haC : C ≠ a := ha.elim (fun z => by rw [z]; exact f1) fun z e => f4 y a z e.symm
  refine ⟨m, hn.sameBut sb haC, fun h3 sb3 => ?_⟩
  exact ⟨_, H', I2.turned (t' := s2.toks) (fun b o hb e => (sb3.2 b hb).trans e) f0 f1 f3 f4 f5, q⟩
theorem swD_true {kx vx : Expr} {gs : List Comprehension} {scope : Scope} {pos py : Pos} {y : Str} {l : Nat} {env : Env} (hk : env.scope.kind = .function) (hy : env.scope.names.lookup y = some .local) (hl : (py.line == pos.line) = true)
    (ha : (scope.names.any fun (n, k) => n == y && (k == .local || k == .cell)) = false) : swapsWith (.DictComp kx vx gs scope pos) (some (.Name y py)) l env = pure true := by
  have ky : env.kindOf y = some .local := hy
  have hb : env.blockKind = .function := by
    unfold Env.blockKind
    rw [hk]
    rfl
  unfold swapsWith
  simp only [hb, ky, ha, Expr.pos, hl]
  rfl
end
end SK
namespace SK
open PySem PySem.Spec PyProof.Rows L2 LamX NdefX
def retE : Stmt → Expr
  | .Return (some e) _ => e
  | _ => .Name "" ⟨0, 0, 0, 0⟩
def kwE : Expr → Expr
  | .Call _ _ [k] _ => k.value
  | e => e
def lamSc : Expr → Scope
  | .Lambda _ _ s _ => s
  | _ => { kind := .function, names := [], isGenerator := false, isCoroutine := false, more := [] }
theorem upd_new {p : Addr} {o : HO} {H : Hp} (n : H p = none) : Same H (upd H p o) := fun c u h => by
  rw [upd_ne (ne_of_none h n)]
  exact h
def top (i : Nat) : Stmt := PySem.Challenge.pw_lettertrees_k28_cells_of_ways.main.body.getD i (.Pass ⟨0, 0, 0, 0⟩)
/-- a def of the top whose code object is known -/
structure FunT (K : PySem.W.Frag) (x qual : Str) (st : Stmt) (f : Addr) (fd : FuncData) (c : Addr) : Prop where
  ex : ∃ (oc : Value) (od : Option Addr) (kV doc pm : Value) (an : Option Addr) (ct : Value) (osl : Array (Option Value)),
    fd = PySem.W.fnOf x qual (defArgs st) (defBody st) (defScope st) .none kV doc pm an (.ref c) ct ∧ K.lookup f = some ⟨oc, od, .func fd, osl⟩ ∧ PySem.W.codeIn K (.ref c) qual = true
  kp : PySem.W.keepIn K (.ref f) = true
theorem FunT.ok {P : Program} {w : World} {K : PySem.W.Frag} {mg : Str → Option Value} {base : Heap} {x qual : Str} {st : Stmt} {f c : Addr} {fd : FuncData} {N ps : List Str} {k : Nat} {sp : Sp} (F : FunT K x qual st f fd c) (S : FnScope N ps (defScope st)) (len : ∀ vs H Q E, sp vs H Q E → vs.length = ps.length)
    (hbody : ∀ (A : Around) (outer : List Env) (s : Shared) (H : Hp) (vs : List V) (Q : VK) (E : XK), Room k (A.deeper (envOfC qual (defScope st) s.heap.objs.size f (.ref c))) → sp vs H Q E →
      ∃ t, PSs (cxOf CX0 P w K mg base N qual (defScope st) f (.ref c) A outer s H E).nox (defBody st) t ∧ t { nx := fun _ H' => Q .non H', rt := Q } (start N vs) H) : FnOk P w K mg base CX0 (k + 1) f fd ps sp := by
  obtain ⟨oc, od, kV, doc, pm, an, ct, osl, rfl, lk, hcd⟩ := F.ex
  refine fn_of lk hcd S len fun A outer s H vs Q E hr hsp => ?_
  obtain ⟨t, h, q⟩ := hbody A outer s H vs Q E hr hsp
  exact ⟨t, h.nox, q⟩
/-! ### the order of words -/
def alpha : Str := "abcdefghijklmnopqrstuvwxyz"
structure OkL (ls : Str) : Prop where
  lo : 2 ≤ ls.cps.size
  hi : ls.cps.size ≤ 26
  nd : ls.cps.toList.Nodup
  al : ∀ c ∈ ls.cps.toList, 97 ≤ c ∧ c < 123
def rankOf (ls : Str) (c : Nat) : Nat := ls.cps.toList.idxOf c
def keyW (ls w : Str) : Str := ⟨(w.cps.toList.map fun c => 97 + rankOf ls c).toArray⟩
def OverL (ls w : Str) : Prop := w.cps.size ≤ 200 ∧ ∀ c ∈ w.cps.toList, c ∈ ls.cps.toList
def sortW (ls : Str) (ws : List Str) : List Str := ws.mergeSort (PySem.W.dataLe false fun x => .str (keyW ls x))
theorem alpha_at {i : Nat} (h : i < 26) : alpha.cps.toList[i]? = some (97 + i) := by
  have z : ∀ j < 26, alpha.cps.toList[j]? = some (97 + j) := by decide +kernel
  exact z i h
theorem join_chars : ∀ l : List Nat, Str.join (Str.ofString "") (l.map fun c => (⟨#[c]⟩ : Str)) = ⟨l.toArray⟩
  | [] => rfl
  | [c] => rfl
  | c :: d :: r => by
    have ih := join_chars (d :: r)
    simp only [List.map_cons] at ih ⊢
    show ((⟨#[c]⟩ : Str) ++ Str.ofString "") ++ Str.join (Str.ofString "") ((⟨#[d]⟩ : Str) :: r.map fun c => ⟨#[c]⟩) = _
    rw [ih]
    show (⟨(#[c] ++ (Str.ofString "").cps) ++ (d :: r).toArray⟩ : Str) = _
    have z : (Str.ofString "").cps = #[] := by decide +kernel
    rw [z]
    simp
theorem txt_join_chars (l : List Nat) : Txt.join (Str.ofString "") (l.map fun c => (⟨#[c]⟩ : Str)) = ⟨l.toArray⟩ := by
  show Builtin.Str.glued (Str.ofString "") _ = _
  rw [StrLaws.glued_eq_join]
  exact join_chars l
theorem ndW : (["word", "ranks", "sign"] : List Str).Nodup := by decide +kernel
theorem sum_ones (l : List Nat) : ((l.map fun c => (⟨#[c]⟩ : Str)).map (·.length)).sum = l.length := by
  induction l with
  | nil => rfl
  | cons c r ih =>
    simp only [List.map_cons, List.sum_cons, ih, List.length_cons]
    show 1 + r.length = _
    omega
theorem Same.extN {H H' : Hp} (s : Same H H') : ExtN H H' := ExtN.of s
def rJoin (K : PySem.W.Frag) : V → List V → Hp → VK → Prop := fun x xs H Q => ∃ a p, ∃ ys : List Str, x = .str a ∧ xs = [.ref p] ∧ (SqL K H p (ys.map V.str) ∨ SqT K H p (ys.map V.str)) ∧ (ys.map (·.length)).sum + ys.length * a.length ≤ 16777216 ∧ Q (.str (Txt.join a ys)) H
def tKey (K : PySem.W.Frag) : TE := tBM K "str" (rJoin K) (tC (.str "")) (tCons (tLc (iStr (tVar 0)) (gName 2) tYes (tDGet (tVar 1) (tVar 2)) [2]) tNil)
def spOrder (K : PySem.W.Frag) (T : List (Addr × Str)) : Sp := fun vs H Q _ => ∃ (ls : Str) (a : Addr) (ws : List Str), vs = [.str ls, .ref a] ∧ OkL ls ∧ SqL K H a (ws.map V.str) ∧ (∀ y ∈ ws, OverL ls y) ∧ Tabs T H ∧
  ∀ (H' : Hp) (p : Addr), ExtN H H' → Tabs T H' → H' p = some (.lst ((sortW ls ws).map V.str)) → Q (.ref p) H'
section
variable {P : Program} {w : World} {K : PySem.W.Frag} {mg : Str → Option Value} {base : Heap} {f c Pt : Addr} {fd : FuncData} {T : List (Addr × Str)}
theorem sc17 : FnScope ["letters", "words", "ranks", "rank", "letter"] ["letters", "words"] (defScope (top 17)) := ⟨rfl, rfl, rfl, by decide +kernel, rfl, by decide +kernel, by decide +kernel⟩
theorem ok_order (F : FunT K "in_order" "in_order" (top 17) f fd c) (gE : mg "enumerate" = none) (gS : mg "sorted" = none) {tA : Tok} (gA : mg "ALPHABET" = some (.str alpha tA)) (TB : TabB base mg c Pt) (hm : (Pt, ("in_order" : Str) ++ ".<locals>." ++ "<lambda>") ∈ T) (hu : ∀ p ∈ T, p.1 = Pt → p.2 = ("in_order" : Str) ++ ".<locals>." ++ "<lambda>") :
    FnOk P w K mg base CX0 5 f fd ["letters", "words"] (spOrder K T) := by
  refine F.ok sc17 (fun vs H Q E h => ?_) (fun A outer s H vs Q E hr h => ?_)
  · obtain ⟨ls, a, ws, rfl, _⟩ := h
    rfl
  · obtain ⟨ls, a, ws, rfl, hL, hS, hW, hT, kk⟩ := h
    refine ⟨_, pss_cons (ps_set (i := 2) sc17.nd rfl (Or.inr rfl) (pe_dc (own := [("rank", 3), ("letter", 4)]) (g := gTup K 2 (gCons (gName 3) (gCons (gName 4) gNil))) (tt := tYes) rfl sc17.nd (pi_enumS (by rfl) gE (pa_cons (pv 0) pa_nil))
      (blkOk_by (N := ["letters", "words", "ranks", "rank", "letter"]) (sc := defScope (top 17)) (by decide +kernel)) (fun _ _ _ _ _ => pg_tup rfl (pgs_cons (pg_name (i := 3) sc17.nd rfl (Or.inl rfl)) (pgs_cons (pg_name (i := 4) sc17.nd rfl (Or.inl rfl)) pgs_nil)))
      (fun _ _ _ _ _ => pts_nil) (fun _ _ _ _ _ => pv 4) (fun _ _ _ _ _ => pe_ix ix_str (pe_glob (v := V.str alpha) (by rfl) gA ⟨_, rfl⟩) (pv 3) (fun _ _ => rfl))))
      (pss_one (ps_ret (pe_sortkey (tb := tKey K) (k := 1) (N := ["word", "ranks", "sign"]) (fr := ["ranks"]) (a1 := "word") (js := [2]) (by rfl) gS (pv 1) TB rfl hm hu hr rfl (nscope_by (by decide +kernel)) (show ndefB (defScope (top 17)) (lamSc (kwE (retE ((defBody (top 17)).getD 1 (.Pass ⟨0, 0, 0, 0⟩))))) ["ranks"] = true by decide +kernel) rfl rfl (fun _ _ _ _ _ _ => rfl)
        (fun A2 outer2 s2 H2 f2 c2 cl2 hr2 =>
          pe_bm PySem.F.plainAttrs_str PySem.F.slot_str_join PySem.F.type_str_join mt_join pe_str (pa_cons (pe_lc (own := [("sign", 2)]) (g := gName 2) (tt := tYes) rfl ndW (pi_str (pv 0))
            (blkOk_by (N := ["word", "ranks", "sign"]) (sc := lamSc (kwE (retE ((defBody (top 17)).getD 1 (.Pass ⟨0, 0, 0, 0⟩))))) (by decide +kernel)) (fun _ _ _ _ _ => pg_name (i := 2) ndW rfl (Or.inl rfl)) (fun _ _ _ _ _ => pts_nil) (fun _ _ _ _ _ => pe_dget (hu_of hr2) (pv 1) (pv 2) (fun _ _ => rfl))) pa_nil))))), ?_⟩
    refine ⟨V.str ls, rfl, ls, rfl, fun D hD => dc_it walk_enumS (fun i H1 => ∃ kvs : List (Key × V), H1 D = some (.dK kvs) ∧ kvs.length ≤ i ∧ Same H H1 ∧ ∀ j c, j < i → ls.cps[j]? = some c → valV kvs (.inr ⟨#[c]⟩) = some (.str ⟨#[97 + j]⟩))
      ⟨[], upd_same, Nat.le_refl _, upd_new hD, fun j c h => absurd h (Nat.not_lt_zero _)⟩ (fun _ _ _ _ => trivial) ?_ ?_⟩
    · rintro i x H1 H2 hi ⟨kvs, hd, hl, sm, hv⟩ ⟨T1, x1, y1, rfl, nT, rfl, ex, ey⟩
      obtain rfl : V.int (i : Nat) = x1 := Option.some.inj ex
      obtain ⟨cc, hcc, rfl⟩ : ∃ cc, ls.cps[i]? = some cc ∧ V.str ⟨#[cc]⟩ = y1 := by
        have ey' : (ls.cps[i]?.map fun c => V.str ⟨#[c]⟩) = some y1 := ey
        cases q : ls.cps[i]? with
        | none =>
          rw [q] at ey'
          cases ey'
        | some cc =>
          rw [q] at ey'
          exact ⟨cc, rfl, Option.some.inj ey'⟩
      have hi26 : i < 26 := Nat.lt_of_lt_of_le hi hL.hi
      have nDT : D ≠ T1 := fun z => by
        rw [← z, hd] at nT
        cases nT
      refine ⟨T1, _, rfl, .inl (.inl upd_same), rfl, _, _, rfl, _, _, rfl, rfl, rfl, ?_⟩
      refine ⟨V.str ⟨#[cc]⟩, rfl, V.int i, rfl, alpha, (i : Int), 97 + i, rfl, rfl, (by decide +kernel), atI_nat (alpha_at hi26), kvs, .inr ⟨#[cc]⟩, rfl, (upd_ne nDT).trans hd, Nat.lt_of_le_of_lt hl (Nat.lt_trans hi26 (by decide)), _, upd_same, ?_, ?_, fun j c hj hc => ?_⟩
      · have z := length_putK kvs (.inr ⟨#[cc]⟩ : Key) (V.str ⟨#[97 + i]⟩)
        omega
      · exact fun b o e => by
          have nb : b ≠ D := ne_of_none e hD
          rw [upd_ne nb]
          exact upd_new nT _ _ (sm _ _ e)
      · rw [valV_put]
        by_cases hji : j = i
        · subst hji
          rw [hcc] at hc
          obtain rfl := Option.some.inj hc
          rw [if_pos rfl]
        · have hlt : j < i := by omega
          have hne : ¬ ((.inr ⟨#[c]⟩ : Key) = .inr ⟨#[cc]⟩) := fun z => by
            have z2 : c = cc := by
              injection z with z
              injection z with z
              simpa using z
            subst z2
            have h1 : ls.cps.toList[j]? = some c := by simpa using hc
            have h2 : ls.cps.toList[i]? = some c := by simpa using hcc
            exact hji (nd_ix hL.nd h1 h2)
          rw [if_neg hne]
          exact hv j c hlt hc
    rintro H1 ⟨kvs, hd, hl, sm, hv⟩
    have look : ∀ cc ∈ ls.cps.toList, valV kvs (.inr ⟨#[cc]⟩) = some (.str ⟨#[97 + rankOf ls cc]⟩) := fun cc hcc => by
      have hlt : ls.cps.toList.idxOf cc < ls.cps.toList.length := List.idxOf_lt_length_of_mem hcc
      refine hv _ cc (by simpa [rankOf] using hlt) ?_
      have z : ls.cps.toList[ls.cps.toList.idxOf cc]? = some cc := by
        rw [List.getElem?_eq_getElem hlt, List.getElem_idxOf]
      simpa [rankOf] using z
    refine ⟨V.ref a, rfl, a, ws, keyW ls, rfl, sm.seq hS, hT.ext sm, ExtN.of sm, fun H2 eN T2 => ⟨fun y hy H3 sm3 => ?_, fun H5 p np sm5 h5 => ?_⟩⟩
    · have hd3 : H3 D = some (.dK kvs) := sm3 _ _ (eN _ _ hd fun ps z => nomatch z)
      obtain ⟨hy1, hy2⟩ := hW y hy
      refine ⟨rfl, V.str y, rfl, y, rfl, fun D2 nD2 => lc_it walk_str (fun i H' => Same H3 H' ∧ H' D2 = some (.lst ((y.cps.toList.take i).map fun c => V.str ⟨#[97 + rankOf ls c]⟩))) ⟨upd_new nD2, upd_same⟩ (fun _ _ _ _ => trivial) ?_ ?_⟩
      · rintro i x H4 H5 hi ⟨s4, h4⟩ ⟨rfl, cc, hcc, rfl⟩
        have hm : cc ∈ y.cps.toList := by
          have z : y.cps.toList[i]? = some cc := by simpa using hcc
          exact List.mem_of_getElem? z
        have et : y.cps.toList.take (i + 1) = y.cps.toList.take i ++ [cc] := by
          have z : y.cps.toList[i]? = some cc := by simpa using hcc
          rw [List.take_add_one, z]
          rfl
        have dg := DGet.k (k := (.inr ⟨#[cc]⟩ : Key)) (s4 _ _ hd3)
        rw [look cc (hy2 cc hm)] at dg
        refine ⟨rfl, V.ref D, rfl, V.str ⟨#[cc]⟩, rfl, D, _, rfl, dg, _, h4, ?_, fun b o e => ?_, ?_⟩
        · rw [List.length_map, List.length_take]
          have z : (200 : Nat) < sizeLine := by decide
          omega
        · rw [upd_ne (ne_of_none e nD2)]
          exact s4 _ _ e
        · rw [et, List.map_append]
          exact upd_same
      · rintro H4 ⟨s4, h4⟩
        have e1 : y.cps.toList.take y.cps.size = y.cps.toList := List.take_of_length_le (by simp)
        rw [e1] at h4
        have e2 : (y.cps.toList.map fun c => V.str ⟨#[97 + rankOf ls c]⟩) = ((y.cps.toList.map fun c => 97 + rankOf ls c).map fun c => (⟨#[c]⟩ : Str)).map V.str := by
          rw [List.map_map, List.map_map]
          rfl
        rw [e2] at h4
        refine ⟨"", D2, _, rfl, rfl, .inl (.inl (.inl h4)), ?_, ?_, s4⟩
        · rw [sum_ones]
          have z : (Str.ofString "").length = 0 := by decide
          rw [z, List.length_map, Array.length_toList]
          omega
        · rw [txt_join_chars]
          rfl
    · exact kk H5 p ((ExtN.of sm).trans (eN.trans (ExtN.of sm5))) (T2.ext sm5) h5
end
end SK
/-! ### set(a text) -/
namespace SK
/-- the different ones, as they are met -/
def nub (l : List Nat) : List Nat := l.foldl (fun acc c => if c ∈ acc then acc else acc ++ [c]) []
theorem nub_snoc (l : List Nat) (c : Nat) : nub (l ++ [c]) = if c ∈ nub l then nub l else nub l ++ [c] := by
  unfold nub
  rw [List.foldl_append]
  rfl
theorem snoc_ind {p : List Nat → Prop} (h0 : p []) (hs : ∀ l c, p l → p (l ++ [c])) : ∀ l, p l := fun l => by
  have z : ∀ r : List Nat, p r.reverse := fun r => by
    induction r with
    | nil => exact h0
    | cons c r ih =>
      rw [List.reverse_cons]
      exact hs _ _ ih
  have q := z l.reverse
  rw [List.reverse_reverse] at q
  exact q
theorem mem_nub (c : Nat) : ∀ l, c ∈ nub l ↔ c ∈ l := snoc_ind (by simp [nub]) fun l d ih => by
  rw [nub_snoc]
  by_cases h : d ∈ nub l
  · rw [if_pos h, List.mem_append, ih]
    constructor
    · exact .inl
    · rintro (z | z)
      · exact z
      · obtain rfl := List.mem_singleton.mp z
        exact ih.mp h
  · rw [if_neg h, List.mem_append, List.mem_append, ih]
theorem nub_le : ∀ l, (nub l).length ≤ l.length := snoc_ind (by simp [nub]) fun l d ih => by
  rw [nub_snoc, List.length_append]
  split
  · simp; omega
  · simp; omega
theorem nub_nodup : ∀ l, ((nub l).length = l.length) ↔ l.Nodup := snoc_ind (by simp [nub]) fun l d ih => by
  have le := nub_le l
  rw [nub_snoc, List.nodup_append]
  by_cases h : d ∈ nub l
  · rw [if_pos h]
    have hl := (mem_nub d l).mp h
    constructor
    · intro z
      simp at z
      omega
    · rintro ⟨_, _, z⟩
      exact absurd rfl (z d hl d (by simp))
  · rw [if_neg h]
    have hl : d ∉ l := fun z => h ((mem_nub d l).mpr z)
    constructor
    · intro z
      refine ⟨ih.mp (by simpa using z), by simp, fun a ha b hb e => ?_⟩
      obtain rfl := List.mem_singleton.mp hb
      exact hl (e ▸ ha)
    · rintro ⟨z, _, _⟩
      have := ih.mpr z
      simp [this]
end SK
namespace SK
open PySem PyProof.Rows
/-- what a set of the signs of l holds -/
def inSigns (l : List Nat) (k : Str) : Bool := (nub l).any fun c => decide (k = ⟨#[c]⟩)
theorem inSigns_one (l : List Nat) (c : Nat) : inSigns l ⟨#[c]⟩ = decide (c ∈ nub l) := by
  unfold inSigns
  by_cases h : c ∈ nub l
  · rw [decide_eq_true h]
    exact List.any_eq_true.mpr ⟨c, h, by simp⟩
  · rw [decide_eq_false h, List.any_eq_false]
    intro d hd
    simp only [decide_eq_true_eq]
    intro z
    have : c = d := by
      injection z with z
      simpa using z
    exact h (this ▸ hd)
theorem inSigns_snoc (l : List Nat) (c : Nat) (k : Str) : inSigns (l ++ [c]) k = (inSigns l k || decide (k = ⟨#[c]⟩)) := by
  unfold inSigns
  rw [nub_snoc]
  by_cases h : c ∈ nub l
  · rw [if_pos h]
    by_cases e : k = ⟨#[c]⟩
    · have z : ((nub l).any fun c => decide (k = ⟨#[c]⟩)) = true := List.any_eq_true.mpr ⟨c, h, by simp [e]⟩
      rw [z, Bool.true_or]
    · rw [decide_eq_false e, Bool.or_false]
  · rw [if_neg h, List.any_append]
    simp
section
variable {prog : Program} {w : World} {A : Around} {R : Result → Shared → Prop} {I : Addr} {fp wr : List Addr} {G : Array GenState → Array GenState → Prop} {St : Nat → Shared → Prop}
theorem loop_text (x : Str) (W : WalksS prog w A.in1 I fp wr G x.cps.size (SignAt x) St) (S : Addr) (hSf : S ∉ fp) (hz : x.cps.size + 1 < scanBound) : ∀ (m i : Nat) (s : Shared), m + i = x.cps.size → St i s →
    s.heap.SetOf (strKind prog w) S (inSigns (x.cps.toList.take i)) (nub (x.cps.toList.take i)).length →
    (∀ s', Moved (S :: wr) G s s' → s'.heap.SetOf (strKind prog w) S (inSigns x.cps.toList) (nub x.cps.toList).length → R (.ok (.ret .none)) s') →
    codeAny (model prog w) A (.builtin "set.update.loop" ⟨[.ref S, .ref I], []⟩) R s := by
  have hSw : S ∉ wr := fun h => hSf (W.sub _ h)
  have sub : ∀ b ∈ wr, b ∈ S :: wr := fun b hb => List.mem_cons_of_mem _ hb
  have same : ∀ {i : Nat} {s s' : Shared}, Moved wr G s s' → s.heap.SetOf (strKind prog w) S (inSigns (x.cps.toList.take i)) (nub (x.cps.toList.take i)).length → s'.heap.SetOf (strKind prog w) S (inSigns (x.cps.toList.take i)) (nub (x.cps.toList.take i)).length := fun hm ⟨o, es, ep, tb, ho, r⟩ =>
    ⟨o, es, ep, tb, hm.heap S _ hSw ho, r⟩
  intro m
  induction m with
  | zero =>
    intro i s hk st hS hR
    obtain rfl : i = x.cps.size := by omega
    refine codeAny_builtin PyProof.Rows.F.entry_set_update_loop ?_
    rw [Around.under_plainId PyProof.Rows.F.plain_set_update_loop _]
    show wpAny _ A.in1 (pyNext (.ref I) >>= _) _ _ s
    refine wpAny_bind (W.done s _ _ st fun s' hm => ?_)
    have e : x.cps.toList.take x.cps.size = x.cps.toList := List.take_of_length_le (by simp)
    have q := same hm hS
    rw [e] at q
    show wpAny _ A.in1 (ret Value.none) _ _ s'
    exact wpAny_pure (hR s' (hm.mono sub) q)
  | succ m ih =>
    intro i s hk st hS hR
    have hlt : i < x.cps.size := by omega
    refine codeAny_builtin PyProof.Rows.F.entry_set_update_loop ?_
    rw [Around.under_plainId PyProof.Rows.F.plain_set_update_loop _]
    show wpAny _ A.in1 (pyNext (.ref I) >>= _) _ _ s
    refine wpAny_bind (W.item i s _ _ hlt st fun v s' hP st' hm => ?_)
    obtain ⟨c, t, hc, rfl⟩ := hP
    have q := same hm hS
    have e : x.cps.toList.take (i + 1) = x.cps.toList.take i ++ [c] := by
      have z : x.cps.toList[i]? = some c := by simpa using hc
      rw [List.take_add_one, z]
      rfl
    show wpAny _ A.in1 (holding [Value.str ⟨#[c]⟩ t] (setAdd S (.str ⟨#[c]⟩ t)) >>= _) _ _ s'
    refine wpAny_bind (wpAny_holding ?_)
    unfold setAdd
    refine wpAny_holding ?_
    have isk : (strKind prog w).is (⟨#[c]⟩ : Str) (.str ⟨#[c]⟩ t) = true := Froz.is_str _ _
    refine wpAny_bind ((strKind prog w).pyHash (k := (⟨#[c]⟩ : Str)) isk ?_)
    have room : (nub (x.cps.toList.take i)).length + 1 < scanBound := by
      have h1 := nub_le (x.cps.toList.take i)
      rw [List.length_take] at h1
      omega
    refine wpAny_setAddHashed_of (knd := strKind prog w) (s := { s' with toks := s'.toks + 1 }) isk rfl q room fun h' hsb hS2 => ?_
    have hSi : h'.SetOf (strKind prog w) S (inSigns (x.cps.toList.take (i + 1))) (nub (x.cps.toList.take (i + 1))).length := by
      rw [e]
      refine SetOf_congr hS2 (fun k => (inSigns_snoc _ c k).symm) ?_
      rw [inSigns_one, nub_snoc]
      by_cases hm : c ∈ nub (x.cps.toList.take i)
      · rw [if_pos hm, if_pos (decide_eq_true hm)]
      · rw [if_neg hm, if_neg (by rw [decide_eq_false hm]; exact Bool.false_ne_true), List.length_append]
        rfl
    refine wpAny_pure ⟨plainId_quiet PyProof.Rows.F.plain_set_update_loop _, ih (i + 1) _ (by omega) (W.frame _ s' _ _ st' (Nat.le_succ _) fun b hb o z => ?_) hSi fun s2 hm2 hS3 => ?_⟩
    · have nb : b ≠ S := fun h => hSf (h ▸ hb)
      exact (hsb.2 b nb).trans z
    · refine hR s2 (Moved.trans W.gtrans ((hm.mono sub).then_heap (Nat.le_succ _) fun b o hb z => ?_) hm2) hS3
      have nb : b ≠ S := fun h => hb (by rw [h]; exact List.mem_cons_self)
      exact (hsb.2 b nb).trans z
end
end SK
namespace SK
open PySem PyProof.Rows
theorem sub_str_set : isSubtype (.type "str") (.type "set") = pure false := by
  rw [isSubtype_type]
  kernel_rfl
theorem sub_str_froz : isSubtype (.type "str") (.type "frozenset") = pure false := by
  rw [isSubtype_type]
  kernel_rfl
section
variable {prog : Program} {w : World} {A : Around} {E : Value → Shared → Prop} {s : Shared}
theorem call_set_text {x : Str} {t : Tok} {Q : Value → Shared → Prop} (hh : A.handled = none) (ha : x.cps.all (· < 128) = true) (hz : x.cps.size + 1 < scanBound)
    (h : ∀ (h' : Heap) (tk : Nat), h'.SetOf (strKind prog w) s.heap.objs.size (inSigns x.cps.toList) (nub x.cps.toList).length → (∀ b o, b < s.heap.objs.size → s.heap.get? b = some o → h'.get? b = some o) →
      Q (.ref s.heap.objs.size) { s with heap := h', toks := tk }) : wpAny (model prog w) A (call (.type "set") [.str x t]) Q E s := by
  obtain ⟨c, tl, hmro⟩ := PySem.F.called_set.mro
  have made := PySem.F.called_set.made
  have subs := PySem.F.called_set.sub
  refine wpAny_call (codeAny_of_tree ?_)
  show wpAny _ _ (callAny (.type "set") _) _ _ _
  refine wpAny_pure ⟨Code.quiet_builtin _ (by decide +kernel), codeAny_builtin PySem.F.entry_type_call ?_⟩
  rw [Around.under_plain (weight_type_call_type "set" [.str x t] []) rfl]
  have f1 := PySem.F.called_set.notType
  have f2 := PySem.F.called_set.canCreate
  have f3 := PySem.F.typeCall_set_1 (.str x t)
  repeat (any_goals (first | assumption | wp_step))
  refine codeAny_mono (code_set_new_1 (.str x t) (E := E) (Q₁ := fun obj s₁ => ∃ led : Bool, obj = .ref s.heap.objs.size ∧ s₁ = { s with heap := s.heap.push { cls := .type "set", dict := none, data := .set #[] 0 (.fresh 0 0 led) } }) fun led => ⟨led, rfl, rfl⟩) fun r s1 hr => ?_
  cases r with
  | error e => exact hr
  | ok fl =>
    cases fl with
    | ret obj =>
      obtain ⟨led, rfl, rfl⟩ := hr
      generalize hoo : ({ cls := .type "set", dict := none, data := .set #[] 0 (.fresh 0 0 led) } : Obj) = oo
      have fro : oo.isFreed = false := by rw [← hoo]; rfl
      have hS : (s.heap.push oo).get? s.heap.objs.size = some oo := Heap.get?_push_size _ fro
      have hT : Shared.TypeIs { s with heap := s.heap.push oo } (.ref s.heap.objs.size) "set" := ⟨_, hS, by rw [← hoo]⟩
      have hli := PySem.F.called_set.init.lookup
      have hbi := PySem.F.called_set.init.bind (.ref s.heap.objs.size)
      repeat (any_goals (first | assumption | wp_step))
      refine codeAny_mono (codeAny_call_builtin (R := wants (fun r s₂ => r = .none ∧ ∃ h' tk, s₂ = { s with heap := h', toks := tk } ∧ h'.SetOf (strKind prog w) s.heap.objs.size (inSigns x.cps.toList) (nub x.cps.toList).length ∧
          (∀ b o, b < s.heap.objs.size → s.heap.get? b = some o → h'.get? b = some o)) E) PySem.F.called_set.init.plain PySem.F.entry_set_init (check_set_init_1 hT ?_)) fun r2 s2 hr2 => ?_
      · subst hoo
        have g1 := sub_str_set
        have g2 := sub_str_froz
        unfold Builtin.«set.__init__» noKeywords Builtin.Frozenset.updateFrom
        generalize hPI : pyIter = PI
        wp_walk
        subst hPI
        refine wpAny_pyIter_ascii ha ?_
        refine wpAny_bind (wpAny_runValue ?_)
        have hh3 : A.in1.in1.in1.handled = none := by simp [hh]
        generalize hoo : ({ cls := .type "set", dict := none, data := .set #[] 0 (.fresh 0 0 led) } : Obj) = oo at hS hT ⊢
        have sz : (s.heap.push oo).objs.size = s.heap.objs.size + 1 := Heap.size_push ..
        refine loop_text x ((Walks.strAscii hh3 (s.heap.push oo).objs.size x t).toS) s.heap.objs.size (by rw [sz]; simp) hz x.cps.size 0 _ (by omega) ⟨_, Heap.get?_push_size _ rfl, rfl, rfl⟩ ?_ fun s' hm hS' => ?_
        · have hget := Heap.get?_push_of_some ({ cls := .type "str_ascii_iterator", data := .fields #[.str x t, .int 0 0] } : Obj) hS
          rw [← hoo] at hget ⊢
          exact SetOf_congr ((setObjOf_fresh (knd := strKind prog w) led).setOf hget (by unfold scanBound; omega)) (fun _ => rfl) rfl
        · obtain ⟨h', g', d', tk', os'⟩ := s'
          obtain rfl : g' = s.gens := hm.gens
          obtain rfl : d' = s.drawn := hm.drawn
          obtain rfl : os' = s.os := hm.os
          show wpAny _ _ _ _ _ _
          refine wpAny_pure ?_
          show wpAny _ _ (ret Value.none) _ _ _
          refine wpAny_pure ⟨rfl, h', tk', rfl, hS', fun b o hb e => ?_⟩
          have n1 : b ≠ s.heap.objs.size := Nat.ne_of_lt hb
          have n2 : b ≠ (s.heap.push oo).objs.size := by
            rw [sz]
            exact Nat.ne_of_lt (Nat.lt_succ_of_lt hb)
          exact hm.heap b o (by simp only [List.mem_cons, List.mem_singleton, List.not_mem_nil, or_false, not_or]; exact ⟨n1, n2⟩) (Heap.get?_push_of_some _ (Heap.get?_push_of_some _ e))
      · cases r2 with
        | error e => exact hr2
        | ok f2' =>
          cases f2' with
          | ret r =>
            obtain ⟨rfl, h', tk, rfl, hS', hk'⟩ := hr2
            repeat (any_goals (first | assumption | wp_step))
            exact h _ _ hS' hk'
          | _ => exact hr2.elim
    | _ => exact hr.elim
end
end SK
namespace SK
open PySem PySem.Spec PyProof.Rows L2 LamX NdefX
section
variable {X : Cx}
/-- len(set(x)), x a text of ASCII signs -/
def tLenSetT (ta : TE) : TE := fun σ H Q => ta σ H fun v H1 => ∃ x : Str, v = .str x ∧ x.cps.all (· < 128) = true ∧ x.cps.size ≤ 1000 ∧ Q (.int ((nub x.cps.toList).length : Nat)) H1
theorem pe_lenSetT {a : Expr} {ta : TE} {p p2 q pos : Pos} (hc : X.calm = true) (hg : Gl X "len") (hm : X.mg "len" = none) (hg2 : Gl X "set") (hm2 : X.mg "set" = none) (ha : PE X a ta) (na : starEach [a] X.env = (false, eval a X.env) :: starEach [] X.env := by rfl) :
    PE X (.Call (.Name "len" p) [.Call (.Name "set" p2) [a] [] q] [] pos) (tLenSetT ta) := by
  refine ⟨fun pins s σ H Q I h => ?_⟩
  refine Call_ (ld_blt I hg hm PySem.boot_len ?_)
  refine PyProof.Rows.callWith_builtin1 (PyProof.Rows.args_cons ?_ rfl) rfl rfl
  refine Call_ (ld_blt I hg2 hm2 boot_set ?_)
  refine PyProof.Rows.callWith_type1 (PyProof.Rows.args_cons (thn (ha.run pins s σ H _ I h) fun v s1 ⟨x, H1, I1, r1, q1⟩ => PyProof.Rows.args_nil ?_) na) na rfl
  obtain ⟨x, rfl, hasc, hz, q1⟩ := q1
  obtain ⟨t, rfl⟩ := r1
  refine call_set_text (I1.ok.hd hc) hasc (by unfold scanBound; omega) fun h' tk hS hk => PyProof.Rows.args_nil ?_
  obtain ⟨o, es, ep, tb, ho, hex, hd, _, _, _, hf, hn⟩ := hS
  have I2 : Inv X pins σ H1 { s1 with heap := h', toks := tk } := I1.kept fun b o e => hk b o (Heap.lt_size e) e
  have le := nub_le x.cps.toList
  have lz : x.cps.toList.length = x.cps.size := by simp
  refine call_len_set ho hex hd hf (by rw [hn]; omega) ⟨.int _, H1, I2.tok _, ⟨_, by rw [hn]⟩, q1⟩
end
end SK
namespace SK
open PySem PySem.Spec PyProof.Rows L2 LamX NdefX
open K0 (De DeAll)
/-! ### data: of which type, letters, words, rows -/
def isS : PyData → Bool
  | .str _ => true
  | _ => false
def isB : PyData → Bool
  | .bool _ => true
  | _ => false
def isTL : PyData → Bool
  | .tuple _ => true
  | .list _ => true
  | _ => false
def okLb (x : Str) : Bool := decide (2 ≤ x.cps.size) && decide (x.cps.size ≤ 26) && (decide x.cps.toList.Nodup && x.cps.toList.all fun c => decide (c ∈ alpha.cps.toList))
def okLd : PyData → Bool
  | .str x => okLb x
  | _ => false
def okW (ls : Str) : PyData → Bool
  | .str x => decide (x.cps.size ≤ 200) && x.cps.toList.all fun c => decide (c ∈ ls.cps.toList)
  | _ => false
def okR3 (ls : Str) : List PyData → Bool
  | [a, b, c] => okW ls a && (isB b && isB c)
  | _ => false
def okR (ls : Str) : PyData → Bool
  | .tuple ds => okR3 ls ds
  | .list ds => okR3 ls ds
  | _ => false
theorem ty_of {K : PySem.W.Frag} {H : Hp} {v : V} {d : PyData} (h : De K H v d) : ∃ T : String, TyX K H v (.type T) ∧ kitB T "str" = some (isS d) ∧ kitB T "bool" = some (isB d) ∧ ∃ t1 t2, kitB T "tuple" = some t1 ∧ kitB T "list" = some t2 ∧ (t1 || t2) = isTL d := by
  cases h with
  | non => exact ⟨"NoneType", .base .non, (by show kitB "NoneType" "str" = some false; decide +kernel), (by show kitB "NoneType" "bool" = some false; decide +kernel), false, false, by decide +kernel, by decide +kernel, rfl⟩
  | bl b => exact ⟨"bool", .base (.bl b), (by show kitB "bool" "str" = some false; decide +kernel), (by show kitB "bool" "bool" = some true; decide +kernel), false, false, by decide +kernel, by decide +kernel, rfl⟩
  | int i => exact ⟨"int", .base (.int i), (by show kitB "int" "str" = some false; decide +kernel), (by show kitB "int" "bool" = some false; decide +kernel), false, false, by decide +kernel, by decide +kernel, rfl⟩
  | str x => exact ⟨"str", .base (.str x), (by show kitB "str" "str" = some true; decide +kernel), (by show kitB "str" "bool" = some false; decide +kernel), false, false, by decide +kernel, by decide +kernel, rfl⟩
  | lst ha hd => exact ⟨"list", .base (.lst ha), (by show kitB "list" "str" = some false; decide +kernel), (by show kitB "list" "bool" = some false; decide +kernel), false, true, by decide +kernel, by decide +kernel, rfl⟩
  | tup ha hd => exact ⟨"tuple", .base (.tup ha), (by show kitB "tuple" "str" = some false; decide +kernel), (by show kitB "tuple" "bool" = some false; decide +kernel), true, false, by decide +kernel, by decide +kernel, rfl⟩
  | dic ha => exact ⟨"dict", .base (.dK ha), (by show kitB "dict" "str" = some false; decide +kernel), (by show kitB "dict" "bool" = some false; decide +kernel), false, false, by decide +kernel, by decide +kernel, rfl⟩
theorem kit_two {K : PySem.W.Frag} {T : String} {t1 t2 : Bool} (h1 : kitB T "tuple" = some t1) (h2 : kitB T "list" = some t2) : PySem.W.kitAny K (.type T) [.type "tuple", .type "list"] = some (t1 || t2) := by
  refine kitAny_cons (b := t1) (kit_ty h1) (fun e => ?_) (fun e => by rw [e]; rfl)
  rw [e, Bool.false_or]
  refine kitAny_cons (b := t2) (kit_ty h2) (fun e => ?_) (fun e => e)
  rw [e]
  exact kitAny_nil
/-- all([.. for sign in x]) -/
theorem rd_all_text {K : PySem.W.Frag} {tx te : TE} {i : Nat} {vs : List Nat} {σ : St} {H : Hp} {Q : VK} {x : Str} (p : Nat → Bool) (hz : x.cps.size ≤ 1000) (htx : ∀ R : VK, R (.str x) H → tx σ H R) (hw : ∀ v, wipe ((wipe σ vs).set i (some v)) vs = wipe σ vs)
    (hte : ∀ (c : Nat) (H1 : Hp) (R : VK), R (.bl (p c)) H1 → te ((wipe σ vs).set i (some (.str ⟨#[c]⟩))) H1 R) (k : ∀ H1, Same H H1 → Q (.bl (x.cps.toList.all p)) H1) :
    tCB (rAll K) (tCons (tLc (iStr tx) (gName i) tYes te vs) tNil) σ H Q := by
  refine htx _ ⟨x, rfl, fun D nD => lc_it walk_str (fun j H' => Same H H' ∧ H' D = some (.lst ((x.cps.toList.take j).map fun c => V.bl (p c)))) ⟨upd_new nD, upd_same⟩ (fun _ _ _ _ => trivial) ?_ ?_⟩
  · rintro j y H4 H5 hj ⟨s4, h4⟩ ⟨rfl, c, hc, rfl⟩
    have z : x.cps.toList[j]? = some c := by simpa using hc
    have et : x.cps.toList.take (j + 1) = x.cps.toList.take j ++ [c] := by
      rw [List.take_add_one, z]
      rfl
    refine ⟨hw _, hte c _ _ ⟨_, h4, ?_, fun b o e => ?_, ?_⟩⟩
    · rw [List.length_map, List.length_take]
      have z : (1000 : Nat) < sizeLine := by decide
      omega
    · rw [upd_ne (ne_of_none e nD)]
      exact s4 _ _ e
    · rw [et, List.map_append]
      exact upd_same
  · rintro H4 ⟨s4, h4⟩
    have e1 : x.cps.toList.take x.cps.size = x.cps.toList := List.take_of_length_le (by simp)
    rw [e1] at h4
    have e2 : (x.cps.toList.map fun c => V.bl (p c)) = (x.cps.toList.map p).map V.bl := by
      rw [List.map_map]
      rfl
    rw [e2] at h4
    refine ⟨D, _, rfl, .inl (.inl h4), ?_⟩
    have e3 : (x.cps.toList.map p).all id = x.cps.toList.all p := by
      rw [List.all_map]
      rfl
    rw [e3]
    exact k H4 s4
def spLet (K : PySem.W.Frag) : Sp := fun vs H Q _ => ∃ (v : V) (d : PyData), vs = [v] ∧ De K H v d ∧ (∀ x, d = .str x → x.cps.all (· < 128) = true ∧ x.cps.size ≤ 1000) ∧ ∀ H', Same H H' → Q (.bl (okLd d)) H'
def spWord (K : PySem.W.Frag) : Sp := fun vs H Q _ => ∃ (ls : Str) (v : V) (d : PyData), vs = [.str ls, v] ∧ De K H v d ∧ (∀ x, d = .str x → x.cps.size ≤ 1000) ∧ ∀ H', Same H H' → Q (.bl (okW ls d)) H'
section
variable {P : Program} {w : World} {K : PySem.W.Frag} {mg : Str → Option Value} {base : Heap} {f : Addr} {fd : FuncData}
theorem sc12 : FnScope ["letters", "letter"] ["letters"] (defScope (top 12)) := ⟨rfl, rfl, rfl, by decide +kernel, rfl, by decide +kernel, by decide +kernel⟩
theorem ok_letters (F : Fun K "is_letters" "is_letters" (top 12) f fd) (gI : mg "isinstance" = none) (gS : mg "str" = none) (gL : mg "len" = none) (gE : mg "set" = none) (gAl : mg "all" = none) {tA : Tok} (gA : mg "ALPHABET" = some (.str alpha tA)) : FnOk P w K mg base CX0 1 f fd ["letters"] (spLet K) := by
  refine F.ok sc12 (fun vs H Q E h => ?_) (fun cdv A outer s H vs Q E hr h => ?_)
  · obtain ⟨v, d, rfl, _⟩ := h
    rfl
  · obtain ⟨v, d, rfl, hd, hx, k⟩ := h
    refine ⟨_, pss_cons (ps_if (pw_or (pt_not (pt_val (pe_callB call_isi (by rfl) gI PyProof.Rows.boot_isinstance (pa_cons (pv 0) (pa_cons (pe_bltn (v := .ty "str") (by rfl) gS PyProof.Rows.boot_str rfl) pa_nil)))))
        (pw_or1 (pt_not (pt_chain op_le op_le pe_int (pe_callB call_len_str (by rfl) gL PySem.boot_len (pa_cons (pv 0) pa_nil)) (pe_callB call_len_str (by rfl) gL PySem.boot_len (pa_cons (pe_glob (v := V.str alpha) (by rfl) gA ⟨_, rfl⟩) pa_nil)))))).pt (pss_one (ps_ret pe_bl)) pss_nil)
      (pss_one (ps_ret (pe_and (pe_cmpR op_eq (pe_lenSetT rfl (by rfl) gL (by rfl) gE (pv 0)) (pe_callB call_len_str (by rfl) gL PySem.boot_len (pa_cons (pv 0) pa_nil)) (nomark _))
        (pe_one (pe_callB (cr_all rfl) (by rfl) gAl PyProof.Rows.boot_all (pa_cons (pe_lc (own := [("letter", 1)]) (g := gName 1) (tt := tYes) rfl sc12.nd (pi_str (pv 0)) (blkOk_by (N := ["letters", "letter"]) (sc := defScope (top 12)) (by decide +kernel))
          (fun _ _ _ _ _ => pg_name (i := 1) sc12.nd rfl (Or.inl rfl)) (fun _ _ _ _ _ => pts_nil) (fun _ _ _ _ _ => pe_cmpR op_in_sign (pv 1) (pe_glob (v := V.str alpha) (by rfl) gA ⟨_, rfl⟩) (by rfl))) pa_nil)))))), ?_⟩
    obtain ⟨T, tx, k1, _⟩ := ty_of hd
    refine ⟨v, rfl, v, .ty "str", .type T, .type "str", isS d, rfl, .ty _, tx, kit_ty k1, _, rfl, ?_⟩
    cases d with
    | str x =>
      cases hd
      obtain ⟨hasc, hz⟩ := hx x rfl
      have hzs : x.length ≤ sizeLine := by
        have z : (1000 : Nat) ≤ sizeLine := by decide
        exact Nat.le_trans hz z
      refine iteF ⟨V.str x, rfl, x, rfl, hzs, 2, (x.length : Int), rfl, rfl, _, rfl, ?_⟩
      have el : x.length = x.cps.size := rfl
      have fin : ∀ H', Same H H' → okLb x = false → Q (.bl false) H' := fun H' sm e => by
        have z := k H' sm
        simp only [okLd, e] at z
        exact z
      refine ite2 (fun c1 => ?_) (fun c1 => ?_)
      · have c1' : 2 ≤ x.cps.size := by
          have z := of_decide_eq_true c1
          omega
        refine ⟨alpha, rfl, (by decide +kernel), (x.length : Int), ((alpha.length : Nat) : Int), rfl, rfl, _, rfl, ?_⟩
        refine ite2 (fun c2 => ?_) (fun c2 => ?_)
        · have c2' : ¬ x.cps.size ≤ 26 := by
            intro z
            have a26 : alpha.length = 26 := by decide +kernel
            have : decide ((x.length : Int) ≤ (alpha.length : Nat)) = true := decide_eq_true (by rw [a26]; omega)
            rw [this] at c2
            exact absurd c2 (by decide)
          refine fin H (Same.refl H) ?_
          unfold okLb
          rw [decide_eq_false c2']
          simp
        · have c2' : x.cps.size ≤ 26 := by
            have a26 : alpha.length = 26 := by decide +kernel
            have z : decide ((x.length : Int) ≤ (alpha.length : Nat)) = true := by simpa using c2
            have z2 := of_decide_eq_true z
            rw [a26] at z2
            omega
          refine ⟨V.str x, rfl, x, rfl, hasc, hz, V.str x, rfl, x, rfl, hzs, rfl, _, rfl, ?_⟩
          refine ite2 (fun c3 => ?_) (fun c3 => ?_)
          · have nd : x.cps.toList.Nodup := (nub_nodup _).mp (by
              have z := of_decide_eq_true c3
              injection z with z
              have z2 : (nub x.cps.toList).length = x.length := by omega
              rw [z2, el, Array.length_toList])
            refine rd_all_text (fun c => decide (c ∈ alpha.cps.toList)) hz (fun R h => ⟨_, rfl, h⟩) (fun _ => rfl) (fun c H1 R h => ⟨_, rfl, c, alpha, rfl, rfl, h⟩) fun H1 sm => ?_
            have z := k H1 sm
            simp only [okLd, okLb, decide_eq_true c1', decide_eq_true c2', decide_eq_true nd, Bool.true_and] at z
            exact z
          · refine fin H (Same.refl H) ?_
            have nd : ¬ x.cps.toList.Nodup := fun nd => c3 (decide_eq_true (by rw [(nub_nodup _).mpr nd, Array.length_toList]; rfl))
            unfold okLb
            rw [decide_eq_false nd]
            simp
      · refine ⟨_, rfl, iteT ?_⟩
        refine fin H (Same.refl H) ?_
        have c1' : ¬ 2 ≤ x.cps.size := fun z => c1 (decide_eq_true (by omega))
        unfold okLb
        rw [decide_eq_false c1']
        simp
    | _ => exact iteT (iteT (k H (Same.refl H)))
end
end SK
namespace SK
open PySem PySem.Spec PyProof.Rows L2 LamX NdefX
open K0 (De DeAll)
mutual
theorem de_mono {K : PySem.W.Frag} {H H' : Hp} (m : ∀ b o, H b = some o → H' b = some o) : ∀ (d : PyData) (v : V), De K H v d → De K H' v d
  | .none, _, h => by
    cases h
    exact .non
  | .bool b, _, h => by
    cases h
    exact .bl b
  | .int i, _, h => by
    cases h
    exact .int i
  | .str x, _, h => by
    cases h
    exact .str x
  | .list ds, _, h => by
    cases h with
    | lst ha hd => exact .lst (m _ _ ha) (de_monoAll m ds _ hd)
  | .tuple ds, _, h => by
    cases h with
    | tup ha hd => exact .tup (m _ _ ha) (de_monoAll m ds _ hd)
  | .dict _, _, h => by
    cases h with
    | dic ha => exact .dic (m _ _ ha)
theorem de_monoAll {K : PySem.W.Frag} {H H' : Hp} (m : ∀ b o, H b = some o → H' b = some o) : ∀ (ds : List PyData) (vs : List V), DeAll K H vs ds → DeAll K H' vs ds
  | [], _, h => by
    cases h
    exact .nil
  | d :: ds, _, h => by
    cases h with
    | cons h1 h2 => exact .cons (de_mono m d _ h1) (de_monoAll m ds _ h2)
end

/-- no text in it is too long -/
def Fit (d : PyData) : Prop := ∀ ds, (d = .tuple ds ∨ d = .list ds) → ∀ x, PyData.str x ∈ ds → x.cps.size ≤ 1000
def spRow (K : PySem.W.Frag) : Sp := fun vs H Q _ => ∃ (ls : Str) (v : V) (d : PyData), vs = [.str ls, v] ∧ De K H v d ∧ Fit d ∧ ∀ H', Same H H' → Q (.bl (okR ls d)) H'
theorem deAll_len {K : PySem.W.Frag} {H : Hp} : ∀ {vs : List V} {ds : List PyData}, DeAll K H vs ds → vs.length = ds.length
  | _, _, .nil => rfl
  | _, _, .cons _ t => congrArg Nat.succ (deAll_len t)
section
variable {P : Program} {w : World} {K : PySem.W.Frag} {mg : Str → Option Value} {base : Heap} {f fW : Addr} {fd fdW : FuncData}
theorem sc14 : FnScope ["letters", "word", "letter"] ["letters", "word"] (defScope (top 14)) := ⟨rfl, rfl, rfl, by decide +kernel, rfl, by decide +kernel, by decide +kernel⟩
theorem ok_word (F : Fun K "is_word" "is_word" (top 14) f fd) (gI : mg "isinstance" = none) (gS : mg "str" = none) (gL : mg "len" = none) (gAl : mg "all" = none) {tW : Tok} (gW : mg "LONGEST_WORD" = some (.int 200 tW)) : FnOk P w K mg base CX0 1 f fd ["letters", "word"] (spWord K) := by
  refine F.ok sc14 (fun vs H Q E h => ?_) (fun cdv A outer s H vs Q E hr h => ?_)
  · obtain ⟨ls, v, d, rfl, _⟩ := h
    rfl
  · obtain ⟨ls, v, d, rfl, hd, hx, k⟩ := h
    refine ⟨_, pss_cons (ps_if (pw_or (pt_not (pt_val (pe_callB call_isi (by rfl) gI PyProof.Rows.boot_isinstance (pa_cons (pv 1) (pa_cons (pe_bltn (v := .ty "str") (by rfl) gS PyProof.Rows.boot_str rfl) pa_nil)))))
        (pw_or1 (pt_cmpR op_gt (pe_callB call_len_str (by rfl) gL PySem.boot_len (pa_cons (pv 1) pa_nil)) (pe_glob (v := V.int 200) (by rfl) gW ⟨_, rfl⟩) (nomark _)))).pt (pss_one (ps_ret pe_bl)) pss_nil)
      (pss_one (ps_ret (pe_callB (cr_all rfl) (by rfl) gAl PyProof.Rows.boot_all (pa_cons (pe_lc (own := [("letter", 2)]) (g := gName 2) (tt := tYes) rfl sc14.nd (pi_str (pv 1)) (blkOk_by (N := ["letters", "word", "letter"]) (sc := defScope (top 14)) (by decide +kernel))
          (fun _ _ _ _ _ => pg_name (i := 2) sc14.nd rfl (Or.inl rfl)) (fun _ _ _ _ _ => pts_nil) (fun _ _ _ _ _ => pe_cmpR op_in_sign (pv 2) (pv 0) (by rfl))) pa_nil)))), ?_⟩
    obtain ⟨T, tx, k1, _⟩ := ty_of hd
    refine ⟨v, rfl, v, .ty "str", .type T, .type "str", isS d, rfl, .ty _, tx, kit_ty k1, _, rfl, ?_⟩
    cases d with
    | str x =>
      cases hd
      have hz := hx x rfl
      have hzs : x.length ≤ sizeLine := by
        have z : (1000 : Nat) ≤ sizeLine := by decide
        exact Nat.le_trans hz z
      have el : x.length = x.cps.size := rfl
      refine iteF ⟨V.str x, rfl, x, rfl, hzs, (x.length : Int), 200, rfl, rfl, _, rfl, ?_⟩
      have z := k H (Same.refl H)
      refine ite2 (fun c1 => ?_) (fun c1 => ?_)
      · have c1' : ¬ x.cps.size ≤ 200 := by
          have z := of_decide_eq_true c1
          omega
        simp only [okW, decide_eq_false c1', Bool.false_and] at z
        exact z
      · have c1' : x.cps.size ≤ 200 := by
          refine Decidable.byContradiction fun z => c1 (decide_eq_true ?_)
          omega
        show tCB (rAll K) (tCons (tLc (iStr (tVar 1)) (gName 2) tYes (tOp _ (tVar 2) (tVar 0)) [2]) tNil) _ H _
        refine rd_all_text (fun c => decide (c ∈ ls.cps.toList)) hz (fun R h => ⟨_, rfl, h⟩) (fun _ => rfl) (fun c H1 R h => ⟨_, rfl, _, rfl, c, ls, rfl, rfl, h⟩) fun H1 sm => ?_
        have z := k H1 sm
        simp only [okW, decide_eq_true c1', Bool.true_and] at z
        exact z
    | _ => exact iteT (k H (Same.refl H))
theorem sc18 : FnScope ["letters", "row"] ["letters", "row"] (defScope (top 18)) := ⟨rfl, rfl, rfl, by decide +kernel, rfl, by decide +kernel, by decide +kernel⟩
theorem ok_row (F : Fun K "is_row" "is_row" (top 18) f fd) (gI : mg "isinstance" = none) (gT : mg "tuple" = none) (gLs : mg "list" = none) (gB : mg "bool" = none) (gL : mg "len" = none)
    (gW : mg "is_word" = some (.ref fW)) (kW : PySem.W.keepIn K (.ref fW) = true) (GW : FnOk P w K mg base CX0 1 fW fdW ["letters", "word"] (spWord K)) (bW : Binds K fdW ["letters", "word"] []) : FnOk P w K mg base CX0 2 f fd ["letters", "row"] (spRow K) := by
  refine F.ok sc18 (fun vs H Q E h => ?_) (fun cdv A outer s H vs Q E hr h => ?_)
  · obtain ⟨ls, v, d, rfl, _⟩ := h
    rfl
  · obtain ⟨ls, v, d, rfl, hd, hF, k⟩ := h
    refine ⟨_, pss_cons (ps_if (pw_or (pt_not (pt_val (pe_callB call_isiT (by rfl) gI PyProof.Rows.boot_isinstance (pa_cons (pv 1) (pa_cons (pe_tup (pa_cons (pe_bltn (v := .ty "tuple") (by rfl) gT PyProof.Rows.boot_tuple rfl) (pa_cons (pe_bltn (v := .ty "list") (by rfl) gLs PyProof.Rows.boot_list rfl) pa_nil))) pa_nil)))))
        (pw_or1 (pt_cmpR op_ne (pe_callB call_len_seq (by rfl) gL PySem.boot_len (pa_cons (pv 1) pa_nil)) pe_int (nomark _)))).pt (pss_one (ps_ret pe_bl)) pss_nil)
      (pss_one (ps_ret (pe_and (pe_call GW hr rfl gW kW bW .nil pass0 (pa_cons (pv 0) (pa_cons (pe_ix ix_seq (pv 1) pe_int (fun _ _ => rfl)) pa_nil)))
        (pe_and (pe_callB call_isi (by rfl) gI PyProof.Rows.boot_isinstance (pa_cons (pe_ix ix_seq (pv 1) pe_int (fun _ _ => rfl)) (pa_cons (pe_bltn (v := .ty "bool") (by rfl) gB PyProof.Rows.boot_bool rfl) pa_nil)))
          (pe_one (pe_callB call_isi (by rfl) gI PyProof.Rows.boot_isinstance (pa_cons (pe_ix ix_seq (pv 1) pe_int (fun _ _ => rfl)) (pa_cons (pe_bltn (v := .ty "bool") (by rfl) gB PyProof.Rows.boot_bool rfl) pa_nil)))))))), ?_⟩
    refine ⟨v, rfl, (by show 2 ≤ sizeLine; decide), fun tp hp => ?_⟩
    have s1 := upd_new (o := .tup [.ty "tuple", .ty "list"]) hp
    have t1 : upd H tp (.tup [.ty "tuple", .ty "list"]) tp = some (.tup [.ty "tuple", .ty "list"]) := upd_same
    generalize upd H tp (.tup [.ty "tuple", .ty "list"]) = H1 at s1 t1
    have hd1 := de_mono s1 d v hd
    obtain ⟨T, tx, _, _, b1, b2, k1, k2, kk⟩ := ty_of hd1
    refine ⟨v, tp, [.ty "tuple", .ty "list"], .type T, [.type "tuple", .type "list"], isTL d, rfl, t1, .cons (.ty _) (.cons (.ty _) .nil), tx, (by rw [← kk]; exact kit_two k1 k2), _, rfl, ?_⟩
    have shape : (isTL d = false ∧ okR ls d = false) ∨ ∃ (p : Addr) (vs : List V) (ds : List PyData), v = .ref p ∧ DeAll K H1 vs ds ∧ (SqL K H1 p vs ∨ SqT K H1 p vs) ∧
        (∀ H2, Same H1 H2 → ∀ (j : Nat) (x : V), vs[j]? = some x → ∀ R : VK, R x H2 → rIx K (.ref p) (.int (j : Int)) H2 R) ∧ isTL d = true ∧ okR ls d = okR3 ls ds ∧ ∀ x, PyData.str x ∈ ds → x.cps.size ≤ 1000 := by
      cases hd1 with
      | @lst a vs ds ha hds => exact .inr ⟨a, vs, ds, rfl, hds, .inl (.inl (.inl ha)), fun H2 s2 j x hx R q => .inl ⟨a, vs, _, x, rfl, rfl, .inl (.inl (s2 _ _ ha)), atI_nat hx, q⟩, rfl, rfl, hF ds (.inr rfl)⟩
      | @tup a vs ds ha hds => exact .inr ⟨a, vs, ds, rfl, hds, .inr (.inl (.inl ha)), fun H2 s2 j x hx R q => .inr (.inl ⟨a, vs, _, x, rfl, rfl, .inl (.inl (s2 _ _ ha)), atI_nat hx, q⟩), rfl, rfl, hF ds (.inl rfl)⟩
      | _ => exact .inl ⟨rfl, rfl⟩
    rcases shape with ⟨e1, e2⟩ | ⟨p, vs, ds, rfl, hda, hsq, hix, e1, e2, hfit⟩
    · rw [e1]
      refine iteT (iteT ?_)
      have z := k H1 s1
      rw [e2] at z
      exact z
    rw [e1]
    have hl := deAll_len hda
    refine iteF ⟨V.ref p, rfl, p, vs, rfl, hsq, rfl, _, rfl, ?_⟩
    have no : ∀ H2, Same H1 H2 → okR3 ls ds = false → Q (.bl false) H2 := fun H2 s2 e => by
      have z := k H2 (s1.trans s2)
      rw [e2, e] at z
      exact z
    refine ite2 (fun c1 => ?_) (fun c1 => ?_)
    · refine no H1 (Same.refl H1) ?_
      have n3 : ds.length ≠ 3 := fun z => by
        have z2 : decide (V.int (vs.length : Nat) = V.int 3) = true := decide_eq_true (by rw [hl, z]; rfl)
        rw [z2] at c1
        exact absurd c1 (by decide)
      match ds, n3 with
      | [], _ => rfl
      | [_], _ => rfl
      | [_, _], _ => rfl
      | [_, _, _], n => exact absurd rfl n
      | _ :: _ :: _ :: _ :: _, _ => rfl
    · have l3 : vs.length = 3 := by
        have z : decide (V.int (vs.length : Nat) = V.int 3) = true := by simpa using c1
        have z2 := of_decide_eq_true z
        injection z2 with z2
        omega
      cases hda with
      | nil => cases l3
      | @cons v0 vs d0 ds h0 t0 =>
        cases t0 with
        | nil => cases l3
        | @cons v1 vs d1 ds h1 t1 =>
          cases t1 with
          | nil => cases l3
          | @cons v2 vs d2 ds h2 t2 =>
            cases t2 with
            | cons _ _ => simp at l3
            | nil =>
              refine ⟨V.str ls, rfl, V.ref p, rfl, hix H1 (Same.refl H1) 0 v0 rfl _ ⟨ls, v0, d0, rfl, h0, fun x e => hfit x (by rw [e]; simp), fun H2 s2 => ⟨okW ls d0, rfl, ?_⟩⟩⟩
              refine ite2 (fun a0 => ?_) (fun a0 => no H2 s2 (by simp only [okR3, Bool.not_eq_true] at a0 ⊢; rw [a0]; rfl))
              obtain ⟨T1, tx1, _, kb1, _⟩ := ty_of (de_mono s2 d1 v1 h1)
              refine ⟨V.ref p, rfl, hix H2 s2 1 v1 rfl _ ⟨v1, .ty "bool", .type T1, .type "bool", isB d1, rfl, .ty _, tx1, kit_ty kb1, _, rfl, ?_⟩⟩
              refine ite2 (fun a1 => ?_) (fun a1 => no H2 s2 (by simp only [okR3, Bool.not_eq_true] at a1 ⊢; rw [a1]; simp))
              obtain ⟨T2, tx2, _, kb2, _⟩ := ty_of (de_mono s2 d2 v2 h2)
              refine ⟨V.ref p, rfl, hix H2 s2 2 v2 rfl _ ⟨v2, .ty "bool", .type T2, .type "bool", isB d2, rfl, .ty _, tx2, kit_ty kb2, ?_⟩⟩
              have z := k H2 (s1.trans s2)
              rw [e2] at z
              simp only [okR3, a0, a1, Bool.true_and] at z
              exact z
end
end SK
namespace SK
open PySem PySem.Spec PyProof.Rows L2 LamX NdefX
open K0 (De DeAll XCl spX withX)
/-- what is told of an own exception class, by its name -/
structure XR (P : Program) (w : World) (K : PySem.W.Frag) (mg : Str → Option Value) (base : Heap) (x : Str) (C : Addr) (fs : List Str) : Prop where
  cl : XCl K C
  gC : mg x = some (.ref C)
  no : ∀ n ∈ fs, PySem.W.findIn K (.ref C) n = some none
  ini : ∃ f fd, PySem.W.findIn K (.ref C) "__init__" = some (some (.ref f)) ∧ PySem.W.typeIn K (.ref f) = some (.type "function") ∧ FnOk P w K mg base CX0 1 f fd (("self" : Str) :: fs) (spX C fs) ∧ Binds K fd (("self" : Str) :: fs) []
theorem withX_at {H : Hp} {a dx C : Addr} {gs : List (Str × V)} : withX H C a dx gs a = some (exo a C (some dx)) := upd_same
theorem withX_dx {H : Hp} {a dx C : Addr} {gs : List (Str × V)} (ne : dx ≠ a) : withX H C a dx gs dx = some (exd dx gs) := (upd_ne ne).trans upd_same
/-- the making of such an exception, read behind its arguments -/
theorem rd_mk {C : Addr} {fs : List Str} {vs : List V} {H1 : Hp} {Q : XK} (hl : vs.length = fs.length) (hz : vs.length ≤ 1000) (k : ∀ (d : Addr) (H' : Hp), Same H1 H' → H1 d = none → H' d = some (.xd (fs.zip vs).reverse) → Q (.ref C) (some d) H') :
    vs.length ≤ 1000 ∧ ∀ a, H1 a = none → spX C fs (.ref a :: (vs ++ [])) (upd H1 a (exo a C none))
      (fun v H2 => v = .non ∧ ∃ (d : Addr) (gs : List (Str × V)), H2 a = some (exo a C (some d)) ∧ H2 d = some (exd d gs) ∧ H1 d = none ∧ Q (.ref C) (some d) (upd (del H2 a) d (.xd gs))) (fun _ _ _ => False) := by
  refine ⟨hz, fun a na => ⟨a, vs ++ [], rfl, by rw [List.append_nil]; exact hl, upd_same, fun dx nd ne => ?_⟩⟩
  rw [upd_ne ne] at nd
  refine ⟨rfl, dx, _, withX_at, withX_dx ne, nd, k dx _ (fun b o e => ?_) nd ?_⟩
  · have n1 : b ≠ a := ne_of_none e na
    have n2 : b ≠ dx := ne_of_none e nd
    rw [upd_ne n2, del_ne n1]
    show upd (upd (upd H1 a _) dx _) a _ b = some o
    rw [upd_ne n1, upd_ne n2, upd_ne n1]
    exact e
  · rw [List.append_nil]
    exact upd_same
/-- what is wanted of an exception of the class C with the fields gs -/
def Thrown (E : XK) (C : Addr) (H : Hp) (gs : List (Str × V)) : Prop := ∀ (H' : Hp) (d : Addr), Same H H' → H d = none → H' d = some (.xd gs) → E (.ref C) (some d) H'
def spCheckL (K : PySem.W.Frag) (C : Addr) : Sp := fun vs H Q E => ∃ (v : V) (d : PyData), vs = [v] ∧ De K H v d ∧ (∀ x, d = .str x → x.cps.all (· < 128) = true ∧ x.cps.size ≤ 1000) ∧ (okLd d = true → ∀ H', Same H H' → Q .non H') ∧ (okLd d = false → Thrown E C H [("letters", v)])
def spCheckP (C : Addr) : Sp := fun vs H Q E => ∃ n : Nat, vs = [.int n] ∧ (1 ≤ n ∧ n ≤ 2000 → Q .non H) ∧ (¬ (1 ≤ n ∧ n ≤ 2000) → Thrown E C H [("most", .int 2000), ("many", .int n), ("what", .str "places")])
theorem Thrown.mono {E : XK} {C : Addr} {H H1 : Hp} {gs : List (Str × V)} (t : Thrown E C H gs) (s : Same H H1) : Thrown E C H1 gs := fun H' d s' n e => t H' d (s.trans s') (s.free n) e
section
variable {P : Program} {w : World} {K : PySem.W.Frag} {mg : Str → Option Value} {base : Heap} {f fL C : Addr} {fd fdL : FuncData}
theorem sc13 : FnScope ["letters"] ["letters"] (defScope (top 13)) := ⟨rfl, rfl, rfl, by decide +kernel, rfl, by decide +kernel, by decide +kernel⟩
theorem ok_checkL (F : Fun K "check_letters" "check_letters" (top 13) f fd) (D : XR P w K mg base "BadLetters" C ["letters"]) (gL : mg "is_letters" = some (.ref fL)) (kL : PySem.W.keepIn K (.ref fL) = true) (GL : FnOk P w K mg base CX0 1 fL fdL ["letters"] (spLet K)) (bL : Binds K fdL ["letters"] []) :
    FnOk P w K mg base (L2.CX P w) 3 f fd ["letters"] (spCheckL K C) := by
  refine F.okX sc13 (fun vs H Q E h => ?_) (fun cdv A outer s H vs Q E hr h => ?_)
  · obtain ⟨v, d, rfl, _⟩ := h
    rfl
  · obtain ⟨v, d, rfl, hd, hx, k1, k2⟩ := h
    obtain ⟨fi, fdi, iC, tI, F1, b1⟩ := D.ini
    refine ⟨_, pss_one (ps_if (pt_not (pt_val (pe_call GL (hr.mono (by decide)) rfl gL kL bL .nil pass0 (pa_cons (pv 0) pa_nil)))) (pss_one (ps_raise rfl (takes_of rfl rfl rfl rfl) (pmk_oex D.cl.T iC tI F1 hr b1 .nil pass0 (by rfl) D.gC (pa_cons (pv 0) pa_nil)))) pss_nil), ?_⟩
    refine ⟨v, rfl, v, d, rfl, hd, hx, fun H1 s1 => ⟨_, rfl, ?_⟩⟩
    cases e : okLd d with
    | true => exact iteF (k1 e H1 s1)
    | false => exact iteT ⟨v, rfl, rd_mk rfl (by show 1 ≤ 1000; decide) fun dx H' s' n q => (k2 e).mono s1 H' dx s' n q⟩
theorem sc16 : FnScope ["many"] ["many"] (defScope (top 16)) := ⟨rfl, rfl, rfl, by decide +kernel, rfl, by decide +kernel, by decide +kernel⟩
theorem ok_checkP (F : Fun K "check_places" "check_places" (top 16) f fd) (D : XR P w K mg base "TooMany" C ["what", "many", "most"]) {tM : Tok} (gM : mg "MOST_PLACES" = some (.int 2000 tM)) : FnOk P w K mg base (L2.CX P w) 3 f fd ["many"] (spCheckP C) := by
  refine F.okX sc16 (fun vs H Q E h => ?_) (fun cdv A outer s H vs Q E hr h => ?_)
  · obtain ⟨n, rfl, _⟩ := h
    rfl
  · obtain ⟨n, rfl, k1, k2⟩ := h
    obtain ⟨fi, fdi, iC, tI, F1, b1⟩ := D.ini
    refine ⟨_, pss_one (ps_if (pt_not (pt_chain op_le op_le pe_int (pv 0) (pe_glob (v := V.int 2000) (by rfl) gM ⟨_, rfl⟩))) (pss_one (ps_raise rfl (takes_of rfl rfl rfl rfl) (pmk_oex D.cl.T iC tI F1 hr b1 .nil pass0 (by rfl) D.gC (pa_cons pe_str (pa_cons (pv 0) (pa_cons (pe_glob (v := V.int 2000) (by rfl) gM ⟨_, rfl⟩) pa_nil)))))) pss_nil), ?_⟩
    refine ⟨V.int n, rfl, 1, (n : Int), rfl, rfl, _, rfl, ?_⟩
    have thr : ¬ (1 ≤ n ∧ n ≤ 2000) → tCons (tC (.str "places")) (tCons (tVar 0) (tCons (tC (.int 2000)) tNil)) (start ["many"] [V.int n]) H fun vs H1 => vs.length ≤ 1000 ∧ ∀ a, H1 a = none → spX C ["what", "many", "most"] (.ref a :: (vs ++ [])) (upd H1 a (exo a C none))
        (fun v H2 => v = .non ∧ ∃ (d : Addr) (gs : List (Str × V)), H2 a = some (exo a C (some d)) ∧ H2 d = some (exd d gs) ∧ H1 d = none ∧ E (.ref C) (some d) (upd (del H2 a) d (.xd gs))) (fun _ _ _ => False) :=
      fun no => ⟨V.int n, rfl, rd_mk rfl (by show 3 ≤ 1000; decide) fun dx H' s' n' q => k2 no H' dx s' n' q⟩
    refine ite2 (fun c1 => ?_) (fun c1 => ?_)
    · have c1' := of_decide_eq_true c1
      refine ⟨(n : Int), 2000, rfl, rfl, _, rfl, ?_⟩
      by_cases c2 : (n : Int) ≤ 2000
      · rw [decide_eq_true c2]
        exact iteF (k1 ⟨by omega, by omega⟩)
      · rw [decide_eq_false c2]
        exact iteT (thr (by omega))
    · refine ⟨_, rfl, iteT (thr fun z => c1 (decide_eq_true (by omega)))⟩
end
end SK
namespace SK
open PySem PySem.Spec PyProof.Rows L2 LamX NdefX
open K0 (De DeAll XCl spX withX)
/-! ### rows into a table -/
def elems : PyData → List PyData
  | .tuple ds => ds
  | .list ds => ds
  | _ => []
def placeOf (d : PyData) : Str := match elems d with
  | .str x :: _ => x
  | _ => Str.empty
/-- the number of the first row that is none, or whose place stands before -/
def scan (ls : Str) : List Str → Nat → List PyData → Option Nat
  | _, _, [] => none
  | seen, i, d :: r => if okR ls d = true ∧ placeOf d ∉ seen then scan ls (seen ++ [placeOf d]) (i + 1) r else some i
theorem okR_elems {ls : Str} {d : PyData} (h : okR ls d = true) : ∃ (x : Str) (b c : PyData), elems d = [.str x, b, c] ∧ isTL d = true ∧ placeOf d = x ∧ x.cps.size ≤ 200 ∧ (∀ c ∈ x.cps.toList, c ∈ ls.cps.toList) := by
  have three : ∀ ds, okR3 ls ds = true → ∃ (x : Str) (b c : PyData), ds = [.str x, b, c] ∧ x.cps.size ≤ 200 ∧ (∀ c ∈ x.cps.toList, c ∈ ls.cps.toList) := fun ds h => by
    match ds, h with
    | [a, b, c], h =>
      simp only [okR3, Bool.and_eq_true] at h
      have h1 := h.1
      match a, h1 with
      | .str x, h1 =>
        simp only [okW, Bool.and_eq_true, decide_eq_true_eq, List.all_eq_true] at h1
        exact ⟨x, b, c, rfl, h1.1, h1.2⟩
  match d, h with
  | .tuple ds, h =>
    obtain ⟨x, b, c, rfl, h1, h2⟩ := three ds h
    exact ⟨x, b, c, rfl, rfl, rfl, h1, h2⟩
  | .list ds, h =>
    obtain ⟨x, b, c, rfl, h1, h2⟩ := three ds h
    exact ⟨x, b, c, rfl, rfl, rfl, h1, h2⟩
/-- the table of the rows ds -/
def TabOk (K : PySem.W.Frag) (G : Hp) (kvs : List (Key × V)) (ds : List PyData) : Prop := kvs.map Prod.fst = ds.map (fun d => (Sum.inr (placeOf d) : Key)) ∧ ∀ (i : Nat) (d : PyData), ds[i]? = some d → ∃ v, kvs[i]? = some (Sum.inr (placeOf d), v) ∧ De K G v (.tuple (elems d))
theorem TabOk.nil {K : PySem.W.Frag} {G : Hp} : TabOk K G [] [] := ⟨rfl, fun i d h => by simp at h⟩
theorem TabOk.mono {K : PySem.W.Frag} {G G' : Hp} {kvs : List (Key × V)} {ds : List PyData} (t : TabOk K G kvs ds) (s : Same G G') : TabOk K G' kvs ds := ⟨t.1, fun i d h => by
  obtain ⟨v, h1, h2⟩ := t.2 i d h
  exact ⟨v, h1, de_mono s _ _ h2⟩⟩
theorem TabOk.snoc {K : PySem.W.Frag} {G : Hp} {kvs : List (Key × V)} {ds : List PyData} {d : PyData} {v : V} (t : TabOk K G kvs ds) (h : De K G v (.tuple (elems d))) : TabOk K G (kvs ++ [(.inr (placeOf d), v)]) (ds ++ [d]) := by
  have hl : kvs.length = ds.length := by
    have z := congrArg List.length t.1
    simpa using z
  refine ⟨by rw [List.map_append, List.map_append, t.1]; rfl, fun i e he => ?_⟩
  by_cases hi : i < ds.length
  · rw [List.getElem?_append_left hi] at he
    obtain ⟨u, h1, h2⟩ := t.2 i e he
    exact ⟨u, by rw [List.getElem?_append_left (by omega)]; exact h1, h2⟩
  · rw [List.getElem?_append_right (by omega)] at he
    have hi2 : i = ds.length := by
      have z := (List.getElem?_eq_some_iff.mp he).1
      simp at z
      omega
    subst hi2
    simp at he
    subst he
    exact ⟨v, by rw [List.getElem?_append_right (by omega), hl]; simp, h⟩
theorem TabOk.has {K : PySem.W.Frag} {G : Hp} {kvs : List (Key × V)} {ds : List PyData} (t : TabOk K G kvs ds) (x : Str) : (valV kvs (.inr x)).isSome = decide (x ∈ ds.map placeOf) := by
  rw [← valV_any]
  have e : (kvs.any fun kv => decide (kv.1 = (.inr x : Key))) = (kvs.map (·.1)).any fun k => decide (k = (.inr x : Key)) := by
    rw [List.any_map]
    rfl
  rw [e, t.1, List.any_map]
  by_cases h : x ∈ ds.map placeOf
  · rw [decide_eq_true h]
    obtain ⟨d, hd, rfl⟩ := List.mem_map.mp h
    exact List.any_eq_true.mpr ⟨d, hd, by simp⟩
  · rw [decide_eq_false h, List.any_eq_false]
    intro d hd
    simp only [Function.comp, decide_eq_true_eq]
    intro z
    injection z with z
    exact h (List.mem_map.mpr ⟨d, hd, z⟩)
def Rows (H : Hp) (a : Addr) (xs : List V) : Prop := H a = some (.lst xs) ∨ H a = some (.tup xs)
def spTable (K : PySem.W.Frag) (C : Addr) : Sp := fun vs H Q E => ∃ (ls : Str) (a : Addr) (xs : List V) (ds : List PyData), vs = [.str ls, .ref a] ∧ Rows H a xs ∧ DeAll K H xs ds ∧ (∀ d ∈ ds, Fit d) ∧ xs.length ≤ 5000 ∧
  (scan ls [] 0 ds = none → ∀ (H' : Hp) (T : Addr) (kvs : List (Key × V)), Same H H' → H T = none → H' T = some (.dK kvs) → TabOk K H' kvs ds → Q (.ref T) H') ∧ (∀ i, scan ls [] 0 ds = some i → Thrown E C H [("number", .int (i : Nat))])
theorem deAll_at {K : PySem.W.Frag} {H : Hp} : ∀ {xs : List V} {ds : List PyData}, DeAll K H xs ds → ∀ {i : Nat} {x : V}, xs[i]? = some x → ∃ d, ds[i]? = some d ∧ De K H x d
  | _, _, .nil, i, x, h => by simp at h
  | _, _, .cons h1 t, 0, x, h => by
    simp at h
    subst h
    exact ⟨_, rfl, h1⟩
  | _, _, .cons h1 t, i + 1, x, h => deAll_at t (by simpa using h)
/-- how far the loop has come -/
structure TLoop (K : PySem.W.Frag) (ls : Str) (a T : Addr) (H : Hp) (xs : List V) (ds : List PyData) (i : Nat) (σ : St) (H1 : Hp) : Prop where
  sl : ∃ x3 x4, σ = [some (.str ls), some (.ref a), some (.ref T), x3, x4]
  hp : ∃ (G : Hp) (kvs : List (Key × V)), Same H G ∧ G T = none ∧ Same G H1 ∧ H1 T = some (.dK kvs) ∧ TabOk K G kvs (ds.take i)
  sc : scan ls [] 0 ds = scan ls ((ds.take i).map placeOf) i (ds.drop i)
section
variable {P : Program} {w : World} {K : PySem.W.Frag} {mg : Str → Option Value} {base : Heap} {f fR C : Addr} {fd fdR : FuncData}
theorem sc19 : FnScope ["letters", "rows", "table", "number", "row"] ["letters", "rows"] (defScope (top 19)) := ⟨rfl, rfl, rfl, by decide +kernel, rfl, by decide +kernel, by decide +kernel⟩
theorem ok_table (F : Fun K "table_of" "table_of" (top 19) f fd) (D : XR P w K mg base "BadRow" C ["number"]) (gE : mg "enumerate" = none) (gT : mg "tuple" = none) (gR : mg "is_row" = some (.ref fR)) (kR : PySem.W.keepIn K (.ref fR) = true)
    (GR : FnOk P w K mg base CX0 2 fR fdR ["letters", "row"] (spRow K)) (bR : Binds K fdR ["letters", "row"] []) : FnOk P w K mg base (L2.CX P w) 3 f fd ["letters", "rows"] (spTable K C) := by
  refine F.okX sc19 (fun vs H Q E h => ?_) (fun cdv A outer s H vs Q E hr h => ?_)
  · obtain ⟨ls, a, xs, ds, rfl, _⟩ := h
    rfl
  · obtain ⟨ls, a, xs, ds, rfl, hrows, hda, hfit, hz, k1, k2⟩ := h
    obtain ⟨fi, fdi, iC, tI, F1, b1⟩ := D.ini
    have hu := hu_of hr
    have hlen := deAll_len hda
    rcases hrows with ha | ha
    · refine ⟨_, pss_cons (ps_set (i := 2) sc19.nd rfl (Or.inl rfl) pe_dnewK) (pss_cons (ps_for (passes_of rfl) rfl (pi_enum (by rfl) gE (pa_cons (pv 1) pa_nil)) (pg_tup rfl (pgs_cons (pg_name (i := 3) sc19.nd rfl (Or.inl rfl)) (pgs_cons (pg_name (i := 4) sc19.nd rfl (Or.inl rfl)) pgs_nil)))
        (pss_cons (ps_if (pw_or (pt_not (pt_val (pe_call GR hr (by rfl) gR kR bR .nil pass0 (pa_cons (pv 0) (pa_cons (pv 4) pa_nil))))) (pw_or1 (pt_cmp (pc_din hu (pe_ix ix_seq (pv 4) pe_int (fun _ _ => rfl)) (pv 2))))).pt
            (pss_one (ps_raise rfl (takes_of rfl rfl rfl rfl) (pmk_oex D.cl.T iC tI F1 hr b1 .nil pass0 (by rfl) D.gC (pa_cons (pv 3) pa_nil)))) pss_nil)
          (pss_one (ps_dput hu (pv 2) (pe_ix ix_seq (pv 4) pe_int (fun _ _ => rfl)) (pe_callTy call_tuple_of (by rfl) gT PyProof.Rows.boot_tuple (pa_cons (pv 4) pa_nil)) rfl))))
        (pss_one (ps_ret (pv 2)))), ?_⟩
      refine fun T nT => ⟨V.ref a, rfl, a, xs, rfl, .inl (.inl (upd_new nT _ _ ha)), for_it (walk_enum (K := K) (xs := xs)) (TLoop K ls a T H xs ds) ?st (fun i σ H1 _ q => ?go) ?tn ?en⟩
      case st => exact ⟨⟨none, none, rfl⟩, ⟨H, [], Same.refl H, nT, upd_new nT, upd_same, TabOk.nil⟩, rfl⟩
      case go =>
        obtain ⟨G, kvs, s1, n1, s2, _, _⟩ := q.hp
        exact .inl (.inl (s2 _ _ (s1 _ _ ha)))
      case en =>
        rintro σ H1 ⟨⟨x3, x4, rfl⟩, ⟨G, kvs, s1, n1, s2, hT, tb⟩, hsc⟩
        rw [hlen, List.take_length] at tb
        rw [hlen, List.drop_length, List.take_length] at hsc
        exact ⟨V.ref T, rfl, k1 hsc H1 T kvs (s1.trans s2) nT hT (tb.mono s2)⟩
      case tn =>
        rintro i x σ H1 H2 hi ⟨⟨x3, x4, rfl⟩, ⟨G, kvs, s1, n1, s2, hT, tb⟩, hsc⟩ ⟨T1, x1, y1, rfl, nT1, rfl, ex, ey⟩
        obtain rfl : V.int (i : Nat) = x1 := Option.some.inj ex
        obtain ⟨d, hdi, hd⟩ := deAll_at hda ey
        have s3 : Same H1 (upd H1 T1 (.tup [.int (i : Nat), y1])) := upd_new nT1
        refine ⟨T1, _, rfl, .inl (.inl upd_same), rfl, _, _, rfl, _, _, rfl, rfl, ?_⟩
        generalize upd H1 T1 (.tup [.int (i : Nat), y1]) = H2 at s3
        have hd2 : De K H2 y1 d := de_mono ((s1.trans s2).trans s3) d y1 hd
        refine ⟨V.str ls, rfl, y1, rfl, ls, y1, d, rfl, hd2, hfit d (List.mem_of_getElem? hdi), fun H3 s4 => ⟨okR ls d, rfl, ?_⟩⟩
        have s13 := (s1.trans s2).trans (s3.trans s4)
        have hil : i < ds.length := by omega
        have ed : ds.drop i = d :: ds.drop (i + 1) := by
          have z := List.drop_eq_getElem_cons hil
          have e2 : ds[i] = d := by
            rw [List.getElem?_eq_getElem hil] at hdi
            exact Option.some.inj hdi
          rw [z, e2]
        have et : ds.take (i + 1) = ds.take i ++ [d] := by
          rw [List.take_add_one, hdi]
          rfl
        rw [ed] at hsc
        have thr : ¬ (okR ls d = true ∧ placeOf d ∉ (ds.take i).map placeOf) → ∀ H4, Same H H4 → Thrown E C H4 [("number", .int (i : Nat))] := fun no H4 s5 => by
          have z : scan ls [] 0 ds = some i := by
            rw [hsc]
            show (if okR ls d = true ∧ placeOf d ∉ (ds.take i).map placeOf then _ else _) = _
            rw [if_neg no]
          exact (k2 i z).mono s5
        cases eR : okR ls d with
        | false => exact iteT (iteT ⟨V.int (i : Nat), rfl, rd_mk rfl (by show 1 ≤ 1000; decide) fun dx H' s' n q => thr (fun z => by rw [eR] at z; exact absurd z.1 (by decide)) H3 s13 H' dx s' n q⟩)
        | true =>
        obtain ⟨px, pb, pc, he, hTL, hpl, hp1, hp2⟩ := okR_elems eR
        have hT3 : H3 T = some (.dK kvs) := s4 _ _ (s3 _ _ hT)
        have hd3 : De K H3 y1 d := de_mono s4 d y1 hd2
        have hdG : De K G y1 d := de_mono s1 d y1 hd
        -- the row as a tuple or a list
        obtain ⟨p, v0, vr, rfl, hG, hsq, hix⟩ : ∃ (p : Addr) (v0 : V) (vr : List V), y1 = .ref p ∧ DeAll K G (v0 :: vr) (elems d) ∧ (G p = some (.lst (v0 :: vr)) ∨ (G p = some (.tup (v0 :: vr)) ∧ De K G (.ref p) (.tuple (elems d)))) ∧
            ∀ H5, Same G H5 → ∀ R : VK, R v0 H5 → rIx K (.ref p) (.int 0) H5 R := by
          cases hdG with
          | @lst a1 vs ds1 ha1 hds =>
            have he' : ds1 = [.str px, pb, pc] := he
            subst he'
            cases hds with
            | @cons v0 vr _ _ h0 t0 => exact ⟨a1, v0, vr, rfl, .cons h0 t0, .inl ha1, fun H5 s5 R q => .inl ⟨a1, _, 0, v0, rfl, rfl, .inl (.inl (s5 _ _ ha1)), atI_nat (j := 0) rfl, q⟩⟩
          | @tup a1 vs ds1 ha1 hds =>
            have he' : ds1 = [.str px, pb, pc] := he
            subst he'
            cases hds with
            | @cons v0 vr _ _ h0 t0 => exact ⟨a1, v0, vr, rfl, .cons h0 t0, .inr ⟨ha1, .tup ha1 (.cons h0 t0)⟩, fun H5 s5 R q => .inr (.inl ⟨a1, _, 0, v0, rfl, rfl, .inl (.inl (s5 _ _ ha1)), atI_nat (j := 0) rfl, q⟩)⟩
          | _ => cases hTL
        have hv0 : v0 = .str (placeOf d) := by
          rw [he] at hG
          cases hG with
          | cons h0 _ =>
            cases h0
            rw [hpl]
        subst hv0
        have sG3 : Same G H3 := s2.trans (s3.trans s4)
        have hget : DGet H3 T (.str (placeOf d)) (valV kvs (.inr (placeOf d))) := DGet.k (k := (.inr (placeOf d) : Key)) hT3
        refine iteF ⟨V.ref p, rfl, hix H3 sG3 _ ⟨V.ref T, rfl, T, _, rfl, hget, _, rfl, ?_⟩⟩
        rw [tb.has]
        refine ite2 (fun c1 => ?_) (fun c1 => ?_)
        · have hm := of_decide_eq_true c1
          exact ⟨V.int (i : Nat), rfl, rd_mk rfl (by show 1 ≤ 1000; decide) fun dx H' s' n q => thr (fun z => z.2 hm) H3 s13 H' dx s' n q⟩
        · have hm : placeOf d ∉ (ds.take i).map placeOf := fun z => c1 (decide_eq_true z)
          have hsc2 : scan ls [] 0 ds = scan ls ((ds.take (i + 1)).map placeOf) (i + 1) (ds.drop (i + 1)) := by
            rw [hsc, et, List.map_append]
            show (if okR ls d = true ∧ placeOf d ∉ (ds.take i).map placeOf then _ else _) = _
            rw [if_pos ⟨eR, hm⟩]
            rfl
          have hnone : valV kvs (.inr (placeOf d)) = none := by
            have z := tb.has (placeOf d)
            rw [decide_eq_false hm] at z
            cases q : valV kvs (.inr (placeOf d)) with
            | none => rfl
            | some v =>
              rw [q] at z
              cases z
          have hkl : kvs.length < sizeLine := by
            have z := congrArg List.length tb.1
            rw [List.length_map, List.length_map, List.length_take] at z
            have z2 : (5000 : Nat) < sizeLine := by decide
            omega
          -- behind the store
          have fin : ∀ (tv : V) (G2 H4 : Hp), Same G G2 → G2 T = none → Same G2 H4 → H4 T = some (.dK kvs) → De K G2 tv (.tuple (elems d)) → TLoop K ls a T H xs ds (i + 1) [some (.str ls), some (.ref a), some (.ref T), some (.int (i : Nat)), some (.ref p)] (upd H4 T (.dK (putK kvs (.inr (placeOf d)) tv))) := fun tv G2 H4 g1 g2 g3 g4 g5 => by
            refine ⟨⟨_, _, rfl⟩, ⟨G2, kvs ++ [(.inr (placeOf d), tv)], s1.trans g1, g2, fun b o e => ?_, ?_, ?_⟩, hsc2⟩
            · rw [upd_ne (ne_of_none e g2)]
              exact g3 _ _ e
            · rw [putK_new tv hnone]
              exact upd_same
            · rw [et]
              exact (tb.mono g1).snoc g5
          rcases hsq with hl | ⟨ht, htd⟩
          · refine ⟨V.ref p, rfl, p, _, rfl, .inl ⟨.inl (.inl (sG3 _ _ hl)), fun l nl => ?_⟩⟩
            have gl : G l = none := sG3.free nl
            have nTl : T ≠ l := fun z => by
              rw [← z, hT3] at nl
              cases nl
            refine ⟨V.ref T, rfl, V.ref p, rfl, hix _ (sG3.trans (upd_new nl)) _ ⟨T, _, rfl, DPut.k (k := (.inr (placeOf d) : Key)) ((upd_ne nTl).trans hT3) hkl, ?_⟩⟩
            refine fin (.ref l) (upd G l (.tup _)) (upd H3 l (.tup _)) (upd_new gl) ((upd_ne nTl).trans n1) (fun b o e => ?_) ((upd_ne nTl).trans hT3) (.tup upd_same (de_monoAll (upd_new gl) _ _ hG))
            by_cases hb : b = l
            · subst hb
              rw [upd_same] at e ⊢
              exact e
            · rw [upd_ne hb] at e ⊢
              exact sG3 _ _ e
          · refine ⟨V.ref p, rfl, p, _, rfl, .inr ⟨.inl (.inl (sG3 _ _ ht)), ?_⟩⟩
            refine ⟨V.ref T, rfl, V.ref p, rfl, hix _ sG3 _ ⟨T, _, rfl, DPut.k (k := (.inr (placeOf d) : Key)) hT3 hkl, ?_⟩⟩
            exact fin (.ref p) G H3 (Same.refl G) n1 sG3 hT3 htd
    · refine ⟨_, pss_cons (ps_set (i := 2) sc19.nd rfl (Or.inl rfl) pe_dnewK) (pss_cons (ps_for (passes_of rfl) rfl (pi_enumT (by rfl) gE (pa_cons (pv 1) pa_nil)) (pg_tup rfl (pgs_cons (pg_name (i := 3) sc19.nd rfl (Or.inl rfl)) (pgs_cons (pg_name (i := 4) sc19.nd rfl (Or.inl rfl)) pgs_nil)))
        (pss_cons (ps_if (pw_or (pt_not (pt_val (pe_call GR hr (by rfl) gR kR bR .nil pass0 (pa_cons (pv 0) (pa_cons (pv 4) pa_nil))))) (pw_or1 (pt_cmp (pc_din hu (pe_ix ix_seq (pv 4) pe_int (fun _ _ => rfl)) (pv 2))))).pt
            (pss_one (ps_raise rfl (takes_of rfl rfl rfl rfl) (pmk_oex D.cl.T iC tI F1 hr b1 .nil pass0 (by rfl) D.gC (pa_cons (pv 3) pa_nil)))) pss_nil)
          (pss_one (ps_dput hu (pv 2) (pe_ix ix_seq (pv 4) pe_int (fun _ _ => rfl)) (pe_callTy call_tuple_of (by rfl) gT PyProof.Rows.boot_tuple (pa_cons (pv 4) pa_nil)) rfl))))
        (pss_one (ps_ret (pv 2)))), ?_⟩
      refine fun T nT => ⟨V.ref a, rfl, a, xs, rfl, upd_new nT _ _ ha, for_it (walk_enumT (xs := xs)) (TLoop K ls a T H xs ds) ?st (fun i σ H1 _ q => ?go) ?tn ?en⟩
      case st => exact ⟨⟨none, none, rfl⟩, ⟨H, [], Same.refl H, nT, upd_new nT, upd_same, TabOk.nil⟩, rfl⟩
      case go =>
        obtain ⟨G, kvs, s1, n1, s2, _, _⟩ := q.hp
        exact s2 _ _ (s1 _ _ ha)
      case en =>
        rintro σ H1 ⟨⟨x3, x4, rfl⟩, ⟨G, kvs, s1, n1, s2, hT, tb⟩, hsc⟩
        rw [hlen, List.take_length] at tb
        rw [hlen, List.drop_length, List.take_length] at hsc
        exact ⟨V.ref T, rfl, k1 hsc H1 T kvs (s1.trans s2) nT hT (tb.mono s2)⟩
      case tn =>
        rintro i x σ H1 H2 hi ⟨⟨x3, x4, rfl⟩, ⟨G, kvs, s1, n1, s2, hT, tb⟩, hsc⟩ ⟨T1, x1, y1, rfl, nT1, rfl, ex, ey⟩
        obtain rfl : V.int (i : Nat) = x1 := Option.some.inj ex
        obtain ⟨d, hdi, hd⟩ := deAll_at hda ey
        have s3 : Same H1 (upd H1 T1 (.tup [.int (i : Nat), y1])) := upd_new nT1
        refine ⟨T1, _, rfl, .inl (.inl upd_same), rfl, _, _, rfl, _, _, rfl, rfl, ?_⟩
        generalize upd H1 T1 (.tup [.int (i : Nat), y1]) = H2 at s3
        have hd2 : De K H2 y1 d := de_mono ((s1.trans s2).trans s3) d y1 hd
        refine ⟨V.str ls, rfl, y1, rfl, ls, y1, d, rfl, hd2, hfit d (List.mem_of_getElem? hdi), fun H3 s4 => ⟨okR ls d, rfl, ?_⟩⟩
        have s13 := (s1.trans s2).trans (s3.trans s4)
        have hil : i < ds.length := by omega
        have ed : ds.drop i = d :: ds.drop (i + 1) := by
          have z := List.drop_eq_getElem_cons hil
          have e2 : ds[i] = d := by
            rw [List.getElem?_eq_getElem hil] at hdi
            exact Option.some.inj hdi
          rw [z, e2]
        have et : ds.take (i + 1) = ds.take i ++ [d] := by
          rw [List.take_add_one, hdi]
          rfl
        rw [ed] at hsc
        have thr : ¬ (okR ls d = true ∧ placeOf d ∉ (ds.take i).map placeOf) → ∀ H4, Same H H4 → Thrown E C H4 [("number", .int (i : Nat))] := fun no H4 s5 => by
          have z : scan ls [] 0 ds = some i := by
            rw [hsc]
            show (if okR ls d = true ∧ placeOf d ∉ (ds.take i).map placeOf then _ else _) = _
            rw [if_neg no]
          exact (k2 i z).mono s5
        cases eR : okR ls d with
        | false => exact iteT (iteT ⟨V.int (i : Nat), rfl, rd_mk rfl (by show 1 ≤ 1000; decide) fun dx H' s' n q => thr (fun z => by rw [eR] at z; exact absurd z.1 (by decide)) H3 s13 H' dx s' n q⟩)
        | true =>
        obtain ⟨px, pb, pc, he, hTL, hpl, hp1, hp2⟩ := okR_elems eR
        have hT3 : H3 T = some (.dK kvs) := s4 _ _ (s3 _ _ hT)
        have hd3 : De K H3 y1 d := de_mono s4 d y1 hd2
        have hdG : De K G y1 d := de_mono s1 d y1 hd
        -- the row as a tuple or a list
        obtain ⟨p, v0, vr, rfl, hG, hsq, hix⟩ : ∃ (p : Addr) (v0 : V) (vr : List V), y1 = .ref p ∧ DeAll K G (v0 :: vr) (elems d) ∧ (G p = some (.lst (v0 :: vr)) ∨ (G p = some (.tup (v0 :: vr)) ∧ De K G (.ref p) (.tuple (elems d)))) ∧
            ∀ H5, Same G H5 → ∀ R : VK, R v0 H5 → rIx K (.ref p) (.int 0) H5 R := by
          cases hdG with
          | @lst a1 vs ds1 ha1 hds =>
            have he' : ds1 = [.str px, pb, pc] := he
            subst he'
            cases hds with
            | @cons v0 vr _ _ h0 t0 => exact ⟨a1, v0, vr, rfl, .cons h0 t0, .inl ha1, fun H5 s5 R q => .inl ⟨a1, _, 0, v0, rfl, rfl, .inl (.inl (s5 _ _ ha1)), atI_nat (j := 0) rfl, q⟩⟩
          | @tup a1 vs ds1 ha1 hds =>
            have he' : ds1 = [.str px, pb, pc] := he
            subst he'
            cases hds with
            | @cons v0 vr _ _ h0 t0 => exact ⟨a1, v0, vr, rfl, .cons h0 t0, .inr ⟨ha1, .tup ha1 (.cons h0 t0)⟩, fun H5 s5 R q => .inr (.inl ⟨a1, _, 0, v0, rfl, rfl, .inl (.inl (s5 _ _ ha1)), atI_nat (j := 0) rfl, q⟩)⟩
          | _ => cases hTL
        have hv0 : v0 = .str (placeOf d) := by
          rw [he] at hG
          cases hG with
          | cons h0 _ =>
            cases h0
            rw [hpl]
        subst hv0
        have sG3 : Same G H3 := s2.trans (s3.trans s4)
        have hget : DGet H3 T (.str (placeOf d)) (valV kvs (.inr (placeOf d))) := DGet.k (k := (.inr (placeOf d) : Key)) hT3
        refine iteF ⟨V.ref p, rfl, hix H3 sG3 _ ⟨V.ref T, rfl, T, _, rfl, hget, _, rfl, ?_⟩⟩
        rw [tb.has]
        refine ite2 (fun c1 => ?_) (fun c1 => ?_)
        · have hm := of_decide_eq_true c1
          exact ⟨V.int (i : Nat), rfl, rd_mk rfl (by show 1 ≤ 1000; decide) fun dx H' s' n q => thr (fun z => z.2 hm) H3 s13 H' dx s' n q⟩
        · have hm : placeOf d ∉ (ds.take i).map placeOf := fun z => c1 (decide_eq_true z)
          have hsc2 : scan ls [] 0 ds = scan ls ((ds.take (i + 1)).map placeOf) (i + 1) (ds.drop (i + 1)) := by
            rw [hsc, et, List.map_append]
            show (if okR ls d = true ∧ placeOf d ∉ (ds.take i).map placeOf then _ else _) = _
            rw [if_pos ⟨eR, hm⟩]
            rfl
          have hnone : valV kvs (.inr (placeOf d)) = none := by
            have z := tb.has (placeOf d)
            rw [decide_eq_false hm] at z
            cases q : valV kvs (.inr (placeOf d)) with
            | none => rfl
            | some v =>
              rw [q] at z
              cases z
          have hkl : kvs.length < sizeLine := by
            have z := congrArg List.length tb.1
            rw [List.length_map, List.length_map, List.length_take] at z
            have z2 : (5000 : Nat) < sizeLine := by decide
            omega
          -- behind the store
          have fin : ∀ (tv : V) (G2 H4 : Hp), Same G G2 → G2 T = none → Same G2 H4 → H4 T = some (.dK kvs) → De K G2 tv (.tuple (elems d)) → TLoop K ls a T H xs ds (i + 1) [some (.str ls), some (.ref a), some (.ref T), some (.int (i : Nat)), some (.ref p)] (upd H4 T (.dK (putK kvs (.inr (placeOf d)) tv))) := fun tv G2 H4 g1 g2 g3 g4 g5 => by
            refine ⟨⟨_, _, rfl⟩, ⟨G2, kvs ++ [(.inr (placeOf d), tv)], s1.trans g1, g2, fun b o e => ?_, ?_, ?_⟩, hsc2⟩
            · rw [upd_ne (ne_of_none e g2)]
              exact g3 _ _ e
            · rw [putK_new tv hnone]
              exact upd_same
            · rw [et]
              exact (tb.mono g1).snoc g5
          rcases hsq with hl | ⟨ht, htd⟩
          · refine ⟨V.ref p, rfl, p, _, rfl, .inl ⟨.inl (.inl (sG3 _ _ hl)), fun l nl => ?_⟩⟩
            have gl : G l = none := sG3.free nl
            have nTl : T ≠ l := fun z => by
              rw [← z, hT3] at nl
              cases nl
            refine ⟨V.ref T, rfl, V.ref p, rfl, hix _ (sG3.trans (upd_new nl)) _ ⟨T, _, rfl, DPut.k (k := (.inr (placeOf d) : Key)) ((upd_ne nTl).trans hT3) hkl, ?_⟩⟩
            refine fin (.ref l) (upd G l (.tup _)) (upd H3 l (.tup _)) (upd_new gl) ((upd_ne nTl).trans n1) (fun b o e => ?_) ((upd_ne nTl).trans hT3) (.tup upd_same (de_monoAll (upd_new gl) _ _ hG))
            by_cases hb : b = l
            · subst hb
              rw [upd_same] at e ⊢
              exact e
            · rw [upd_ne hb] at e ⊢
              exact sG3 _ _ e
          · refine ⟨V.ref p, rfl, p, _, rfl, .inr ⟨.inl (.inl (sG3 _ _ ht)), ?_⟩⟩
            refine ⟨V.ref T, rfl, V.ref p, rfl, hix _ sG3 _ ⟨T, _, rfl, DPut.k (k := (.inr (placeOf d) : Key)) hT3 hkl, ?_⟩⟩
            exact fin (.ref p) G H3 (Same.refl G) n1 sG3 hT3 htd
end
end SK
namespace SK
open PySem PySem.Spec PyProof.Rows L2 LamX NdefX
open K0 (De DeAll XCl spX withX)
/-! ### the letters below each place -/
def initS (p : Str) : Str := ⟨p.cps.toList.dropLast.toArray⟩
theorem cut_init (p : Str) : cutS p none (some (-1)) = initS p := by
  have e : HT.sIx p.length p.length (some (-1)) = p.length - 1 := by
    show (if (-1 : Int) < 0 then (-1 + (p.length : Int)).toNat else min (-1 : Int).toNat p.length) = _
    rw [if_pos (by decide)]
    omega
  unfold cutS initS
  rw [e, HT.sIx_none, List.drop_zero, Nat.sub_zero, List.dropLast_eq_take]
  have z : p.length = p.cps.toList.length := by simp [Str.length]
  rw [z]
theorem at_last {p : Str} (h : p ≠ Str.ofString "") : ∃ c, atI p.cps.toList (-1) = some c := by
  have hn : p.cps.toList ≠ [] := fun z => h (by
    have e : p.cps = #[] := by simpa using z
    obtain ⟨cps⟩ := p
    have e : cps = #[] := e
    rw [e]
    decide +kernel)
  have hp : 0 < p.cps.toList.length := List.length_pos_iff.mpr hn
  have e : ixN p.cps.toList.length (-1) = some (p.cps.toList.length - 1) := by
    unfold ixN
    rw [if_neg (by decide), if_pos (by omega)]
    congr 1
    omega
  exact ⟨_, by unfold atI; rw [e]; exact List.getElem?_eq_getElem (by omega)⟩
def isLone (ps : List Str) (p : Str) : Bool := decide (p ≠ Str.ofString "") && !decide (initS p ∈ ps)
def lone (ps : List Str) : Option Str := ps.find? (isLone ps)
def Keys (kvs : List (Key × V)) (ps : List Str) : Prop := kvs.map Prod.fst = ps.map fun p => (Sum.inr p : Key)
theorem Keys.has {kvs : List (Key × V)} {ps : List Str} (t : Keys kvs ps) (x : Str) : (valV kvs (.inr x)).isSome = decide (x ∈ ps) := by
  rw [← valV_any]
  have e : (kvs.any fun kv => decide (kv.1 = (.inr x : Key))) = (kvs.map Prod.fst).any fun k => decide (k = (.inr x : Key)) := by
    rw [List.any_map]
    rfl
  rw [e, t, List.any_map]
  by_cases h : x ∈ ps
  · rw [decide_eq_true h]
    exact List.any_eq_true.mpr ⟨x, h, by simp⟩
  · rw [decide_eq_false h, List.any_eq_false]
    intro d hd
    simp only [Function.comp, decide_eq_true_eq]
    intro z
    injection z with z
    exact h (z ▸ hd)
theorem Keys.len {kvs : List (Key × V)} {ps : List Str} (t : Keys kvs ps) : kvs.length = ps.length := by
  have z := congrArg List.length t
  simpa using z
theorem Keys.put {kvs : List (Key × V)} {ps : List Str} {x : Str} {v : V} (t : Keys kvs ps) (h : x ∈ ps) : Keys (putK kvs (.inr x) v) ps := by
  have e : (kvs.any fun kv => decide (kv.1 = (.inr x : Key))) = true := by
    rw [valV_any, t.has, decide_eq_true h]
  unfold putK
  rw [if_pos e]
  unfold Keys
  rw [List.map_map, ← t]
  refine List.map_congr_left fun kv _ => ?_
  show (if kv.1 = _ then (kv.1, v) else kv).1 = kv.1
  split <;> rfl
/-! ### what stands below each place -/
def belL (ps : List Str) (q : Str) : List Nat := ps.filterMap fun r => if r ≠ Str.ofString "" ∧ initS r = q then r.cps.toList.getLast? else none
def belS (ps : List Str) (q : Str) : Str := ⟨(belL ps q).toArray⟩
theorem belL_snoc (l : List Str) (p q : Str) : belL (l ++ [p]) q = belL l q ++ (if p ≠ Str.ofString "" ∧ initS p = q then p.cps.toList.getLast? else none).toList := by
  have one : ∀ (f : Str → Option Nat) (x : Str), [x].filterMap f = (f x).toList := fun f x => by
    cases h : f x <;> simp [List.filterMap_cons, h]
  unfold belL
  rw [List.filterMap_append, one]
theorem belL_len (l : List Str) (q : Str) : (belL l q).length ≤ l.length := List.length_filterMap_le _ _
theorem take_next {ps : List Str} {i : Nat} {p : Str} (h : ps[i]? = some p) : ps.take (i + 1) = ps.take i ++ [p] := by
  rw [List.take_add_one, h]
  rfl
theorem valV_key {kvs : List (Key × V)} {k : Key} {v : V} (h : valV kvs k = some v) : ∃ kv ∈ kvs, kv.1 = k ∧ kv.2 = v := by
  unfold valV at h
  cases e : kvs.find? (fun kv => decide (kv.1 = k)) with
  | none =>
    rw [e] at h
    cases h
  | some kv =>
    rw [e] at h
    exact ⟨kv, List.mem_of_find?_eq_some e, (by have z := List.find?_some e; simpa using z), Option.some.inj h⟩
/-- how far the dict is filled -/
def Below (ps : List Str) (i : Nat) (kvs : List (Key × V)) : Prop := ∀ kv ∈ kvs, ∃ q z : Str, kv.1 = .inr q ∧ kv.2 = .str z ∧ z = belS (ps.take i) q ∧ z.length ≤ i
theorem Below.zero {ps : List Str} {kvs : List (Key × V)} (hk : Keys kvs ps) (hv : ∀ kv ∈ kvs, kv.2 = .str "") : Below ps 0 kvs := fun kv h => by
  have m : kv.1 ∈ kvs.map Prod.fst := List.mem_map.mpr ⟨kv, h, rfl⟩
  rw [show kvs.map Prod.fst = _ from hk] at m
  obtain ⟨q, _, e⟩ := List.mem_map.mp m
  exact ⟨q, "", e.symm, hv kv h, (by show Str.ofString "" = (⟨#[]⟩ : Str); decide +kernel), by decide +kernel⟩
theorem Below.nil {ps : List Str} {i : Nat} {kvs : List (Key × V)} {p : Str} (h : Below ps i kvs) (hp : ps[i]? = some p) (he : p = Str.ofString "") : Below ps (i + 1) kvs := fun kv hkv => by
  obtain ⟨q, z, h1, h2, h3, h4⟩ := h kv hkv
  refine ⟨q, z, h1, h2, ?_, by omega⟩
  rw [h3]
  unfold belS
  rw [take_next hp, belL_snoc, if_neg (fun z => z.1 he)]
  simp
theorem Below.at_ {ps : List Str} {i : Nat} {kvs : List (Key × V)} {q : Str} {v : V} (h : Below ps i kvs) (hv : valV kvs (.inr q) = some v) : ∃ z : Str, v = .str z ∧ z = belS (ps.take i) q ∧ z.length ≤ i := by
  obtain ⟨kv, m, e1, e2⟩ := valV_key hv
  obtain ⟨q', z, h1, h2, h3, h4⟩ := h kv m
  rw [e1] at h1
  injection h1 with h1
  subst h1
  exact ⟨z, e2.symm.trans h2, h3, h4⟩
theorem at_get {l : List Nat} {c : Nat} (h : atI l (-1) = some c) : l.getLast? = some c := by
  unfold atI at h
  cases e : ixN l.length (-1) with
  | none =>
    rw [e] at h
    cases h
  | some j =>
    rw [e] at h
    have ej : j = l.length - 1 := by
      unfold ixN at e
      rw [if_neg (by decide)] at e
      split at e
      · have := Option.some.inj e
        omega
      · cases e
    subst ej
    rw [List.getLast?_eq_getElem?]
    exact h
theorem Below.put {ps : List Str} {i : Nat} {kvs : List (Key × V)} {p zz : Str} {cc : Nat} (h : Below ps i kvs) (hp : ps[i]? = some p) (he : p ≠ Str.ofString "") (hc : atI p.cps.toList (-1) = some cc) (hv : valV kvs (.inr (initS p)) = some (.str zz)) (hz : zz = belS (ps.take i) (initS p)) :
    Below ps (i + 1) (putK kvs (.inr (initS p)) (.str (zz ++ ⟨#[cc]⟩))) := fun kv hkv => by
  have last := at_get hc
  have any : (kvs.any fun kv => decide (kv.1 = (.inr (initS p) : Key))) = true := by
    rw [valV_any, hv]
    rfl
  unfold putK at hkv
  rw [if_pos any] at hkv
  obtain ⟨kv0, m, rfl⟩ := List.mem_map.mp hkv
  obtain ⟨q, z, h1, h2, h3, h4⟩ := h kv0 m
  by_cases hk0 : kv0.1 = (.inr (initS p) : Key)
  · rw [if_pos hk0]
    refine ⟨initS p, _, hk0, rfl, ?_, ?_⟩
    · rw [hz]
      unfold belS
      rw [take_next hp, belL_snoc, if_pos ⟨he, rfl⟩, last]
      show (⟨(belL (ps.take i) (initS p)).toArray ++ #[cc]⟩ : Str) = _
      simp
    · obtain ⟨z', e1, _, e3⟩ := h.at_ hv
      injection e1 with e1
      subst e1
      rw [PySem.Str.length_append]
      show zz.length + 1 ≤ i + 1
      omega
  · rw [if_neg hk0]
    refine ⟨q, z, h1, h2, ?_, by omega⟩
    rw [h3]
    unfold belS
    rw [take_next hp, belL_snoc, if_neg (fun w => hk0 (by rw [h1, w.2]))]
    simp
theorem Below.done {ps : List Str} {kvs : List (Key × V)} (h : Below ps ps.length kvs) (hk : Keys kvs ps) : ∀ p ∈ ps, valV kvs (.inr p) = some (.str (belS ps p)) := fun p hp => by
  have z := hk.has p
  rw [decide_eq_true hp] at z
  obtain ⟨v, hv⟩ := Option.isSome_iff_exists.mp z
  obtain ⟨zz, rfl, e, _⟩ := h.at_ hv
  rw [List.take_length] at e
  rw [hv, e]
def spBelow (C : Addr) : Sp := fun vs H Q E => ∃ (a : Addr) (ps : List Str), vs = [.ref a] ∧ H a = some (.lst (ps.map V.str)) ∧ ps.Nodup ∧ (∀ p ∈ ps, p.cps.size ≤ 200) ∧ ps.length ≤ 5000 ∧
  (lone ps = none → ∀ (H' : Hp) (B : Addr) (kvs : List (Key × V)), Same H H' → H B = none → H' B = some (.dK kvs) → Keys kvs ps → (∀ p ∈ ps, valV kvs (.inr p) = some (.str (belS ps p))) → Q (.ref B) H') ∧ (∀ p, lone ps = some p → Thrown E C H [("place", .str p)])
structure BLoop (a B : Addr) (H : Hp) (ps : List Str) (i : Nat) (σ : St) (H1 : Hp) : Prop where
  sl : ∃ x2 x3, σ = [some (.ref a), some (.ref B), x2, x3]
  hp : ∃ kvs : List (Key × V), Same H H1 ∧ H1 B = some (.dK kvs) ∧ Keys kvs ps ∧ Below ps i kvs
  no : ∀ j p, j < i → ps[j]? = some p → isLone ps p = false
theorem valV_mem {kvs : List (Key × V)} {k : Key} {v : V} (h : valV kvs k = some v) : ∃ kv ∈ kvs, kv.2 = v := by
  unfold valV at h
  cases e : kvs.find? (fun kv => decide (kv.1 = k)) with
  | none =>
    rw [e] at h
    cases h
  | some kv =>
    rw [e] at h
    exact ⟨kv, List.mem_of_find?_eq_some e, Option.some.inj h⟩
theorem lone_none {ps : List Str} (h : ∀ j p, j < ps.length → ps[j]? = some p → isLone ps p = false) : lone ps = none := by
  unfold lone
  rw [List.find?_eq_none]
  intro p hp
  obtain ⟨j, hj⟩ := List.mem_iff_getElem?.mp hp
  rw [h j p (List.getElem?_eq_some_iff.mp hj).1 hj]
  exact Bool.false_ne_true
theorem lone_first {ps : List Str} {i : Nat} {p : Str} (h : ∀ j q, j < i → ps[j]? = some q → isLone ps q = false) (hi : ps[i]? = some p) (hl : isLone ps p = true) : lone ps = some p := by
  unfold lone
  have hlt := (List.getElem?_eq_some_iff.mp hi).1
  have e : ps = ps.take i ++ p :: ps.drop (i + 1) := by
    have z := List.drop_eq_getElem_cons hlt
    have e2 : ps[i] = p := by
      rw [List.getElem?_eq_getElem hlt] at hi
      exact Option.some.inj hi
    rw [e2] at z
    rw [← z, List.take_append_drop]
  generalize hp : isLone ps = P at h hl ⊢
  rw [e, List.find?_append]
  have n : (ps.take i).find? P = none := by
    rw [List.find?_eq_none]
    intro q hq
    obtain ⟨j, hj⟩ := List.mem_iff_getElem?.mp hq
    have hji : j < i := by
      have z := (List.getElem?_eq_some_iff.mp hj).1
      rw [List.length_take] at z
      omega
    rw [List.getElem?_take_of_lt hji] at hj
    rw [h j q hji hj]
    exact Bool.false_ne_true
  rw [n]
  simp [List.find?_cons, hl]
section
variable {P : Program} {w : World} {K : PySem.W.Frag} {mg : Str → Option Value} {base : Heap} {f C : Addr} {fd : FuncData}
theorem sc20 : FnScope ["places", "below", "place", "parent"] ["places"] (defScope (top 20)) := ⟨rfl, rfl, rfl, by decide +kernel, rfl, by decide +kernel, by decide +kernel⟩
theorem ok_below (F : Fun K "letters_below" "letters_below" (top 20) f fd) (D : XR P w K mg base "Lone" C ["place"]) : FnOk P w K mg base (L2.CX P w) 3 f fd ["places"] (spBelow C) := by
  refine F.okX sc20 (fun vs H Q E h => ?_) (fun cdv A outer s H vs Q E hr h => ?_)
  · obtain ⟨a, ps, rfl, _⟩ := h
    rfl
  · obtain ⟨a, ps, rfl, ha, nd, h200, hz, k1, k2⟩ := h
    obtain ⟨fi, fdi, iC, tI, F1, b1⟩ := D.ini
    have hu := hu_of hr
    refine ⟨_, pss_cons (ps_setDc (i := 1) (own := [("place", 2)]) (g := gName 2) (tt := tYes) rfl sc20.nd rfl rfl (swD_true rfl rfl rfl (by decide +kernel)) (pi_list (pv 0)) (blkOk_by (N := ["places", "below", "place", "parent"]) (sc := defScope (top 20)) (by decide +kernel))
        (fun _ _ _ _ _ => pg_name (i := 2) sc20.nd rfl (Or.inl rfl)) (fun _ _ _ _ _ => pts_nil) (fun _ _ _ _ _ => pv 2) (fun _ _ _ _ _ => pe_str))
      (pss_cons (ps_for (passes_of rfl) rfl (pi_list (pv 0)) (pg_name (i := 2) sc20.nd rfl (Or.inl rfl))
        (pss_one (ps_if (pt_cmpR op_ne (pv 2) pe_str (nomark _)) (pss_cons (ps_set (i := 3) sc20.nd rfl (Or.inl rfl) (pe_slice sl_str (pv 2) po_none (po_some (pe_un un_neg pe_int))))
          (pss_cons (ps_if (pt_cmp (pc_dnotin hu (pv 3) (pv 1))) (pss_one (ps_raise rfl (takes_of rfl rfl rfl rfl) (pmk_oex D.cl.T iC tI F1 hr b1 .nil pass0 (by rfl) D.gC (pa_cons (pv 2) pa_nil)))) pss_nil)
          (pss_one (ps_daug hu (pv 1) (pv 3) (pe_ix ix_str (pv 2) (pe_un un_neg pe_int) (fun _ _ => rfl)) in_addS (fun _ _ _ => rfl))))) pss_nil)))
      (pss_one (ps_ret (pv 1)))), ?_⟩
    refine ⟨V.ref a, rfl, a, rfl, ⟨_, .inl (.inl ha)⟩, fun B nB => dc_it (walk_list (K := K) (xs := ps.map V.str)) (fun i H1 => ∃ kvs : List (Key × V), Same H H1 ∧ H1 B = some (.dK kvs) ∧ Keys kvs (ps.take i) ∧ ∀ kv ∈ kvs, kv.2 = .str "")
      ⟨[], upd_new nB, upd_same, rfl, fun kv h => absurd h (by simp)⟩ (fun i H1 _ ⟨kvs, sm, _⟩ => .inl (.inl (sm _ _ ha))) ?_ ?_⟩
    · rintro i x H1 H2 hi ⟨kvs, sm, hB, hk, hv⟩ ⟨rfl, hx⟩
      obtain ⟨p, hp, rfl⟩ : ∃ p, ps[i]? = some p ∧ V.str p = x := by
        rw [List.getElem?_map] at hx
        cases q : ps[i]? with
        | none =>
          rw [q] at hx
          cases hx
        | some p =>
          rw [q] at hx
          exact ⟨p, rfl, Option.some.inj hx⟩
      have et : ps.take (i + 1) = ps.take i ++ [p] := by
        rw [List.take_add_one, hp]
        rfl
      have hnone : valV kvs (.inr p) = none := by
        have z := hk.has p
        have nm : p ∉ ps.take i := fun hm => by
          obtain ⟨j, hj⟩ := List.mem_iff_getElem?.mp hm
          have hji : j < i := by
            have z := (List.getElem?_eq_some_iff.mp hj).1
            rw [List.length_take] at z
            omega
          rw [List.getElem?_take_of_lt hji] at hj
          have := nd_ix nd hj hp
          omega
        rw [decide_eq_false nm] at z
        cases q : valV kvs (.inr p) with
        | none => rfl
        | some v =>
          rw [q] at z
          cases z
      refine ⟨rfl, V.str p, rfl, kvs, .inr p, rfl, hB, ?_, kvs ++ [(.inr p, .str "")], fun b o e => ?_, ?_, ?_, fun kv hkv => ?_⟩
      · have z := hk.len
        rw [List.length_take] at z
        have z2 : (5000 : Nat) < sizeLine := by decide
        omega
      · rw [upd_ne (ne_of_none e nB)]
        exact sm _ _ e
      · rw [putK_new _ hnone]
        exact upd_same
      · unfold Keys
        rw [et, List.map_append, List.map_append]
        have z : kvs.map Prod.fst = _ := hk
        rw [z]
        rfl
      · rcases List.mem_append.mp hkv with z | z
        · exact hv kv z
        · rw [List.mem_singleton.mp z]
    rintro H1 ⟨kvs, sm, hB, hk, hv⟩
    rw [List.length_map, List.take_length] at hk
    refine ⟨V.ref a, rfl, a, rfl, ⟨_, .inl (.inl (sm _ _ ha))⟩, for_it (walk_list (K := K) (xs := ps.map V.str)) (BLoop a B H ps) ⟨⟨none, none, rfl⟩, ⟨kvs, sm, hB, hk, Below.zero hk hv⟩, fun j p h => absurd h (Nat.not_lt_zero _)⟩
      (fun i σ H2 _ q => by
        obtain ⟨_, s2, _⟩ := q.hp
        exact .inl (.inl (s2 _ _ ha))) ?_ ?_⟩
    · rintro i x σ H2 H3 hi ⟨⟨x2, x3, rfl⟩, ⟨kvs, sm, hB, hk, hv⟩, hno⟩ ⟨rfl, hx⟩
      obtain ⟨p, hp, rfl⟩ : ∃ p, ps[i]? = some p ∧ V.str p = x := by
        rw [List.getElem?_map] at hx
        cases q : ps[i]? with
        | none =>
          rw [q] at hx
          cases hx
        | some p =>
          rw [q] at hx
          exact ⟨p, rfl, Option.some.inj hx⟩
      have hp2 := h200 p (List.mem_of_getElem? hp)
      have hpl : p.length ≤ sizeLine := Nat.le_trans hp2 (by decide)
      have next : ∀ (kvs2 : List (Key × V)) (H4 : Hp) (y2 y3 : Option V), isLone ps p = false → Same H H4 → H4 B = some (.dK kvs2) → Keys kvs2 ps → Below ps (i + 1) kvs2 → BLoop a B H ps (i + 1) [some (.ref a), some (.ref B), y2, y3] H4 := fun kvs2 H4 y2 y3 nl s4 h4 k4 v4 =>
        ⟨⟨_, _, rfl⟩, ⟨kvs2, s4, h4, k4, v4⟩, fun j q hj hq => by
          by_cases hji : j = i
          · subst hji
            rw [hp] at hq
            obtain rfl := Option.some.inj hq
            exact nl
          · exact hno j q (by omega) hq⟩
      refine ⟨V.str p, rfl, rfl, _, rfl, ?_⟩
      by_cases he : p = Str.ofString ""
      · have hd : (!decide (V.str p = V.str (Str.ofString ""))) = false := by
          rw [he]
          simp
        rw [hd]
        refine iteF (next kvs _ _ _ ?_ sm hB hk (hv.nil hp he))
        unfold isLone
        rw [he]
        simp
      · have hd : (!decide (V.str p = V.str (Str.ofString ""))) = true := by
          have z : ¬ V.str p = V.str (Str.ofString "") := fun z => he (by injection z)
          rw [decide_eq_false z]
          rfl
        rw [hd]
        refine iteT ⟨V.str p, rfl, 1, rfl, (-1 : Int), rfl, p, rfl, hpl, ?_⟩
        rw [cut_init]
        refine ⟨V.str (initS p), rfl, V.ref B, rfl, B, _, rfl, DGet.k (k := (.inr (initS p) : Key)) hB, _, rfl, ?_⟩
        rw [hk.has]
        by_cases hm : initS p ∈ ps
        · rw [decide_eq_true hm]
          have hnl : isLone ps p = false := by
            unfold isLone
            rw [decide_eq_true hm]
            simp
          refine iteF ?_
          obtain ⟨v, hvv⟩ : ∃ v, valV kvs (.inr (initS p)) = some v := by
            have z := hk.has (initS p)
            rw [decide_eq_true hm] at z
            exact Option.isSome_iff_exists.mp z
          obtain ⟨zz, rfl, hz1, hz2⟩ := hv.at_ hvv
          obtain ⟨cc, hcc⟩ := at_last he
          have dg := DGet.k (k := (.inr (initS p) : Key)) hB
          rw [hvv] at dg
          have hkl : kvs.length < sizeLine := by
            have z := hk.len
            have z2 : (5000 : Nat) < sizeLine := by decide
            omega
          have hil : i < ps.length := by simpa using hi
          refine ⟨V.ref B, rfl, V.str (initS p), rfl, B, _, rfl, dg, V.str p, rfl, 1, rfl, p, (-1 : Int), cc, rfl, rfl, hpl, hcc, zz, ⟨#[cc]⟩, rfl, rfl, ?_, _, DPut.k (k := (.inr (initS p) : Key)) hB hkl, next _ _ _ _ hnl (fun b o e => ?_) upd_same (hk.put hm) (hv.put hp he hcc hvv hz1)⟩
          · have z2 : (5001 : Nat) ≤ sizeLine := by decide
            show zz.length + 1 ≤ sizeLine
            omega
          · rw [upd_ne (ne_of_none e nB)]
            exact sm _ _ e
        · rw [decide_eq_false hm]
          have hil : isLone ps p = true := by
            unfold isLone
            rw [decide_eq_false hm, decide_eq_true he]
            rfl
          refine iteT ⟨V.str p, rfl, rd_mk rfl (by show 1 ≤ 1000; decide) fun dx H' s' n q => ((k2 p (lone_first hno hp hil)).mono sm) H' dx s' n q⟩
    · rintro σ H2 ⟨⟨x2, x3, rfl⟩, ⟨kvs, sm, hB, hk, hv⟩, hno⟩
      rw [List.length_map] at hno hv
      exact ⟨V.ref B, rfl, k1 (lone_none hno) H2 B kvs sm nB hB hk (hv.done hk)⟩
end
end SK
namespace SK
open PySem PySem.Spec PyProof.Rows L2 LamX NdefX
open K0 (De DeAll XCl spX withX)
/-! ### a tree is made, or refused -/
theorem okL_of {x : Str} (h : okLb x = true) : OkL x := by
  simp only [okLb, Bool.and_eq_true, decide_eq_true_eq, List.all_eq_true] at h
  refine ⟨h.1.1, h.1.2, h.2.1, fun c hc => ?_⟩
  have z : ∀ c ∈ alpha.cps.toList, 97 ≤ c ∧ c < 123 := by decide +kernel
  exact z c (h.2.2 c hc)
theorem scan_none {ls : Str} : ∀ {ds : List PyData} {seen : List Str} {i : Nat}, scan ls seen i ds = none → (∀ d ∈ ds, okR ls d = true ∧ placeOf d ∉ seen) ∧ (ds.map placeOf).Nodup
  | [], _, _, _ => ⟨fun d h => absurd h (by simp), by simp⟩
  | d :: r, seen, i, h => by
    have h' : (if okR ls d = true ∧ placeOf d ∉ seen then scan ls (seen ++ [placeOf d]) (i + 1) r else some i) = none := h
    by_cases c : okR ls d = true ∧ placeOf d ∉ seen
    · rw [if_pos c] at h'
      obtain ⟨h1, h2⟩ := scan_none h'
      refine ⟨fun e he => ?_, ?_⟩
      · rcases List.mem_cons.mp he with rfl | he
        · exact c
        · exact ⟨(h1 e he).1, fun z => (h1 e he).2 (List.mem_append_left _ z)⟩
      · rw [List.map_cons, List.nodup_cons]
        refine ⟨fun z => ?_, h2⟩
        obtain ⟨e, he, e2⟩ := List.mem_map.mp z
        exact (h1 e he).2 (by rw [e2]; simp)
    · rw [if_neg c] at h'
      cases h'
theorem sortW_perm (ls : Str) (ws : List Str) : (sortW ls ws).Perm ws := List.mergeSort_perm _ _
def ThrownN (E : XK) (C : Addr) (H : Hp) (gs : List (Str × V)) (T : List (Addr × Str)) : Prop := ∀ (H' : Hp) (d : Addr), ExtN H H' → Tabs T H' → H' d = some (.xd gs) → E (.ref C) (some d) H'
theorem ThrownN.to {E : XK} {C : Addr} {H H1 : Hp} {gs : List (Str × V)} {T : List (Addr × Str)} (t : ThrownN E C H gs T) (e : ExtN H H1) (tb : Tabs T H1) : Thrown E C H1 gs := fun H' d s n q => t H' d (e.trans (ExtN.of s)) (tb.ext s) q
/-- how a tree is refused -/
inductive Way where
  | letters
  | places (n : Nat)
  | row (i : Nat)
  | lone (p : Str)
  | fine
def strOf : PyData → Str
  | .str x => x
  | _ => Str.empty
def way (L : PyData) (ds : List PyData) : Way := if okLd L = true then (if 1 ≤ ds.length ∧ ds.length ≤ 2000 then (match scan (strOf L) [] 0 ds with
  | some i => .row i
  | none => match lone (sortW (strOf L) (ds.map placeOf)) with
    | some p => .lone p
    | none => .fine) else .places ds.length) else .letters
/-- the four error classes -/
structure Cs where
  l : Addr
  m : Addr
  r : Addr
  o : Addr
def Refused (E : XK) (C : Cs) (vL : V) (H : Hp) (T : List (Addr × Str)) (w : Way) : Prop :=
  (w = .letters → ThrownN E C.l H [("letters", vL)] T) ∧ (∀ n : Nat, w = .places n → ThrownN E C.m H [("most", .int 2000), ("many", .int n), ("what", .str "places")] T) ∧
  (∀ i : Nat, w = .row i → ThrownN E C.r H [("number", .int i)] T) ∧ (∀ p, w = .lone p → ThrownN E C.o H [("place", .str p)] T)
/-- what a tree's fields hold -/
def TreeAt (K : PySem.W.Frag) (H : Hp) (fs : List (Str × V)) (ds : List PyData) : Prop := ∃ (B Tb l : Addr) (kvs kv2 : List (Key × V)) (ps : List Str), fs.lookup ("_below" : Str) = some (.ref B) ∧ fs.lookup ("_table" : Str) = some (.ref Tb) ∧ fs.lookup ("rows" : Str) = some (.ref l) ∧
  (∀ g : Str, g = "has" ∨ g = "row" ∨ g = "below" ∨ g = "words" → fs.lookup g = none) ∧ H Tb = some (.dK kvs) ∧ TabOk K H kvs ds ∧ H B = some (.dK kv2) ∧ Keys kv2 ps ∧ (∀ p ∈ ps, valV kv2 (.inr p) = some (.str (belS ps p))) ∧ H l = some (.tup (ps.map fun y => (valV kvs (.inr y)).getD .non)) ∧ ps.Perm (ds.map placeOf) ∧ kvs.length ≤ 5000
mutual
theorem de_insN {K : PySem.W.Frag} {H H' : Hp} {x CT dx : Addr} {fs : List (Str × V)} (hx : H x = some (.ins CT dx fs)) (m : ∀ b o, b ≠ x → H b = some o → (∀ ps, o ≠ .tbl ps) → H' b = some o) : ∀ {d : PyData} {v : V}, De K H v d → De K H' v d
  | _, _, .non => .non
  | _, _, .bl b => .bl b
  | _, _, .int i => .int i
  | _, _, .str x => .str x
  | _, _, .lst ha hd => .lst (m _ _ (ne_of ha hx (by intro z; cases z)) ha fun ps z => nomatch z) (de_insNAll hx m hd)
  | _, _, .tup ha hd => .tup (m _ _ (ne_of ha hx (by intro z; cases z)) ha fun ps z => nomatch z) (de_insNAll hx m hd)
  | _, _, .dic ha => .dic (m _ _ (ne_of ha hx (by intro z; cases z)) ha fun ps z => nomatch z)
theorem de_insNAll {K : PySem.W.Frag} {H H' : Hp} {x CT dx : Addr} {fs : List (Str × V)} (hx : H x = some (.ins CT dx fs)) (m : ∀ b o, b ≠ x → H b = some o → (∀ ps, o ≠ .tbl ps) → H' b = some o) : ∀ {ds : List PyData} {vs : List V}, DeAll K H vs ds → DeAll K H' vs ds
  | _, _, .nil => .nil
  | _, _, .cons h1 h2 => .cons (de_insN hx m h1) (de_insNAll hx m h2)
end
def spInit (K : PySem.W.Frag) (CT : Addr) (C : Cs) (T : List (Addr × Str)) : Sp := fun vs H Q E => ∃ (x dx a : Addr) (vL : V) (L : PyData) (xs : List V) (ds : List PyData), vs = [.ref x, vL, .ref a] ∧ H x = some (.ins CT dx []) ∧ De K H vL L ∧ (∀ z, L = .str z → z.cps.all (· < 128) = true ∧ z.cps.size ≤ 1000) ∧
  Rows H a xs ∧ DeAll K H xs ds ∧ (∀ d ∈ ds, Fit d) ∧ xs.length ≤ 5000 ∧ Tabs T H ∧ Refused E C vL H T (way L ds) ∧
  (way L ds = .fine → ∀ (H' : Hp) (fs : List (Str × V)), (∀ b o, b ≠ x → H b = some o → (∀ ps, o ≠ .tbl ps) → H' b = some o) → Tabs T H' → H' x = some (.ins CT dx fs) → TreeAt K H' fs ds → Q .non H')
theorem Tabs.but {T : List (Addr × Str)} {H H' : Hp} {x CT dx : Addr} {fs : List (Str × V)} (t : Tabs T H) (hx : H x = some (.ins CT dx fs)) (e : ∀ b o, b ≠ x → H b = some o → H' b = some o) : Tabs T H' := fun p hp => by
  obtain ⟨ps, h1, h2, h3⟩ := t p hp
  refine ⟨ps, e _ _ (fun z => by rw [z, hx] at h1; cases h1) h1, h2, fun pos cv hc => ?_⟩
  obtain ⟨c, e1, e2⟩ := h3 pos cv hc
  refine ⟨c, e1, e _ _ (fun z => ?_) e2⟩
  rw [z, hx] at e2
  unfold CodeO at e2
  cases e2
theorem putF_le (f : Str) (y : V) (fs : List (Str × V)) : (putF f y fs).length ≤ fs.length + 1 := by
  induction fs with
  | nil => exact Nat.le_refl _
  | cons g r ih =>
    obtain ⟨g, v⟩ := g
    unfold putF
    split
    · simp
    · simp only [List.length_cons]
      omega
theorem Rows.mono {H H' : Hp} {a : Addr} {xs : List V} (r : Rows H a xs) (e : ExtN H H') : Rows H' a xs := r.elim (fun h => .inl (e _ _ h fun ps z => nomatch z)) fun h => .inr (e _ _ h fun ps z => nomatch z)
theorem Rows.seq {K : PySem.W.Frag} {H : Hp} {a : Addr} {xs : List V} (r : Rows H a xs) : SqL K H a xs ∨ SqT K H a xs := r.elim (fun h => .inl (.inl (.inl h))) fun h => .inr (.inl (.inl h))
section
variable {P : Program} {w : World} {K : PySem.W.Frag} {mg : Str → Option Value} {base : Heap} {f fCL fCP fT fO fB CT : Addr} {fd fdCL fdCP fdT fdO fdB : FuncData} {C : Cs} {T : List (Addr × Str)}
theorem sc24 : FnScope ["self", "letters", "rows", "table", "places", "place"] ["self", "letters", "rows"] (defScope (inClass (top 24) 0)) := ⟨rfl, rfl, rfl, by decide +kernel, rfl, by decide +kernel, by decide +kernel⟩
theorem ok_init (F : Fun K "__init__" "Tree.__init__" (inClass (top 24) 0) f fd) (cT : Cls K CT) (no : ∀ g ∈ (["_below", "_table", "letters", "rows", "size", "height"] : List Str), NoAttr K CT g)
    (gN : mg "len" = none) (gLs : mg "list" = none) (gTu : mg "tuple" = none) (gM : mg "max" = none)
    (gCL : mg "check_letters" = some (.ref fCL)) (kCL : PySem.W.keepIn K (.ref fCL) = true) (GCL : FnOk P w K mg base (L2.CX P w) 3 fCL fdCL ["letters"] (spCheckL K C.l)) (bCL : Binds K fdCL ["letters"] [])
    (gCP : mg "check_places" = some (.ref fCP)) (kCP : PySem.W.keepIn K (.ref fCP) = true) (GCP : FnOk P w K mg base (L2.CX P w) 3 fCP fdCP ["many"] (spCheckP C.m)) (bCP : Binds K fdCP ["many"] [])
    (gT : mg "table_of" = some (.ref fT)) (kT : PySem.W.keepIn K (.ref fT) = true) (GT : FnOk P w K mg base (L2.CX P w) 3 fT fdT ["letters", "rows"] (spTable K C.r)) (bT : Binds K fdT ["letters", "rows"] [])
    (gO : mg "in_order" = some (.ref fO)) (kO : PySem.W.keepIn K (.ref fO) = true) (GO : FnOk P w K mg base CX0 5 fO fdO ["letters", "words"] (spOrder K T)) (bO : Binds K fdO ["letters", "words"] [])
    (gB : mg "letters_below" = some (.ref fB)) (kB : PySem.W.keepIn K (.ref fB) = true) (GB : FnOk P w K mg base (L2.CX P w) 3 fB fdB ["places"] (spBelow C.o)) (bB : Binds K fdB ["places"] []) :
    FnOk P w K mg base (L2.CX P w) 6 f fd ["self", "letters", "rows"] (spInit K CT C T) := by
  refine F.okX sc24 (fun vs H Q E h => ?_) (fun cdv A outer s H vs Q E hr h => ?_)
  · obtain ⟨x, dx, a, vL, L, xs, ds, rfl, _⟩ := h
    rfl
  · obtain ⟨x, dx, a, vL, L, xs, ds, rfl, hx, hL, hasc, hrows, hda, hfit, hz, hT, hbad, kk⟩ := h
    have hu := hu_of hr
    have hlen := deAll_len hda
    refine ⟨_, pss_cons (ps_expr (pe_call GCL (hr.mono (by decide)) (by rfl) gCL kCL bCL .nil (passes_call (takes_of rfl rfl rfl rfl) (fun _ _ _ _ h => h)) (pa_cons (pv 1) pa_nil)))
      (pss_cons (ps_expr (pe_call GCP (hr.mono (by decide)) (by rfl) gCP kCP bCP .nil (passes_call (takes_of rfl rfl rfl rfl) (fun _ _ _ _ h => h)) (pa_cons (pe_callB call_len_seq (by rfl) gN PySem.boot_len (pa_cons (pv 2) pa_nil)) pa_nil)))
      (pss_cons (ps_set (i := 3) sc24.nd rfl (Or.inr rfl) (pe_call GT (hr.mono (by decide)) (by rfl) gT kT bT .nil (passes_call (takes_of rfl rfl rfl rfl) (fun _ _ _ _ h => h)) (pa_cons (pv 1) (pa_cons (pv 2) pa_nil))))
      (pss_cons (ps_set (i := 4) sc24.nd rfl (Or.inl rfl) (pe_call GO hr (by rfl) gO kO bO .nil pass0 (pa_cons (pv 1) (pa_cons (pe_callTy (call_list_dK rfl) (by rfl) gLs PyProof.Rows.boot_list (pa_cons (pv 3) pa_nil)) pa_nil))))
      (pss_cons (ps_fld (pv 0) (pe_call GB (hr.mono (by decide)) (by rfl) gB kB bB .nil (passes_call (takes_of rfl rfl rfl rfl) (fun _ _ _ _ h => h)) (pa_cons (pv 4) pa_nil)) rfl)
      (pss_cons (ps_fld (pv 0) (pv 3) rfl)
      (pss_cons (ps_fld (pv 0) (pv 1) rfl)
      (pss_cons (ps_fld (pv 0) (pe_callTy call_tuple_of (by rfl) gTu PyProof.Rows.boot_tuple (pa_cons (pe_lc (own := [("place", 5)]) (g := gName 5) (tt := tYes) rfl sc24.nd (pi_list (pv 4)) (blkOk_by (N := ["self", "letters", "rows", "table", "places", "place"]) (sc := defScope (inClass (top 24) 0)) (by decide +kernel))
          (fun _ _ _ _ _ => pg_name (i := 5) sc24.nd rfl (Or.inl rfl)) (fun _ _ _ _ _ => pts_nil) (fun _ _ _ _ _ => pe_dget hu (pv 3) (pv 5) (fun _ _ => rfl))) pa_nil)) rfl)
      (pss_cons (ps_fld (pv 0) (pe_callB call_len_seq (by rfl) gN PySem.boot_len (pa_cons (pv 4) pa_nil)) rfl)
      (pss_one (ps_fld (pv 0) (pe_callB (cr_max rfl) (by rfl) gM PyProof.Rows.boot_max (pa_cons (pe_lc (own := [("place", 5)]) (g := gName 5) (tt := tYes) rfl sc24.nd (pi_list (pv 4)) (blkOk_by (N := ["self", "letters", "rows", "table", "places", "place"]) (sc := defScope (inClass (top 24) 0)) (by decide +kernel))
          (fun _ _ _ _ _ => pg_name (i := 5) sc24.nd rfl (Or.inl rfl)) (fun _ _ _ _ _ => pts_nil) (fun _ _ _ _ _ => pe_callB call_len_str (by rfl) gN PySem.boot_len (pa_cons (pv 5) pa_nil))) pa_nil)) rfl)))))))))), ?_⟩
    obtain ⟨bad1, bad2, bad3, bad4⟩ := hbad
    refine ⟨vL, rfl, vL, L, rfl, hL, hasc, fun okL H1 s1 => ?_, fun no => (bad1 (by unfold way; rw [no]; rfl)).to (ExtN.refl H) hT⟩
    obtain ⟨ls, rfl⟩ : ∃ ls, L = .str ls := by
      cases L with
      | str z => exact ⟨z, rfl⟩
      | _ => cases okL
    cases hL
    have hoL := okL_of okL
    have w1 : way (.str ls) ds = (if 1 ≤ ds.length ∧ ds.length ≤ 2000 then (match scan ls [] 0 ds with
      | some i => .row i
      | none => match lone (sortW ls (ds.map placeOf)) with
        | some p => .lone p
        | none => .fine) else .places ds.length) := by
      unfold way
      rw [if_pos okL]
      rfl
    have e1 := ExtN.of s1
    refine ⟨V.ref a, rfl, a, xs, rfl, (hrows.mono e1).seq, xs.length, rfl, fun hn => ?_, fun hn => (bad2 xs.length (by rw [w1, ← hlen, if_neg hn])).to e1 (hT.ext s1)⟩
    rw [hlen] at hn
    rw [if_pos hn] at w1
    refine ⟨V.str ls, rfl, V.ref a, rfl, ls, a, xs, ds, rfl, hrows.mono e1, de_monoAll s1 _ _ hda, hfit, hz, fun hsc H2 Tb kvs s2 nT hTb tb => ?_, fun i e => (bad3 i (by rw [w1, e])).to e1 (hT.ext s1)⟩
    rw [hsc] at w1
    have w2 : way (.str ls) ds = (match lone (sortW ls (ds.map placeOf)) with
        | some p => .lone p
        | none => .fine) := w1
    obtain ⟨hall, hnd⟩ := scan_none hsc
    have e2 := ExtN.of (s1.trans s2)
    have T2 := hT.ext (s1.trans s2)
    have hkeys : (kvs.map fun kv => kV kv.1) = (ds.map placeOf).map V.str := by
      have z := congrArg (List.map kV) tb.1
      rw [List.map_map, List.map_map] at z
      rw [List.map_map]
      exact z
    refine ⟨V.str ls, rfl, V.ref Tb, rfl, Tb, kvs, rfl, hTb, fun q nq => ?_⟩
    have s3 : Same H2 (upd H2 q (.lst (kvs.map fun kv => kV kv.1))) := upd_new nq
    have hq : upd H2 q (.lst (kvs.map fun kv => kV kv.1)) q = some (.lst (kvs.map fun kv => kV kv.1)) := upd_same
    generalize upd H2 q (.lst (kvs.map fun kv => kV kv.1)) = H3 at s3 hq
    rw [hkeys] at hq
    refine ⟨ls, q, ds.map placeOf, rfl, hoL, .inl (.inl hq), fun y hy => ?_, T2.ext s3, fun H4 p eN T4 h4 => ?_⟩
    · obtain ⟨d, hd, rfl⟩ := List.mem_map.mp hy
      obtain ⟨z, b, c, _, _, h3, h4, h5⟩ := okR_elems (hall d hd).1
      rw [h3]
      exact ⟨h4, h5⟩
    have pm := sortW_perm ls (ds.map placeOf)
    have e4 : ExtN H H4 := (e2.trans (ExtN.of s3)).trans eN
    have hTb4 : H4 Tb = some (.dK kvs) := eN _ _ (s3 _ _ hTb) fun ps z => nomatch z
    have hx4 : H4 x = some (.ins CT dx []) := e4 _ _ hx fun ps z => nomatch z
    have p200 : ∀ y ∈ sortW ls (ds.map placeOf), y.cps.size ≤ 200 := fun y hy => by
      obtain ⟨d, hd, rfl⟩ := List.mem_map.mp (pm.mem_iff.mp hy)
      obtain ⟨z, b, c, _, _, h3, h4, h5⟩ := okR_elems (hall d hd).1
      rw [h3]
      exact h4
    have plen : (sortW ls (ds.map placeOf)).length = ds.length := by rw [pm.length_eq, List.length_map]
    have vals : ∀ y ∈ sortW ls (ds.map placeOf), ∃ v, valV kvs (.inr y) = some v := fun y hy => by
      have z := tb.has y
      rw [decide_eq_true (pm.mem_iff.mp hy)] at z
      exact Option.isSome_iff_exists.mp z
    generalize hps : sortW ls (ds.map placeOf) = ps at *
    refine ⟨V.ref p, rfl, p, ps, rfl, h4, pm.nodup_iff.mpr hnd, p200, by omega, fun lo H5 B kv2 s5 nB hB hk hbel => ?_, fun y e => (bad4 y (by rw [w2, e])).to e4 T4⟩
    rw [lo] at w2
    have e5 : ExtN H H5 := e4.trans (ExtN.of s5)
    have T5 := T4.ext s5
    have hx5 := s5 _ _ hx4
    have hT5 := s5 _ _ hTb4
    have hp5 := s5 _ _ h4
    have nxp : p ≠ x := fun z => by
      rw [z, hx5] at hp5
      cases hp5
    have nxT : Tb ≠ x := fun z => by
      rw [z, hx5] at hT5
      cases hT5
    have keep : ∀ (G : Hp) (f : Str) (y : V) (fs : List (Str × V)), (∀ b o, b ≠ x → H5 b = some o → G b = some o) → ∀ b o, b ≠ x → H5 b = some o → upd G x (.ins CT dx (putF f y fs)) b = some o := fun G f y fs g b o hb e => by
      rw [upd_ne hb]
      exact g b o hb e
    have memP : ∀ {i : Nat} {z : V}, (ps.map V.str)[i]? = some z → ∃ y, ps[i]? = some y ∧ V.str y = z := fun {i z} hz => by
      rw [List.getElem?_map] at hz
      cases q : ps[i]? with
      | none =>
        rw [q] at hz
        cases hz
      | some y =>
        rw [q] at hz
        exact ⟨y, rfl, Option.some.inj hz⟩
    have psz : ps.length ≤ 5000 := by omega
    refine ⟨V.ref x, rfl, x, CT, dx, _, rfl, hx5, cT, no _ (by simp), (by decide), ?_⟩
    have g1 := keep H5 "_below" (.ref B) [] (fun b o _ e => e)
    have x1 : upd H5 x (.ins CT dx (putF "_below" (.ref B) [])) x = some (.ins CT dx (putF "_below" (.ref B) [])) := upd_same
    have l1 := putF_le "_below" (.ref B) []
    have k1 : ∀ g : Str, (putF "_below" (V.ref B) []).lookup g = if g = "_below" then some (V.ref B) else ([] : List (Str × V)).lookup g := fun g => lookup_putF _ _ _ _
    generalize putF "_below" (V.ref B) [] = f1 at g1 x1 l1 k1 ⊢
    generalize upd H5 x (.ins CT dx f1) = G1 at g1 x1 ⊢
    refine ⟨V.ref Tb, rfl, V.ref x, rfl, x, CT, dx, _, rfl, x1, cT, no _ (by simp), (by simp at l1; omega), ?_⟩
    have g2 := keep G1 "_table" (.ref Tb) f1 g1
    have x2 : upd G1 x (.ins CT dx (putF "_table" (.ref Tb) f1)) x = some (.ins CT dx (putF "_table" (.ref Tb) f1)) := upd_same
    have l2 := putF_le "_table" (.ref Tb) f1
    have k2 : ∀ g : Str, (putF "_table" (V.ref Tb) f1).lookup g = if g = "_table" then some (V.ref Tb) else f1.lookup g := fun g => lookup_putF _ _ _ _
    generalize putF "_table" (V.ref Tb) f1 = f2 at g2 x2 l2 k2 ⊢
    generalize upd G1 x (.ins CT dx f2) = G2 at g2 x2 ⊢
    refine ⟨V.str ls, rfl, V.ref x, rfl, x, CT, dx, _, rfl, x2, cT, no _ (by simp), (by simp at l1; omega), ?_⟩
    have g3 := keep G2 "letters" (.str ls) f2 g2
    have x3 : upd G2 x (.ins CT dx (putF "letters" (.str ls) f2)) x = some (.ins CT dx (putF "letters" (.str ls) f2)) := upd_same
    have l3 := putF_le "letters" (.str ls) f2
    have k3 : ∀ g : Str, (putF "letters" (V.str ls) f2).lookup g = if g = "letters" then some (V.str ls) else f2.lookup g := fun g => lookup_putF _ _ _ _
    generalize putF "letters" (V.str ls) f2 = f3 at g3 x3 l3 k3 ⊢
    generalize upd G2 x (.ins CT dx f3) = G3 at g3 x3 ⊢
    refine ⟨V.ref p, rfl, p, rfl, ⟨_, .inl (.inl (g3 _ _ nxp hp5))⟩, fun D nD => lc_it (walk_list (K := K) (xs := ps.map V.str)) (fun i G => Same G3 G ∧ G D = some (.lst ((ps.take i).map fun y => (valV kvs (.inr y)).getD .non))) ⟨upd_new nD, upd_same⟩ (fun i G _ q => .inl (.inl (q.1 _ _ (g3 _ _ nxp hp5)))) ?_ ?_⟩
    · rintro i z G G' hi ⟨sG, hD⟩ ⟨rfl, hz2⟩
      obtain ⟨y, hy, rfl⟩ := memP hz2
      obtain ⟨v, hv⟩ := vals y (List.mem_of_getElem? hy)
      have dg := DGet.k (k := (.inr y : Key)) (sG _ _ (g3 _ _ nxT hT5))
      rw [hv] at dg
      have hil : i < ps.length := by simpa using hi
      have z2 : (5000 : Nat) < sizeLine := by decide
      refine ⟨rfl, V.ref Tb, rfl, V.str y, rfl, Tb, v, rfl, dg, _, hD, by rw [List.length_map, List.length_take]; omega, fun b o e => ?_, ?_⟩
      · rw [upd_ne (ne_of_none e nD)]
        exact sG _ _ e
      · rw [take_next hy, List.map_append]
        show upd _ D (.lst (_ ++ [v])) D = some (.lst (_ ++ [(valV kvs (.inr y)).getD .non]))
        rw [hv]
        exact upd_same
    rintro G4 ⟨s4, hD4⟩
    have etk0 : ps.take (ps.map V.str).length = ps := List.take_of_length_le (by simp)
    rw [etk0] at hD4
    refine ⟨D, _, rfl, .inl ⟨.inl (.inl hD4), fun l nl => ?_⟩⟩
    generalize hacc : (ps.map fun y => (valV kvs (.inr y)).getD .non) = acc at hD4
    have s5' := s4.trans (upd_new (o := .tup acc) nl)
    have hl5 : upd G4 l (.tup acc) l = some (.tup acc) := upd_same
    generalize upd G4 l (.tup acc) = G5 at s5' hl5
    have g5 : ∀ b o, b ≠ x → H5 b = some o → G5 b = some o := fun b o hb e => s5' _ _ (g3 b o hb e)
    refine ⟨V.ref x, rfl, x, CT, dx, _, rfl, s5' _ _ x3, cT, no _ (by simp), (by simp at l1; omega), ?_⟩
    have g6 := keep G5 "rows" (.ref l) f3 g5
    have nlx : l ≠ x := fun z => by
      rw [z, s5' _ _ x3] at hl5
      cases hl5
    have hl6 : upd G5 x (.ins CT dx (putF "rows" (.ref l) f3)) l = some (.tup acc) := by
      rw [upd_ne nlx]
      exact hl5
    have x6 : upd G5 x (.ins CT dx (putF "rows" (.ref l) f3)) x = some (.ins CT dx (putF "rows" (.ref l) f3)) := upd_same
    have l6 := putF_le "rows" (.ref l) f3
    have k6 : ∀ g : Str, (putF "rows" (V.ref l) f3).lookup g = if g = "rows" then some (V.ref l) else f3.lookup g := fun g => lookup_putF _ _ _ _
    generalize putF "rows" (V.ref l) f3 = f6 at g6 x6 l6 k6 hl6 ⊢
    generalize upd G5 x (.ins CT dx f6) = G6 at g6 x6 hl6 ⊢
    refine ⟨V.ref p, rfl, p, ps.map V.str, rfl, .inl (.inl (.inl (g6 _ _ nxp hp5))), V.ref x, rfl, x, CT, dx, _, rfl, x6, cT, no _ (by simp), (by simp at l1; omega), ?_⟩
    have g7 := keep G6 "size" (.int (ps.map V.str).length) f6 g6
    have hl7 : upd G6 x (.ins CT dx (putF "size" (.int (ps.map V.str).length) f6)) l = some (.tup acc) := by
      rw [upd_ne nlx]
      exact hl6
    have x7 : upd G6 x (.ins CT dx (putF "size" (.int (ps.map V.str).length) f6)) x = some (.ins CT dx (putF "size" (.int (ps.map V.str).length) f6)) := upd_same
    have l7 := putF_le "size" (.int (ps.map V.str).length) f6
    have k7 : ∀ g : Str, (putF "size" (V.int (ps.map V.str).length) f6).lookup g = if g = "size" then some (V.int (ps.map V.str).length) else f6.lookup g := fun g => lookup_putF _ _ _ _
    generalize putF "size" (V.int (ps.map V.str).length) f6 = f7 at g7 x7 l7 k7 hl7 ⊢
    generalize upd G6 x (.ins CT dx f7) = G7 at g7 x7 hl7 ⊢
    refine ⟨V.ref p, rfl, p, rfl, ⟨_, .inl (.inl (g7 _ _ nxp hp5))⟩, fun D2 nD2 => lc_it (walk_list (K := K) (xs := ps.map V.str)) (fun i G => Same G7 G ∧ G D2 = some (.lst (((ps.take i).map fun y => (y.length : Int)).map V.int))) ⟨upd_new nD2, upd_same⟩ (fun i G _ q => .inl (.inl (q.1 _ _ (g7 _ _ nxp hp5)))) ?_ ?_⟩
    · rintro i z G G' hi ⟨sG, hD⟩ ⟨rfl, hz2⟩
      obtain ⟨y, hy, rfl⟩ := memP hz2
      have hil : i < ps.length := by simpa using hi
      have z2 : (5000 : Nat) < sizeLine := by decide
      have et : ps.take (i + 1) = ps.take i ++ [y] := by
        rw [List.take_add_one, hy]
        rfl
      refine ⟨rfl, V.str y, rfl, y, rfl, Nat.le_trans (p200 y (List.mem_of_getElem? hy)) (by decide), _, hD, by rw [List.length_map, List.length_map, List.length_take]; omega, fun b o e => ?_, ?_⟩
      · rw [upd_ne (ne_of_none e nD2)]
        exact sG _ _ e
      · rw [et, List.map_append, List.map_append]
        exact upd_same
    rintro G8 ⟨s8, hD8⟩
    have etk : ps.take (ps.map V.str).length = ps := List.take_of_length_le (by simp)
    rw [etk] at hD8
    refine ⟨D2, _, rfl, .inl (.inl hD8), by rw [List.length_map]; omega, fun m _ _ => ?_⟩
    refine ⟨V.ref x, rfl, x, CT, dx, _, rfl, s8 _ _ x7, cT, no _ (by simp), (by simp at l1; omega), ?_⟩
    have g9 := keep G8 "height" (.int m) f7 (fun b o hb e => s8 _ _ (g7 b o hb e))
    have hl8 := s8 _ _ hl7
    have k9 : ∀ g : Str, (putF "height" (V.int m) f7).lookup g = if g = "height" then some (V.int m) else f7.lookup g := fun g => lookup_putF _ _ _ _
    have nBx : B ≠ x := fun z => by
      rw [z, hx5] at hB
      cases hB
    have hx2 := (s1.trans s2) _ _ hx
    have tail : ∀ b o, b ≠ x → H2 b = some o → (∀ ps, o ≠ .tbl ps) → upd G8 x (.ins CT dx (putF "height" (.int m) f7)) b = some o := fun b o hb e ht => g9 b o hb (s5 _ _ (eN _ _ (s3 _ _ e) ht))
    have hlen := congrArg List.length tb.1
    rw [List.length_map, List.length_map] at hlen
    refine kk w2 _ _ (fun b o hb e ht => g9 b o hb (e5 b o e ht)) (Tabs.but T5 hx5 g9) upd_same ⟨B, Tb, l, kvs, kv2, ps, ?_, ?_, ?_, ?_, g9 _ _ nxT hT5, ⟨tb.1, fun i d hd => ?_⟩, g9 _ _ nBx hB, hk, hbel, ?_, ?_, by omega⟩
    · rw [k9, if_neg (by decide), k7, if_neg (by decide), k6, if_neg (by decide), k3, if_neg (by decide), k2, if_neg (by decide), k1, if_pos rfl]
    · rw [k9, if_neg (by decide), k7, if_neg (by decide), k6, if_neg (by decide), k3, if_neg (by decide), k2, if_pos rfl]
    · rw [k9, if_neg (by decide), k7, if_neg (by decide), k6, if_pos rfl]
    · intro g hg
      rcases hg with rfl | rfl | rfl | rfl <;> rw [k9, if_neg (by decide), k7, if_neg (by decide), k6, if_neg (by decide), k3, if_neg (by decide), k2, if_neg (by decide), k1, if_neg (by decide)] <;> rfl
    · obtain ⟨v, h1, h2⟩ := tb.2 i d hd
      exact ⟨v, h1, de_insN hx2 tail h2⟩
    · rw [upd_ne nlx, hl8, hacc]
    · exact pm
end
end SK
namespace SK
open PySem PySem.Spec PyProof.Rows L2 LamX NdefX
open K0 (De DeAll XCl spX withX)
theorem Same.seqT {K : PySem.W.Frag} {H H' : Hp} {a : Addr} {xs : List V} (s : Same H H') (h : SqT K H a xs) : SqT K H' a xs := by
  rcases h with (h | ⟨o, h⟩) | h
  · exact .inl (.inl (s _ _ h))
  · exact .inl (.inr ⟨o, s _ _ h⟩)
  · exact .inr h
section
variable {K : PySem.W.Frag} {a : Addr} {xs : List V} {g : TG} {tt : TT} {te : TE} {vs : List Nat} {σ : St} {H1 : Hp} {D : Addr} {Qd : Hp → Prop}
/-- what is asked of one turn -/
def TurnF (g : TG) (tt : TT) (te : TE) (vs : List Nat) (σ : St) (x y : V) (b : Bool) (H : Hp) : Prop :=
  ∀ (A : V → Hp → Prop) (B : Hp → Prop), (b = true → A y H) → (b = false → B H) → g x (wipe σ vs) H fun σ2 H2 => wipe σ2 vs = wipe σ vs ∧ tt σ2 H2 fun b H3 => if b = true then te σ2 H3 A else B H3
theorem same_new (nD : H1 D = none) {o : HO} : Same H1 (upd H1 D o) := fun c u h => by
  rw [upd_ne (ne_of_none h nD)]
  exact h
theorem same_upd {H : Hp} (nD : H1 D = none) {o : HO} (s : Same H1 H) : Same H1 (upd H D o) := fun c u h => by
  rw [upd_ne (ne_of_none h nD)]
  exact s _ _ h
theorem take_snoc {α : Type} {l : List α} {i : Nat} {x : α} (h : l[i]? = some x) : l.take (i + 1) = l.take i ++ [x] := by
  rw [List.take_add_one, h]
  rfl
theorem filt_snoc {α : Type} {ws : List α} {f : α → V} {c : α → Bool} {i : Nat} {x : α} (h : ws[i]? = some x) : ((ws.take (i + 1)).filter c).map f = ((ws.take i).filter c).map f ++ (if c x = true then [f x] else []) := by
  rw [take_snoc h, List.filter_append, List.map_append]
  by_cases hc : c x = true
  · rw [if_pos hc, List.filter_cons_of_pos hc]
    rfl
  · rw [if_neg hc, List.filter_cons_of_neg hc]
    rfl
theorem filt_len {α : Type} {ws : List α} {f : α → V} {c : α → Bool} {i : Nat} : (((ws.take i).filter c).map f).length ≤ ws.length := by
  rw [List.length_map]
  exact Nat.le_trans (List.length_filter_le _ _) (by rw [List.length_take]; omega)
theorem map_at {α : Type} {enc : α → V} {ws : List α} {i : Nat} {x : V} (h : (ws.map enc)[i]? = some x) : ∃ y, ws[i]? = some y ∧ x = enc y := by
  rw [List.getElem?_map] at h
  cases e : ws[i]? with
  | none =>
    rw [e] at h
    cases h
  | some y =>
    rw [e] at h
    exact ⟨y, rfl, (Option.some.inj h).symm⟩
theorem lcF_list {α : Type} {ws : List α} (enc : α → V) (nD : H1 D = none) (f : α → V) (c : α → Bool) (hS : SqL K H1 a (ws.map enc)) (hz : ws.length < sizeLine) (step : ∀ (i : Nat) (x : α) (H : Hp), ws[i]? = some x → Same H1 H → TurnF g tt te vs σ (enc x) (f x) (c x) H)
    (fin : ∀ H, Same H1 H → H D = some (.lst ((ws.filter c).map f)) → Qd H) :
    ∃ W : Nat → Nat → Hp → Prop, (∃ m, W 0 m (upd H1 D (.lst []))) ∧ ∀ i m H, W i m H →
      ((Itl K a).stop i H ∧ Qd H) ∨ ((Itl K a).go i H ∧ ∃ Nx : Hp → Prop, (∀ H', Nx H' → ∃ m', m' < m ∧ W (i + 1) m' H') ∧ ∀ x H', (Itl K a).yld i H x H' → g x (wipe σ vs) H' fun σ2 H2 => wipe σ2 vs = wipe σ vs ∧ tt σ2 H2 fun b H3 =>
        if b = true then te σ2 H3 fun y H4 => ∃ acc, H4 D = some (.lst acc) ∧ acc.length < sizeLine ∧ Nx (upd H4 D (.lst (acc ++ [y]))) else Nx H3) := by
  refine lc_list (K := K) (a := a) (xs := ws.map enc) (fun i H => Same H1 H ∧ H D = some (.lst (((ws.take i).filter c).map f))) ⟨same_new nD, upd_same⟩ (fun i H _ p => Same.seq p.1 hS) (fun i x H hx p => ?_) fun H p => fin H p.1 (by rw [List.length_map, List.take_length] at p; exact p.2)
  obtain ⟨s, hD⟩ := p
  obtain ⟨y, hy, rfl⟩ := map_at hx
  refine step i y H hy s _ _ (fun hc => ⟨_, hD, Nat.lt_of_le_of_lt filt_len hz, same_upd nD s, ?_⟩) fun hc => ⟨s, ?_⟩
  · rw [filt_snoc hy, if_pos hc]
    exact upd_same
  · rw [filt_snoc hy, if_neg (by rw [hc]; simp), List.append_nil]
    exact hD
theorem lcF_tup {α : Type} {ws : List α} (enc : α → V) (nD : H1 D = none) (f : α → V) (c : α → Bool) (hS : SqT K H1 a (ws.map enc)) (hz : ws.length < sizeLine) (step : ∀ (i : Nat) (x : α) (H : Hp), ws[i]? = some x → Same H1 H → TurnF g tt te vs σ (enc x) (f x) (c x) H)
    (fin : ∀ H, Same H1 H → H D = some (.lst ((ws.filter c).map f)) → Qd H) :
    ∃ W : Nat → Nat → Hp → Prop, (∃ m, W 0 m (upd H1 D (.lst []))) ∧ ∀ i m H, W i m H →
      ((Itt K a).stop i H ∧ Qd H) ∨ ((Itt K a).go i H ∧ ∃ Nx : Hp → Prop, (∀ H', Nx H' → ∃ m', m' < m ∧ W (i + 1) m' H') ∧ ∀ x H', (Itt K a).yld i H x H' → g x (wipe σ vs) H' fun σ2 H2 => wipe σ2 vs = wipe σ vs ∧ tt σ2 H2 fun b H3 =>
        if b = true then te σ2 H3 fun y H4 => ∃ acc, H4 D = some (.lst acc) ∧ acc.length < sizeLine ∧ Nx (upd H4 D (.lst (acc ++ [y]))) else Nx H3) := by
  refine lc_tup (K := K) (a := a) (xs := ws.map enc) (fun i H => Same H1 H ∧ H D = some (.lst (((ws.take i).filter c).map f))) ⟨same_new nD, upd_same⟩ (fun i H _ p => SK.Same.seqT p.1 hS) (fun i x H hx p => ?_) fun H p => fin H p.1 (by rw [List.length_map, List.take_length] at p; exact p.2)
  obtain ⟨s, hD⟩ := p
  obtain ⟨y, hy, rfl⟩ := map_at hx
  refine step i y H hy s _ _ (fun hc => ⟨_, hD, Nat.lt_of_le_of_lt filt_len hz, same_upd nD s, ?_⟩) fun hc => ⟨s, ?_⟩
  · rw [filt_snoc hy, if_pos hc]
    exact upd_same
  · rw [filt_snoc hy, if_neg (by rw [hc]; simp), List.append_nil]
    exact hD
end
/-- what is not reached -/
theorem pss_dead {X : Cx} {b : List Stmt} : PSs X b (fun _ _ _ => False) := ⟨fun _ _ _ _ _ _ h => h.elim⟩
/-! ### a tree, by its places -/
abbrev Spot := Str × Bool × Bool
def rowD (s : Spot) : PyData := .tuple [.str s.1, .bool s.2.1, .bool s.2.2]
def plc (S : List Spot) : List Str := S.map (·.1)
theorem places_rows (S : List Spot) : (S.map rowD).map placeOf = plc S := by
  rw [List.map_map]
  rfl
def TreeR (K : PySem.W.Frag) (CT : Addr) (H : Hp) (x : V) (S : List Spot) : Prop := (plc S).Nodup ∧ ∃ (a dx : Addr) (fs : List (Str × V)), x = .ref a ∧ H a = some (.ins CT dx fs) ∧ TreeAt K H fs (S.map rowD)
theorem uniq {S : List Spot} (nd : (plc S).Nodup) {s t : Spot} (hs : s ∈ S) (ht : t ∈ S) (e : s.1 = t.1) : s = t := by
  induction S with
  | nil => cases hs
  | cons u S ih =>
    have nd' : (u.1 :: plc S).Nodup := nd
    rw [List.nodup_cons] at nd'
    rcases List.mem_cons.mp hs with rfl | hs'
    · rcases List.mem_cons.mp ht with rfl | ht'
      · rfl
      · exact absurd (show s.1 ∈ plc S from List.mem_map.mpr ⟨t, ht', e.symm⟩) nd'.1
    · rcases List.mem_cons.mp ht with rfl | ht'
      · exact absurd (show t.1 ∈ plc S from List.mem_map.mpr ⟨s, hs', e⟩) nd'.1
      · exact ih nd'.2 hs' ht'
def marked (S : List Spot) (y : Str) : Bool := S.any fun s => decide (s.1 = y) && s.2.1
theorem marked_of {S : List Spot} (nd : (plc S).Nodup) {s : Spot} (hs : s ∈ S) : marked S s.1 = s.2.1 := by
  unfold marked
  cases e : s.2.1 with
  | true => exact List.any_eq_true.mpr ⟨s, hs, by simp [e]⟩
  | false =>
    rw [List.any_eq_false]
    intro t ht
    simp only [Bool.and_eq_true, decide_eq_true_eq, not_and]
    intro q
    rw [uniq nd ht hs q, e]
    exact Bool.false_ne_true
theorem valV_at {kvs : List (Key × V)} {i : Nat} {k : Key} {v : V} (nd : (kvs.map Prod.fst).Nodup) (h : kvs[i]? = some (k, v)) : valV kvs k = some v := by
  have hm : (k, v) ∈ kvs := List.mem_of_getElem? h
  have any : (kvs.any fun kv => decide (kv.1 = k)) = true := List.any_eq_true.mpr ⟨_, hm, by simp⟩
  rw [valV_any] at any
  obtain ⟨u, hu⟩ := Option.isSome_iff_exists.mp any
  obtain ⟨kv, m, e1, e2⟩ := valV_key hu
  have : kv = (k, v) := by
    clear h hu any
    induction kvs with
    | nil => cases m
    | cons c r ih =>
      rw [List.map_cons, List.nodup_cons] at nd
      rcases List.mem_cons.mp m with rfl | m'
      · rcases List.mem_cons.mp hm with h | hm'
        · exact h.symm
        · exact absurd (show kv.1 ∈ r.map Prod.fst from List.mem_map.mpr ⟨(k, v), hm', e1.symm⟩) nd.1
      · rcases List.mem_cons.mp hm with rfl | hm'
        · exact absurd (show k ∈ r.map Prod.fst from List.mem_map.mpr ⟨kv, m', e1⟩) nd.1
        · exact ih nd.2 hm' m'
  subst this
  rw [hu]
  exact congrArg some e2.symm
theorem de_row {K : PySem.W.Frag} {H : Hp} {v : V} {s : Spot} (h : De K H v (.tuple (elems (rowD s)))) : ∃ t, v = .ref t ∧ H t = some (.tup [.str s.1, .bl s.2.1, .bl s.2.2]) := by
  have h : De K H v (.tuple [.str s.1, .bool s.2.1, .bool s.2.2]) := h
  cases h with
  | tup ha hd =>
    cases hd with
    | cons h1 hd =>
      cases hd with
      | cons h2 hd =>
        cases hd with
        | cons h3 hd =>
          cases hd
          cases h1
          cases h2
          cases h3
          exact ⟨_, rfl, ha⟩
/-- what is asked of the table -/
theorem tab_get {K : PySem.W.Frag} {H : Hp} {kvs : List (Key × V)} {S : List Spot} (nd : (plc S).Nodup) (t : TabOk K H kvs (S.map rowD)) {s : Spot} (hs : s ∈ S) : ∃ a, valV kvs (.inr s.1) = some (.ref a) ∧ H a = some (.tup [.str s.1, .bl s.2.1, .bl s.2.2]) := by
  obtain ⟨i, hi⟩ := List.mem_iff_getElem?.mp hs
  obtain ⟨v, h1, h2⟩ := t.2 i (rowD s) (by rw [List.getElem?_map, hi]; rfl)
  obtain ⟨a, rfl, ha⟩ := de_row h2
  refine ⟨a, valV_at ?_ h1, ha⟩
  rw [t.1, List.map_map]
  have e : (S.map ((fun d => (Sum.inr (placeOf d) : Key)) ∘ rowD)) = (plc S).map fun p => (Sum.inr p : Key) := by
    unfold plc
    rw [List.map_map]
    rfl
  rw [e]
  exact List.Pairwise.map _ (fun a b h z => h (by injection z)) nd
theorem tab_has {K : PySem.W.Frag} {H : Hp} {kvs : List (Key × V)} {S : List Spot} (t : TabOk K H kvs (S.map rowD)) (x : Str) : (valV kvs (.inr x)).isSome = decide (x ∈ plc S) := by
  rw [t.has, places_rows]
/-- what the head tells of the class Tree -/
structure TreeC (K : PySem.W.Frag) (CT : Addr) : Prop where
  cl : Cls K CT
  n1 : NoAttr K CT "_table"
  n2 : NoAttr K CT "_below"
  n3 : NoAttr K CT "rows"
def spHas (K : PySem.W.Frag) (CT : Addr) : Sp := fun vs H Q _ => ∃ (x : V) (p : Str) (S : List Spot), vs = [x, .str p] ∧ TreeR K CT H x S ∧ Q (.bl (decide (p ∈ plc S))) H
def spRowM (K : PySem.W.Frag) (CT : Addr) : Sp := fun vs H Q _ => ∃ (x : V) (S : List Spot) (s : Spot), vs = [x, .str s.1] ∧ TreeR K CT H x S ∧ s ∈ S ∧ ∀ t, H t = some (.tup [.str s.1, .bl s.2.1, .bl s.2.2]) → Q (.ref t) H
def spBel (K : PySem.W.Frag) (CT : Addr) : Sp := fun vs H Q _ => ∃ (x : V) (p : Str) (S : List Spot), vs = [x, .str p] ∧ TreeR K CT H x S ∧ p ∈ plc S ∧ ∀ ps : List Str, ps.Perm (plc S) → Q (.str (belS ps p)) H
def spWordsM (K : PySem.W.Frag) (CT : Addr) : Sp := fun vs H Q _ => ∃ (x : V) (S : List Spot), vs = [x] ∧ TreeR K CT H x S ∧ ∀ (H' : Hp) (q : Addr) (ps : List Str), Same H H' → ps.Perm (plc S) → H' q = some (.tup ((ps.filter (marked S)).map V.str)) → Q (.ref q) H'
section
variable {P : Program} {w : World} {K : PySem.W.Frag} {mg : Str → Option Value} {base : Heap} {f fH CT : Addr} {fd fdH : FuncData}
abbrev tm (i : Nat) : Stmt := inClass (top 24) i
theorem ok_has (F : Fun K "has" "Tree.has" (tm 3) f fd) (R : TreeC K CT) (gI : mg "isinstance" = none) (gS : mg "str" = none) : FnOk P w K mg base CX0 1 f fd ["self", "place"] (spHas K CT) := by
  have S0 : FnScope ["self", "place"] ["self", "place"] (defScope (tm 3)) := ⟨rfl, rfl, rfl, by decide +kernel, rfl, by decide +kernel, by decide +kernel⟩
  refine F.ok S0 (fun vs H Q E h => ?_) (fun cdv A outer s H vs Q E hr h => ?_)
  · obtain ⟨x, p, S, rfl, _⟩ := h
    rfl
  · obtain ⟨x, p, S, rfl, ⟨nd, a, dx, fs, rfl, ha, B, Tb, l, kvs, kv2, ps, e1, e2, e3, e4, h1, h2, h3, h4, h5, h6, h7, h8⟩, q⟩ := h
    have hu := hu_of hr
    refine ⟨_, pss_one (ps_ret (pe_and (pe_callB call_isi (by rfl) gI PyProof.Rows.boot_isinstance (pa_cons (pv 1) (pa_cons (pe_bltn (v := .ty "str") (by rfl) gS PyProof.Rows.boot_str rfl) pa_nil))) (pe_one (pe_cmp (pc_din hu (pv 1) (pe_fld (pv 0) rfl)))))), ?_⟩
    refine ⟨V.str p, rfl, V.str p, .ty "str", .type "str", .type "str", true, rfl, .ty _, .base (.str p), kit_ty (by decide +kernel), true, rfl, iteT ?_⟩
    refine ⟨V.str p, rfl, V.ref a, rfl, a, CT, dx, _, _, rfl, ha, R.cl, R.n1, e2, Tb, _, rfl, DGet.k (k := (.inr p : Key)) h1, ?_⟩
    rw [tab_has h2]
    exact q
theorem ok_rowM (F : Fun K "row" "Tree.row" (tm 4) f fd) (R : TreeC K CT) (M : Meth K CT "has" fH) (GH : FnOk P w K mg base CX0 1 fH fdH ["self", "place"] (spHas K CT)) (bH : Binds K fdH ["self", "place"] []) : FnOk P w K mg base CX0 2 f fd ["self", "place"] (spRowM K CT) := by
  have S0 : FnScope ["self", "place"] ["self", "place"] (defScope (tm 4)) := ⟨rfl, rfl, rfl, by decide +kernel, rfl, by decide +kernel, by decide +kernel⟩
  refine F.ok S0 (fun vs H Q E h => ?_) (fun cdv A outer s H vs Q E hr h => ?_)
  · obtain ⟨x, S, s, rfl, _⟩ := h
    rfl
  · obtain ⟨x, S, s, rfl, hT, hs, q⟩ := h
    have hT0 := hT
    obtain ⟨nd, a, dx, fs, rfl, ha, B, Tb, l, kvs, kv2, ps, e1, e2, e3, e4, h1, h2, h3, h4, h5, h6, h7, h8⟩ := hT
    have hu := hu_of hr
    refine ⟨_, pss_cons (ps_if (pt_not (pt_val (pe_meth (pv 0) R.cl M GH hr bH .nil pass0 (pa_cons (pv 1) pa_nil)))) pss_dead pss_nil) (pss_one (ps_ret (pe_dget hu (pe_fld (pv 0) rfl) (pv 1) (fun _ _ => rfl)))), ?_⟩
    refine ⟨V.ref a, rfl, a, dx, fs, rfl, ha, e4 _ (.inl rfl), V.str s.1, rfl, V.ref a, s.1, S, rfl, hT0, true, ?_, iteF ?_⟩
    · rw [decide_eq_true (show s.1 ∈ plc S from List.mem_map.mpr ⟨s, hs, rfl⟩)]
    obtain ⟨t, g1, g2⟩ := tab_get nd h2 hs
    have dg := DGet.k (k := (.inr s.1 : Key)) h1
    rw [g1] at dg
    exact ⟨V.ref a, rfl, a, CT, dx, _, _, rfl, ha, R.cl, R.n1, e2, V.str s.1, rfl, Tb, _, rfl, dg, q t g2⟩
theorem ok_bel (F : Fun K "below" "Tree.below" (tm 5) f fd) (R : TreeC K CT) (M : Meth K CT "has" fH) (GH : FnOk P w K mg base CX0 1 fH fdH ["self", "place"] (spHas K CT)) (bH : Binds K fdH ["self", "place"] []) : FnOk P w K mg base CX0 2 f fd ["self", "place"] (spBel K CT) := by
  have S0 : FnScope ["self", "place"] ["self", "place"] (defScope (tm 5)) := ⟨rfl, rfl, rfl, by decide +kernel, rfl, by decide +kernel, by decide +kernel⟩
  refine F.ok S0 (fun vs H Q E h => ?_) (fun cdv A outer s H vs Q E hr h => ?_)
  · obtain ⟨x, p, S, rfl, _⟩ := h
    rfl
  · obtain ⟨x, p, S, rfl, hT, hs, q⟩ := h
    have hT0 := hT
    obtain ⟨nd, a, dx, fs, rfl, ha, B, Tb, l, kvs, kv2, ps, e1, e2, e3, e4, h1, h2, h3, h4, h5, h6, h7, h8⟩ := hT
    have hu := hu_of hr
    rw [places_rows] at h7
    refine ⟨_, pss_cons (ps_if (pt_not (pt_val (pe_meth (pv 0) R.cl M GH hr bH .nil pass0 (pa_cons (pv 1) pa_nil)))) pss_dead pss_nil) (pss_one (ps_ret (pe_dget hu (pe_fld (pv 0) rfl) (pv 1) (fun _ _ => rfl)))), ?_⟩
    refine ⟨V.ref a, rfl, a, dx, fs, rfl, ha, e4 _ (.inl rfl), V.str p, rfl, V.ref a, p, S, rfl, hT0, true, ?_, iteF ?_⟩
    · rw [decide_eq_true hs]
    have dg := DGet.k (k := (.inr p : Key)) h3
    rw [h5 p (h7.mem_iff.mpr hs)] at dg
    exact ⟨V.ref a, rfl, a, CT, dx, _, _, rfl, ha, R.cl, R.n2, e1, V.str p, rfl, B, _, rfl, dg, q ps h7⟩
theorem ok_wordsM (F : Fun K "words" "Tree.words" (tm 6) f fd) (R : TreeC K CT) (gT : mg "tuple" = none) : FnOk P w K mg base CX0 1 f fd ["self"] (spWordsM K CT) := by
  have S0 : FnScope ["self", "row"] ["self"] (defScope (tm 6)) := ⟨rfl, rfl, rfl, by decide +kernel, rfl, by decide +kernel, by decide +kernel⟩
  refine F.ok S0 (fun vs H Q E h => ?_) (fun cdv A outer s H vs Q E hr h => ?_)
  · obtain ⟨x, S, rfl, _⟩ := h
    rfl
  · obtain ⟨x, S, rfl, ⟨nd, a, dx, fs, rfl, ha, B, Tb, l, kvs, kv2, ps, e1, e2, e3, e4, h1, h2, h3, h4, h5, h6, h7, h8⟩, q⟩ := h
    rw [places_rows] at h7
    have psl : ps.length ≤ 5000 := by
      have z1 := h7.length_eq
      have z2 := congrArg List.length h2.1
      rw [List.length_map, List.length_map, List.length_map] at z2
      unfold plc at z1
      rw [List.length_map] at z1
      omega
    refine ⟨_, pss_one (ps_ret (pe_callTy call_tuple_of (by rfl) gT PyProof.Rows.boot_tuple (pa_cons (pe_lc (own := [("row", 1)]) (g := gName 1) rfl S0.nd (pi_tup (pe_fld (pv 0) rfl)) (blkOk_by (N := ["self", "row"]) (sc := defScope (tm 6)) (by decide +kernel))
      (fun _ _ _ _ _ => pg_name (i := 1) S0.nd rfl (Or.inl rfl)) (fun _ _ _ _ _ => pts_one (pt_val (pe_ix (r := rIxT K) ix_tup (pv 1) pe_int (fun _ _ => rfl)))) (fun _ _ _ _ _ => pe_ix (r := rIxT K) ix_tup (pv 1) pe_int (fun _ _ => rfl))) pa_nil))), ?_⟩
    refine ⟨V.ref a, rfl, a, CT, dx, _, _, rfl, ha, R.cl, R.n3, e3, l, rfl, ⟨_, .inl (.inl h6)⟩, fun D nD => lcF_tup (K := K) (ws := ps) (fun y => (valV kvs (.inr y)).getD .non) nD V.str (marked S) (.inl (.inl h6)) (Nat.lt_of_le_of_lt psl (by decide)) (fun i y G hy sG A B kA kB => ?_) fun G sG hD => ?_⟩
    · obtain ⟨s, hs, rfl⟩ := List.mem_map.mp (h7.mem_iff.mp (List.mem_of_getElem? hy))
      obtain ⟨t, g1, g2⟩ := tab_get nd h2 hs
      have em := marked_of nd hs
      rw [g1]
      refine ⟨rfl, V.ref t, rfl, t, _, 1, .bl s.2.1, rfl, rfl, .inl (.inl (sG _ _ g2)), rfl, s.2.1, rfl, ?_⟩
      cases e : s.2.1 with
      | true =>
        refine iteT ⟨V.ref t, rfl, t, _, 0, .str s.1, rfl, rfl, .inl (.inl (sG _ _ g2)), rfl, kA ?_⟩
        rw [em, e]
      | false =>
        refine iteF (kB ?_)
        rw [em, e]
    · exact ⟨D, _, rfl, .inl ⟨.inl (.inl hD), fun l2 nl => q _ l2 ps (sG.trans (upd_new nl)) h7 upd_same⟩⟩
end
end SK
namespace SK
open PySem PySem.Spec PyProof.Rows L2 LamX NdefX
open K0 (De DeAll XCl spX withX)
theorem neT {p : Prop} {A B : Prop} [inst : Decidable p] (h : p) (k : B) : if (!decide p) = true then A else B := by
  rw [decide_eq_true h]
  exact iteF k
/-! ### how far two words go together -/
def lcp : List Nat → List Nat → Nat
  | a :: x, b :: y => if a = b then lcp x y + 1 else 0
  | _, _ => 0
theorem lcp_at : ∀ (x y : List Nat) (i : Nat), i < x.length → i < y.length → (∀ j, j < i → x[j]? = y[j]?) → x[i]? ≠ y[i]? → lcp x y = i
  | [], _, i, h, _, _, _ => absurd h (Nat.not_lt_zero _)
  | _ :: _, [], i, _, h, _, _ => absurd h (Nat.not_lt_zero _)
  | a :: x, b :: y, 0, _, _, _, h => by
    have n : a ≠ b := fun e => h (by rw [e]; rfl)
    unfold lcp
    rw [if_neg n]
  | a :: x, b :: y, i + 1, h1, h2, h3, h4 => by
    have e : a = b := by
      have z := h3 0 (Nat.succ_pos _)
      exact Option.some.inj z
    unfold lcp
    rw [if_pos e, lcp_at x y i (Nat.lt_of_succ_lt_succ h1) (Nat.lt_of_succ_lt_succ h2) (fun j hj => h3 (j + 1) (Nat.succ_lt_succ hj)) h4]
theorem lcp_min : ∀ (x y : List Nat), (∀ j, j < min x.length y.length → x[j]? = y[j]?) → lcp x y = min x.length y.length
  | [], y, _ => by simp [lcp]
  | _ :: _, [], _ => by simp [lcp]
  | a :: x, b :: y, h => by
    have e : a = b := by
      have z := h 0 (by simp)
      exact Option.some.inj z
    unfold lcp
    rw [if_pos e, lcp_min x y (fun j hj => h (j + 1) (by simp at hj ⊢; omega))]
    simp
theorem lcp_le (x y : List Nat) : lcp x y ≤ x.length := by
  induction x generalizing y with
  | nil => simp [lcp]
  | cons a x ih =>
    cases y with
    | nil => simp [lcp]
    | cons b y =>
      unfold lcp
      split
      · have := ih y
        simp
        omega
      · simp
def lcpS (x y : Str) : Nat := lcp x.cps.toList y.cps.toList
def spShared : Sp := fun vs H Q _ => ∃ x y : Str, vs = [.str x, .str y] ∧ x.cps.size ≤ 1000 ∧ y.cps.size ≤ 1000 ∧ Q (.int (lcpS x y : Nat)) H
section
variable {P : Program} {w : World} {K : PySem.W.Frag} {mg : Str → Option Value} {base : Heap} {f fH fR fB fWd fS fC CT : Addr} {fd fdH fdR fdB fdWd fdS fdC : FuncData}
theorem ok_shared (F : Fun K "shared" "shared" (top 21) f fd) (gM : mg "min" = none) (gN : mg "len" = none) (gR : mg "range" = none) : FnOk P w K mg base CX0 1 f fd ["one", "other"] spShared := by
  have S0 : FnScope ["one", "other", "most", "at"] ["one", "other"] (defScope (top 21)) := ⟨rfl, rfl, rfl, by decide +kernel, rfl, by decide +kernel, by decide +kernel⟩
  refine F.ok S0 (fun vs H Q E h => ?_) (fun cdv A outer s H vs Q E hr h => ?_)
  · obtain ⟨x, y, rfl, _⟩ := h
    rfl
  · obtain ⟨x, y, rfl, hx, hy, q⟩ := h
    have z1 : (1000 : Nat) ≤ sizeLine := by decide
    have lx : x.length ≤ sizeLine := Nat.le_trans hx z1
    have ly : y.length ≤ sizeLine := Nat.le_trans hy z1
    refine ⟨_, pss_cons (ps_set (i := 2) S0.nd rfl (Or.inl rfl) (pe_callB (call_min2 rfl) (by rfl) gM PyProof.Rows.boot_min (pa_cons (pe_callB call_len_str (by rfl) gN PySem.boot_len (pa_cons (pv 0) pa_nil)) (pa_cons (pe_callB call_len_str (by rfl) gN PySem.boot_len (pa_cons (pv 1) pa_nil)) pa_nil))))
      (pss_cons (ps_for PassesOwn.never rfl (pi_range1 (by rfl) gR (pa_cons (pv 2) pa_nil)) (pg_name (i := 3) S0.nd rfl (Or.inl rfl)) (pss_one (ps_if (pt_cmpR op_ne (pe_ix ix_str (pv 0) (pv 3) (fun _ _ => rfl)) (pe_ix ix_str (pv 1) (pv 3) (fun _ _ => rfl)) (nomark _)) (pss_one (ps_ret (pv 3))) pss_nil)))
      (pss_one (ps_ret (pv 2)))), ?_⟩
    refine ⟨V.str x, rfl, x, rfl, lx, V.str y, rfl, y, rfl, ly, x.length, y.length, rfl, ?_⟩
    obtain ⟨m, hm, hm2⟩ : ∃ m : Nat, (if (y.length : Int) < (x.length : Int) then (y.length : Int) else (x.length : Int)) = (m : Int) ∧ m = min x.cps.toList.length y.cps.toList.length := by
      have ex : x.length = x.cps.toList.length := by simp [Str.length]
      have ey : y.length = y.cps.toList.length := by simp [Str.length]
      rw [← ex, ← ey]
      refine ⟨min x.length y.length, ?_, rfl⟩
      split <;> omega
    dsimp only
    rw [hm]
    have mx : m ≤ x.cps.toList.length := by omega
    have my : m ≤ y.cps.toList.length := by omega
    have mz : m ≤ 1000 := by
      have : x.cps.toList.length = x.cps.size := Array.length_toList
      omega
    refine ⟨V.int m, rfl, m, rfl, by omega, by omega, for_it walk_range (fun i σ G => G = H ∧ (∃ x3, σ = [some (.str x), some (.str y), some (.int m), x3]) ∧ ∀ j, j < i → x.cps.toList[j]? = y.cps.toList[j]?) ⟨rfl, ⟨none, rfl⟩, fun j h => absurd h (Nat.not_lt_zero _)⟩ (fun _ _ _ _ _ => trivial) ?_ ?_⟩
    · rintro i v σ G G2 hi ⟨rfl, ⟨x3, rfl⟩, hj⟩ ⟨rfl, rfl⟩
      have hi' : i < m := by
        have z : ((m : Nat) : Int).toNat = m := Int.toNat_natCast m
        have h2 : i < ((m : Nat) : Int).toNat := hi
        omega
      obtain ⟨a, hxa⟩ : ∃ a, x.cps.toList[i]? = some a := ⟨_, List.getElem?_eq_getElem (by omega)⟩
      obtain ⟨b, hyb⟩ : ∃ b, y.cps.toList[i]? = some b := ⟨_, List.getElem?_eq_getElem (by omega)⟩
      have e0 : (0 + (i : Int)) = (i : Int) := by omega
      refine ⟨V.str x, rfl, V.int (0 + i), rfl, x, (0 + i : Int), a, rfl, rfl, lx, (by rw [e0]; exact atI_nat hxa), V.str y, rfl, V.int (0 + i), rfl, y, (0 + i : Int), b, rfl, rfl, ly, (by rw [e0]; exact atI_nat hyb), rfl, _, rfl, ?_⟩
      by_cases hab : a = b
      · subst hab
        refine neT rfl ⟨rfl, ⟨_, rfl⟩, fun j h => ?_⟩
        by_cases hji : j = i
        · rw [hji, hxa, hyb]
        · exact hj j (by omega)
      · have n : ¬ V.str ⟨#[a]⟩ = V.str ⟨#[b]⟩ := fun z => hab (by injection z with z; injection z with z; simpa using z)
        rw [decide_eq_false n]
        refine iteT ⟨V.int (0 + i), rfl, ?_⟩
        rw [e0]
        have e : lcpS x y = i := lcp_at _ _ i (by omega) (by omega) hj (by rw [hxa, hyb]; exact fun z => hab (Option.some.inj z))
        rw [e] at q
        exact q
    · rintro σ G ⟨rfl, ⟨x3, rfl⟩, hj⟩
      refine ⟨V.int m, rfl, ?_⟩
      have z : ((m : Nat) : Int).toNat = m := Int.toNat_natCast m
      rw [z] at hj
      have e : lcpS x y = m := by
        rw [hm2]
        exact lcp_min _ _ (fun j h => hj j (by omega))
      rw [e] at q
      exact q
/-! ### one cell -/
theorem filt1 {p : Nat → Bool} {c : Nat} {b : Bool} (h : p c = b) : ([c].filter p).length = if b = true then 1 else 0 := by
  cases b <;> simp [h]
def preS (w : Str) (n : Nat) : Str := cutS w none (some (n : Int))
def ahd (w : Str) (n : Nat) : Str := cutS w (some (n : Int)) (some ((n : Int) + 1))
def oth (S : List Spot) (w : Str) (n : Nat) : Nat := ((belL (plc S) (preS w n)).filter fun c => !decide (V.str ⟨#[c]⟩ = V.str (ahd w n))).length
def min2 (k : Nat) : Int := if (k : Int) < 2 then (k : Int) else 2
def cellD (S : List Spot) (w : Str) (n : Nat) (b : Bool) : PyData := match S.find? (fun s => decide (s.1 = preS w n)) with
  | none => .none
  | some s => .tuple [.bool s.2.1, .bool s.2.2, .int (min2 (oth S w n)), .bool b]
theorem cell_no {S : List Spot} {w : Str} {n : Nat} {b : Bool} (h : preS w n ∉ plc S) : cellD S w n b = .none := by
  unfold cellD
  have e : S.find? (fun s => decide (s.1 = preS w n)) = none := by
    rw [List.find?_eq_none]
    intro s hs z
    exact h (List.mem_map.mpr ⟨s, hs, of_decide_eq_true z⟩)
  rw [e]
theorem cell_yes {S : List Spot} {w : Str} {n : Nat} {b : Bool} (nd : (plc S).Nodup) {s : Spot} (hs : s ∈ S) (h : s.1 = preS w n) : cellD S w n b = .tuple [.bool s.2.1, .bool s.2.2, .int (min2 (oth S w n)), .bool b] := by
  unfold cellD
  have e : S.find? (fun s => decide (s.1 = preS w n)) = some s := by
    cases q : S.find? (fun s => decide (s.1 = preS w n)) with
    | none =>
      rw [List.find?_eq_none] at q
      exact absurd (decide_eq_true h) (q s hs)
    | some t =>
      have z := List.find?_some q
      have z : t.1 = preS w n := by simpa using z
      rw [uniq nd (List.mem_of_find?_eq_some q) hs (z.trans h.symm)]
  rw [e]
theorem oth_perm {S : List Spot} {ps : List Str} {w : Str} {n : Nat} (h : ps.Perm (plc S)) : ((belL ps (preS w n)).filter fun c => !decide (V.str ⟨#[c]⟩ = V.str (ahd w n))).length = oth S w n := by
  unfold oth belL
  exact ((h.filterMap _).filter _).length_eq
def spCellAt (K : PySem.W.Frag) (CT : Addr) : Sp := fun vs H Q _ => ∃ (x : V) (w : Str) (n : Nat) (b : Bool) (S : List Spot), vs = [x, .str w, .int (n : Nat), .bl b] ∧ TreeR K CT H x S ∧ w.cps.size ≤ 1000 ∧ S.length ≤ 5000 ∧ ∀ (H' : Hp) (v : V), Same H H' → De K H' v (cellD S w n b) → Q v H'
abbrev NC : List Str := ["tree", "word", "length", "words", "place", "_", "mark", "flag", "ahead", "others", "letter"]
theorem ok_cellat (F : Fun K "cell_at" "cell_at" (top 27) f fd) (R : TreeC K CT) (gM : mg "min" = none) (gN : mg "len" = none) (MH : Meth K CT "has" fH) (GH : FnOk P w K mg base CX0 1 fH fdH ["self", "place"] (spHas K CT)) (bH : Binds K fdH ["self", "place"] [])
    (MR : Meth K CT "row" fR) (GR : FnOk P w K mg base CX0 2 fR fdR ["self", "place"] (spRowM K CT)) (bR : Binds K fdR ["self", "place"] []) (MB : Meth K CT "below" fB) (GB : FnOk P w K mg base CX0 2 fB fdB ["self", "place"] (spBel K CT)) (bB : Binds K fdB ["self", "place"] []) :
    FnOk P w K mg base CX0 3 f fd ["tree", "word", "length", "words"] (spCellAt K CT) := by
  have S0 : FnScope NC ["tree", "word", "length", "words"] (defScope (top 27)) := ⟨rfl, rfl, rfl, by decide +kernel, rfl, by decide +kernel, by decide +kernel⟩
  have nd := S0.nd
  refine F.ok S0 (fun vs H Q E h => ?_) (fun cdv A outer s H vs Q E hr h => ?_)
  · obtain ⟨x, w, n, b, S, rfl, _⟩ := h
    rfl
  · obtain ⟨x, w, n, b, S, rfl, hT, hw, hSl, kk⟩ := h
    have hT0 := hT
    obtain ⟨ndS, a, dx, fs, rfl, ha, TA⟩ := hT
    have e4 : ∀ g : Str, g = "has" ∨ g = "row" ∨ g = "below" ∨ g = "words" → fs.lookup g = none := by
      obtain ⟨B, Tb, l, kvs, kv2, ps, e1, e2, e3, e4, _⟩ := TA
      exact e4
    have hwl : w.length ≤ sizeLine := Nat.le_trans hw (by decide)
    have hr1 : Room 1 _ := hr.mono (by decide)
    refine ⟨_, pss_cons (ps_set (i := 4) nd rfl (Or.inl rfl) (pe_slice sl_str (pv 1) po_none (po_some (pv 2))))
      (pss_cons (ps_if (pt_not (pt_val (pe_meth (pv 0) R.cl MH GH hr1 bH .nil pass0 (pa_cons (pv 4) pa_nil)))) (pss_one (ps_ret pe_non)) pss_nil)
      (pss_cons (ps_asg (pe_meth (pv 0) R.cl MR GR hr bR .nil pass0 (pa_cons (pv 4) pa_nil)) (pg_tup rfl (pgs_cons (pg_name (i := 5) nd rfl (Or.inl rfl)) (pgs_cons (pg_name (i := 6) nd rfl (Or.inl rfl)) (pgs_cons (pg_name (i := 7) nd rfl (Or.inl rfl)) pgs_nil)))))
      (pss_cons (ps_set (i := 8) nd rfl (Or.inr rfl) (pe_slice sl_str (pv 1) (po_some (pv 2)) (po_some (pe_op op_add (pv 2) pe_int))))
      (pss_cons (ps_setLc (i := 9) (own := [("letter", 10)]) (g := gName 10) rfl nd rfl rfl (sw_true rfl rfl rfl (by decide +kernel)) (pi_str (pe_meth (pv 0) R.cl MB GB hr bB .nil pass0 (pa_cons (pv 4) pa_nil))) (blkOk_by (N := NC) (sc := defScope (top 27)) (by decide +kernel)) (fun _ _ _ _ _ => pg_name (i := 10) nd rfl (Or.inl rfl))
          (fun _ _ _ _ _ => pts_one (pt_cmpR op_ne (pv 10) (pv 8) (nomark _))) (fun _ _ _ _ _ => pv 10))
      (pss_one (ps_ret (pe_tup (pa_cons (pv 6) (pa_cons (pv 7) (pa_cons (pe_callB (call_min2 rfl) (by rfl) gM PyProof.Rows.boot_min (pa_cons pe_int (pa_cons (pe_callB call_len_seq (by rfl) gN PySem.boot_len (pa_cons (pv 9) pa_nil)) pa_nil))) (pa_cons (pv 3) pa_nil))))))))))), ?_⟩
    refine ⟨V.str w, rfl, V.int n, rfl, n, rfl, w, rfl, hwl, ?_⟩
    refine ⟨V.ref a, rfl, a, dx, fs, rfl, ha, e4 _ (.inl rfl), V.str (preS w n), rfl, V.ref a, preS w n, S, rfl, hT0, _, rfl, ?_⟩
    by_cases hp : preS w n ∈ plc S
    · rw [decide_eq_true hp]
      refine iteF ?_
      obtain ⟨s, hs, es⟩ := List.mem_map.mp hp
      refine ⟨V.ref a, rfl, a, dx, fs, rfl, ha, e4 _ (.inr (.inl rfl)), V.str (preS w n), rfl, V.ref a, S, s, (by rw [es]; all_goals rfl), hT0, hs, fun t ht => ⟨t, _, rfl, .inl (.inl ht), rfl, _, _, rfl, _, _, rfl, _, _, rfl, rfl, ?_⟩⟩
      refine ⟨V.str w, rfl, V.int n, rfl, n, rfl, V.int n, rfl, n, 1, rfl, rfl, _, rfl, w, rfl, hwl, ?_⟩
      refine ⟨V.ref a, rfl, a, dx, fs, rfl, ha, e4 _ (.inr (.inr (.inl rfl))), V.str (preS w n), rfl, V.ref a, preS w n, S, rfl, hT0, hp, fun ps hps => ⟨belS ps (preS w n), rfl, fun D nD => lc_it walk_str (fun i G => Same H G ∧ ∃ acc, G D = some (.lst acc) ∧ acc.length = (((belL ps (preS w n)).take i).filter fun c => !decide (V.str ⟨#[c]⟩ = V.str (ahd w n))).length) ⟨upd_new nD, [], upd_same, rfl⟩ (fun _ _ _ _ => trivial) ?_ ?_⟩⟩
      · rintro i y G G' hi ⟨sG, acc, hD, hl⟩ ⟨rfl, c, hc, rfl⟩
        have hcl : (belL ps (preS w n))[i]? = some c := by
          have z : (belS ps (preS w n)).cps[i]? = some c := hc
          unfold belS at z
          simpa using z
        have bl : (belL ps (preS w n)).length ≤ 5000 := by
          have z1 := belL_len ps (preS w n)
          have z2 := hps.length_eq
          unfold plc at z2
          rw [List.length_map] at z2
          omega
        have al : acc.length < sizeLine := by
          have z1 : acc.length ≤ 5000 := by
            rw [hl]
            refine Nat.le_trans (List.length_filter_le _ _) ?_
            rw [List.length_take]
            omega
          exact Nat.lt_of_le_of_lt z1 (by decide)
        have et : (belL ps (preS w n)).take (i + 1) = (belL ps (preS w n)).take i ++ [c] := by
          rw [List.take_add_one, hcl]
          rfl
        have same : ∀ x, Same H (upd G' D (.lst (acc ++ [x]))) := fun x b o e => by
          rw [upd_ne (ne_of_none e nD)]
          exact sG _ _ e
        refine ⟨rfl, V.str ⟨#[c]⟩, rfl, V.str (ahd w n), rfl, rfl, _, rfl, ?_⟩
        by_cases hq : V.str ⟨#[c]⟩ = V.str (ahd w n)
        · refine neT hq ⟨sG, acc, hD, ?_⟩
          rw [et, List.filter_append, List.length_append, ← hl, filt1 (p := fun c => !decide (V.str ⟨#[c]⟩ = V.str (ahd w n))) (b := false) (show (!decide (V.str ⟨#[c]⟩ = V.str (ahd w n))) = false by rw [decide_eq_true hq]; rfl)]
          rfl
        · rw [decide_eq_false hq]
          refine iteT ⟨V.str ⟨#[c]⟩, rfl, acc, hD, al, same _, _, upd_same, ?_⟩
          rw [et, List.filter_append, List.length_append, List.length_append, ← hl, filt1 (p := fun c => !decide (V.str ⟨#[c]⟩ = V.str (ahd w n))) (b := true) (show (!decide (V.str ⟨#[c]⟩ = V.str (ahd w n))) = true by rw [decide_eq_false hq]; rfl)]
          rfl
      · rintro G ⟨sG, acc, hD, hl⟩
        have ek : acc.length = oth S w n := by
          rw [hl, ← oth_perm hps, List.take_of_length_le]
          show (belL ps (preS w n)).length ≤ (belS ps (preS w n)).cps.size
          unfold belS
          simp
        refine ⟨V.bl s.2.1, rfl, V.bl s.2.2, rfl, V.ref D, rfl, D, acc, rfl, .inl (.inl (.inl hD)), 2, acc.length, rfl, V.bl b, rfl, (by show 4 ≤ sizeLine; decide), fun q nq => ?_⟩
        rw [ek]
        refine kk _ (.ref q) (sG.trans (upd_new nq)) ?_
        rw [cell_yes ndS hs es]
        exact .tup upd_same (.cons (.bl _) (.cons (.bl _) (.cons (.int _) (.cons (.bl _) .nil))))
    · rw [decide_eq_false hp]
      refine iteT (kk H .non (Same.refl H) ?_)
      rw [cell_no hp]
      exact .non
end
end SK
namespace SK
open PySem PySem.Spec PyProof.Rows L2 LamX NdefX
open K0 (De DeAll XCl spX withX)
/-! ### all cells of a word -/
theorem de_snoc {K : PySem.W.Frag} {H : Hp} : ∀ {vs : List V} {ds : List PyData} {v : V} {d : PyData}, DeAll K H vs ds → De K H v d → DeAll K H (vs ++ [v]) (ds ++ [d])
  | _, _, _, _, .nil, h => .cons h .nil
  | _, _, _, _, .cons h1 t, h => .cons h1 (de_snoc t h)
def leafAt (S : List Spot) (w : Str) (n : Int) (ps : List Str) : Bool := ps.any fun p => !Txt.startswith w p && decide ((lcpS w p : Int) = n)
def leaf (S : List Spot) (w : Str) (n : Nat) : Bool := leafAt S w n ((plc S).filter (marked S))
theorem any_perm {α : Type} {l m : List α} {q : α → Bool} (h : l.Perm m) : l.any q = m.any q := by
  rw [Bool.eq_iff_iff, List.any_eq_true, List.any_eq_true]
  exact ⟨fun ⟨x, hx, e⟩ => ⟨x, h.mem_iff.mp hx, e⟩, fun ⟨x, hx, e⟩ => ⟨x, h.mem_iff.mpr hx, e⟩⟩
theorem leaf_perm {S : List Spot} {w : Str} {n : Nat} {ps : List Str} (h : ps.Perm (plc S)) : leafAt S w n (ps.filter (marked S)) = leaf S w n := any_perm (h.filter _)
def FlatD (d : PyData) : Prop := d = .none ∨ ∃ (a b : Bool) (i : Int) (c : Bool), d = .tuple [.bool a, .bool b, .int i, .bool c]
theorem cell_flat (S : List Spot) (w : Str) (n : Nat) (b : Bool) : FlatD (cellD S w n b) := by
  unfold cellD
  split
  · exact .inl rfl
  · exact .inr ⟨_, _, _, _, rfl⟩
theorem de_flat {K : PySem.W.Frag} {H : Hp} {D : Addr} {xs : List V} {o : HO} {d : PyData} {v : V} (hD : H D = some (.lst xs)) (f : FlatD d) (h : De K H v d) : De K (upd H D o) v d := by
  rcases f with rfl | ⟨a, b, i, c, rfl⟩
  · cases h
    exact .non
  · cases h with
    | tup ha hd =>
      refine .tup (by rw [upd_ne (ne_of ha hD (by intro z; cases z))]; exact ha) ?_
      cases hd with
      | cons h1 hd =>
        cases hd with
        | cons h2 hd =>
          cases hd with
          | cons h3 hd =>
            cases hd with
            | cons h4 hd =>
              cases hd
              cases h1
              cases h2
              cases h3
              cases h4
              exact .cons (.bl _) (.cons (.bl _) (.cons (.int _) (.cons (.bl _) .nil)))
theorem de_flatAll {K : PySem.W.Frag} {H : Hp} {D : Addr} {xs : List V} {o : HO} (hD : H D = some (.lst xs)) : ∀ {ds : List PyData} {vs : List V}, (∀ d ∈ ds, FlatD d) → DeAll K H vs ds → DeAll K (upd H D o) vs ds
  | [], _, _, h => by
    cases h
    exact .nil
  | d :: ds, _, f, h => by
    cases h with
    | cons h1 h2 => exact .cons (de_flat hD (f d (by simp)) h1) (de_flatAll hD (fun e he => f e (List.mem_cons_of_mem _ he)) h2)
def cellsD (S : List Spot) (w : Str) : PyData := .tuple ((List.range (w.cps.size + 1)).map fun n => cellD S w n (leaf S w n))
def spCells (K : PySem.W.Frag) (CT : Addr) : Sp := fun vs H Q _ => ∃ (x : V) (w : Str) (S : List Spot), vs = [x, .str w] ∧ TreeR K CT H x S ∧ w.cps.size ≤ 900 ∧ S.length ≤ 5000 ∧ (∀ p ∈ plc S, p.cps.size ≤ 1000) ∧ ∀ (H' : Hp) (v : V), Same H H' → De K H' v (cellsD S w) → Q v H'
abbrev NE : List Str := ["tree", "word", "leaves", "kept", "length"]
theorem TreeAt.same {K : PySem.W.Frag} {H H' : Hp} {fs : List (Str × V)} {ds : List PyData} (t : TreeAt K H fs ds) (s : Same H H') : TreeAt K H' fs ds := by
  obtain ⟨B, Tb, l, kvs, kv2, ps, e1, e2, e3, e4, h1, h2, h3, h4, h5, h6, h7, h8⟩ := t
  exact ⟨B, Tb, l, kvs, kv2, ps, e1, e2, e3, e4, s _ _ h1, h2.mono s, s _ _ h3, h4, h5, s _ _ h6, h7, h8⟩
theorem TreeR.same {K : PySem.W.Frag} {CT : Addr} {H H' : Hp} {x : V} {S : List Spot} (t : TreeR K CT H x S) (s : Same H H') : TreeR K CT H' x S := by
  obtain ⟨nd, a, dx, fs, e, h, t⟩ := t
  exact ⟨nd, a, dx, fs, e, s _ _ h, t.same s⟩
section
variable {P : Program} {w : World} {K : PySem.W.Frag} {mg : Str → Option Value} {base : Heap} {f fWd fS fC CT : Addr} {fd fdWd fdS fdC : FuncData}
theorem ok_cells (F : Fun K "cells" "cells" (top 26) f fd) (R : TreeC K CT) (gT : mg "tuple" = none) (gR : mg "range" = none) (gN : mg "len" = none) (MW : Meth K CT "words" fWd) (GW : FnOk P w K mg base CX0 1 fWd fdWd ["self"] (spWordsM K CT)) (bW : Binds K fdWd ["self"] [])
    (gS : mg "shared" = some (.ref fS)) (kS : PySem.W.keepIn K (.ref fS) = true) (GS : FnOk P w K mg base CX0 1 fS fdS ["one", "other"] spShared) (bS : Binds K fdS ["one", "other"] [])
    (gC : mg "cell_at" = some (.ref fC)) (kC : PySem.W.keepIn K (.ref fC) = true) (GC : FnOk P w K mg base CX0 3 fC fdC ["tree", "word", "length", "words"] (spCellAt K CT)) (bC : Binds K fdC ["tree", "word", "length", "words"] []) :
    FnOk P w K mg base CX0 4 f fd ["tree", "word"] (spCells K CT) := by
  have S0 : FnScope NE ["tree", "word"] (defScope (top 26)) := ⟨rfl, rfl, rfl, by decide +kernel, rfl, by decide +kernel, by decide +kernel⟩
  have nd := S0.nd
  refine F.ok S0 (fun vs H Q E h => ?_) (fun cdv A outer s H vs Q E hr h => ?_)
  · obtain ⟨x, w, S, rfl, _⟩ := h
    rfl
  · obtain ⟨x, w, S, rfl, hT, hw, hSl, hp, kk⟩ := h
    have hT0 := hT
    obtain ⟨ndS, a, dx, fs, rfl, ha, TA⟩ := hT
    have e4 : ∀ g : Str, g = "has" ∨ g = "row" ∨ g = "below" ∨ g = "words" → fs.lookup g = none := by
      obtain ⟨B, Tb, l, kvs, kv2, ps, e1, e2, e3, e4, _⟩ := TA
      exact e4
    have hwl : w.length ≤ sizeLine := Nat.le_trans hw (by decide)
    have hu := hu_of hr
    have hr1 : Room 1 _ := hr.mono (by decide)
    refine ⟨_, pss_cons (ps_set (i := 2) nd rfl (Or.inr rfl) (pe_dc (own := [("kept", 3)]) (g := gName 3) rfl nd (pi_tup (pe_meth0 (pv 0) R.cl MW GW hr1 bW .nil pass0)) (blkOk_by (N := NE) (sc := defScope (top 26)) (by decide +kernel)) (fun _ _ _ _ _ => pg_name (i := 3) nd rfl (Or.inl rfl))
          (fun _ _ _ _ _ => pts_one (pt_not (pt_val (pe_m1 PySem.F.slot_str_startswith PySem.F.type_str_startswith mt_startswith (pv 1) (pv 3)))))
          (fun _ _ _ _ _ => pe_call GS hr1 (by rfl) gS kS bS .nil pass0 (pa_cons (pv 1) (pa_cons (pv 3) pa_nil))) (fun _ _ _ _ _ => pe_bl)))
      (pss_one (ps_ret (pe_callTy call_tuple_of (by rfl) gT PyProof.Rows.boot_tuple (pa_cons (pe_lc (own := [("length", 4)]) (g := gName 4) (tt := tYes) rfl nd (pi_range1 (by rfl) gR (pa_cons (pe_op op_add (pe_callB call_len_str (by rfl) gN PySem.boot_len (pa_cons (pv 1) pa_nil)) pe_int) pa_nil)) (blkOk_by (N := NE) (sc := defScope (top 26)) (by decide +kernel)) (fun _ _ _ _ _ => pg_name (i := 4) nd rfl (Or.inl rfl)) (fun _ _ _ _ _ => pts_nil)
          (fun _ _ _ _ _ => pe_call GC hr (by rfl) gC kC bC .nil pass0 (pa_cons (pv 0) (pa_cons (pv 1) (pa_cons (pv 4) (pa_cons (pe_cmp (pc_din hu (pv 4) (pv 2))) pa_nil)))))) pa_nil)))), ?_⟩
    refine ⟨V.ref a, rfl, a, dx, fs, rfl, ha, e4 _ (.inr (.inr (.inr rfl))), V.ref a, S, rfl, hT0, fun H1 q ps s1 hps hq => ?_⟩
    have psl : ps.length ≤ 5000 := by
      have z := hps.length_eq
      unfold plc at z
      rw [List.length_map] at z
      omega
    generalize hws : ps.filter (marked S) = ws at hq
    have wsl : ws.length ≤ 5000 := by
      rw [← hws]
      exact Nat.le_trans (List.length_filter_le _ _) psl
    have wsz : ∀ y ∈ ws, y.cps.size ≤ 1000 := fun y hy => by
      rw [← hws] at hy
      exact hp y (hps.mem_iff.mp (List.mem_filter.mp hy).1)
    refine ⟨q, rfl, ⟨_, .inl (.inl hq)⟩, fun D nD => dc_it (walk_tup (K := K) (xs := ws.map V.str)) (fun i G => Same H1 G ∧ ∃ kvs : List (Key × V), G D = some (.dK kvs) ∧ kvs.length ≤ i ∧ ∀ n : Int, (valV kvs (.inl n)).isSome = leafAt S w n (ws.take i)) ⟨upd_new nD, [], upd_same, Nat.le_refl _, fun n => rfl⟩ (fun i G _ z => .inl (.inl (z.1 _ _ hq))) ?_ ?_⟩
    · rintro i y G G' hi ⟨sG, kvs, hD, hl, hv⟩ ⟨rfl, hy⟩
      obtain ⟨p, hpi, rfl⟩ := map_at hy
      have hil : i < ws.length := (List.getElem?_eq_some_iff.mp hpi).1
      have kz : kvs.length < sizeLine := by
        have z2 : (5000 : Nat) < sizeLine := by decide
        omega
      have step : ∀ n : Int, leafAt S w n (ws.take (i + 1)) = (leafAt S w n (ws.take i) || (!Txt.startswith w p && decide ((lcpS w p : Int) = n))) := fun n => by
        unfold leafAt
        rw [take_next hpi, List.any_append]
        simp
      refine ⟨rfl, V.str w, rfl, ⟨w, rfl⟩, V.str p, rfl, w, p, rfl, rfl, _, rfl, ?_⟩
      cases hsw : Txt.startswith w p with
      | true =>
        refine iteF ⟨sG, kvs, hD, by omega, fun n => ?_⟩
        rw [hv, step, hsw]
        simp
      | false =>
        refine iteT ⟨V.str w, rfl, V.str p, rfl, w, p, rfl, (by omega), wsz p (List.mem_of_getElem? hpi), kvs, .inl (lcpS w p : Nat), rfl, hD, kz, ?_, _, upd_same, ?_, fun n => ?_⟩
        · intro b o e
          rw [upd_ne (ne_of_none e nD)]
          exact sG _ _ e
        · have z : (putK kvs (.inl ((lcpS w p : Nat) : Int)) (.bl true)).length ≤ kvs.length + 1 := by
            unfold putK
            split
            · rw [List.length_map]
              omega
            · rw [List.length_append]
              simp
          omega
        · rw [valV_put, step, hsw]
          by_cases e : n = (lcpS w p : Int)
          · rw [if_pos (by rw [e])]
            simp [e]
          · rw [if_neg (fun z => e (by injection z)), hv]
            have e' : ¬ (lcpS w p : Int) = n := fun z => e z.symm
            simp [e']
    rintro G ⟨sG, kvs, hD, hl, hv⟩
    rw [List.length_map, List.take_length] at hv
    have s2 := s1.trans sG
    have hlf : ∀ n : Nat, (valV kvs (.inl (n : Int))).isSome = leaf S w n := fun n => by
      rw [hv, ← hws]
      exact leaf_perm hps
    refine ⟨V.str w, rfl, w, rfl, hwl, w.length, 1, rfl, rfl, ?_⟩
    have hwn : w.length = w.cps.size := rfl
    refine ⟨_, rfl, (by rw [hwn]; omega), (by rw [hwn]; omega), fun D2 nD2 => lc_it walk_range (fun i G2 => Same G G2 ∧ ∃ acc, G2 D2 = some (.lst acc) ∧ DeAll K G2 acc ((List.range i).map fun n => cellD S w n (leaf S w n))) ⟨upd_new nD2, [], upd_same, .nil⟩ (fun _ _ _ _ => trivial) ?_ ?_⟩
    · rintro i y G3 G4 hi ⟨sG3, acc, hD3, hA⟩ ⟨rfl, rfl⟩
      have hi2 : i < w.cps.size + 1 := by
        have h2 : i < ((w.length : Int) + 1).toNat := hi
        rw [hwn] at h2
        omega
      have e0 : (0 + (i : Int)) = (i : Int) := by omega
      have hD4 := sG3 _ _ hD
      have dg := DGet.k (k := (.inl (i : Int) : Key)) hD4
      have al : acc.length = i := by
        have z := deAll_len hA
        rw [List.length_map, List.length_range] at z
        exact z
      refine ⟨rfl, V.ref a, rfl, V.str w, rfl, V.int (0 + i), rfl, V.int (0 + i), rfl, V.ref D, rfl, D, _, rfl, (by rw [e0]; exact dg), V.ref a, w, i, _, S, (by rw [e0]; all_goals rfl), hT0.same (s2.trans sG3), by omega, hSl, fun G5 v s5 hv5 => ?_⟩
      rw [hlf] at hv5
      refine ⟨acc, s5 _ _ hD3, (by rw [al]; exact Nat.lt_of_le_of_lt (show i ≤ 1000 by omega) (by decide)), ?_, _, upd_same, ?_⟩
      · intro b o e
        rw [upd_ne (ne_of_none e nD2)]
        exact s5 _ _ (sG3 _ _ e)
      · rw [List.range_succ, List.map_append]
        exact de_snoc (de_flatAll (s5 _ _ hD3) (fun d hd => by
          obtain ⟨n, _, rfl⟩ := List.mem_map.mp hd
          exact cell_flat _ _ _ _) (de_monoAll s5 _ _ hA)) (de_flat (s5 _ _ hD3) (cell_flat _ _ _ _) hv5)
    · rintro G3 ⟨sG3, acc, hD3, hA⟩
      have e : ((w.length : Int) + 1).toNat = w.cps.size + 1 := by
        rw [hwn]
        omega
      rw [e] at hA
      refine ⟨D2, acc, rfl, .inl ⟨.inl (.inl hD3), fun l nl => ?_⟩⟩
      have s6 := upd_new (o := .tup acc) nl
      exact kk _ _ ((s2.trans sG3).trans s6) (.tup upd_same (de_monoAll s6 _ _ hA))
end
end SK
namespace SK
open PySem PySem.Spec PyProof.Rows L2 LamX NdefX
open K0 (De DeAll XCl spX withX)
/-! ### the pen -/
def pen (l : Addr) (k lf : Int) : List (Key × V) := [(Sum.inr "cells", V.ref l), (Sum.inr "begun", V.int k), (Sum.inr "left", V.int lf)]
theorem pen_cells (l : Addr) (k lf : Int) : valV (pen l k lf) (Sum.inr "cells") = some (.ref l) := by kernel_rfl
theorem pen_next (l : Addr) (k lf : Int) : valV (pen l k lf) (Sum.inr "begun") = some (.int k) := by kernel_rfl
theorem pen_left (l : Addr) (k lf : Int) : valV (pen l k lf) (Sum.inr "left") = some (.int lf) := by kernel_rfl
theorem pen_put_next (l : Addr) (k lf j : Int) : putK (pen l k lf) (Sum.inr "begun") (.int j) = pen l j lf := by kernel_rfl
theorem pen_put_left (l : Addr) (k lf j : Int) : putK (pen l k lf) (Sum.inr "left") (.int j) = pen l k j := by kernel_rfl
theorem pen_merge (l : Addr) (k lf : Int) : mergeK [] (pen l k lf) = pen l k lf := by kernel_rfl
structure PenAt (H : Hp) (p l : Addr) (ns : List Int) (k lf : Int) : Prop where
  dc : H p = some (.dK (pen l k lf))
  ls : H l = some (.lst (ns.map V.int))
/-- all but p is as it was -/
def SameBut (p : Addr) (H H' : Hp) : Prop := ∀ b o, b ≠ p → H b = some o → H' b = some o
theorem SameBut.trans {p : Addr} {H H1 H2 : Hp} (a : SameBut p H H1) (b : SameBut p H1 H2) : SameBut p H H2 := fun c o n h => b c o n (a c o n h)
theorem SameBut.of {p : Addr} {H H' : Hp} (a : Same H H') : SameBut p H H' := fun c o _ h => a c o h
theorem cut63 {ns : List Int} (h : ns.length ≤ 63) : cutV (ns.map V.int) none (some 63) = ns.map V.int := by
  unfold cutV
  rw [HT.sIx_none, show ((63 : Int)) = ((63 : Nat) : Int) from rfl, HT.sIx_nat, List.drop_zero, List.length_map, Nat.min_eq_right h, Nat.sub_zero, List.take_of_length_le (by rw [List.length_map]; exact Nat.le_refl _)]
def spPen (K : PySem.W.Frag) : Sp := fun vs H Q _ => ∃ (a : Addr) (ns : List Int), vs = [.ref a] ∧ SqL K H a (ns.map V.int) ∧ ns.length ≤ 63 ∧ ∀ (H' : Hp) (p l : Addr), Same H H' → PenAt H' p l ns 0 0 → Q (.ref p) H'
theorem if_val {c : Bool} {tA tB : TE} {σ : L2.St} {H : Hp} {Q : VK} {z : V} (h1 : c = true → ∀ Q : VK, Q z H → tA σ H Q) (h2 : c = false → ∀ Q : VK, Q z H → tB σ H Q) (q : Q z H) : if c = true then tA σ H Q else tB σ H Q := by
  cases c with
  | true =>
    rw [if_pos rfl]
    exact h1 rfl Q q
  | false =>
    rw [if_neg Bool.false_ne_true]
    exact h2 rfl Q q
section
variable {P : Program} {w : World} {K : PySem.W.Frag} {mg : Str → Option Value} {base : Heap} {f : Addr} {fd : FuncData}
theorem scPen : FnScope ["script"] ["script"] (defScope (top 29)) := ⟨rfl, rfl, rfl, by decide +kernel, rfl, by decide +kernel, by decide +kernel⟩
theorem ok_pen (F : Fun K "_law_pen_of" "_law_pen_of" (top 29) f fd) (gL : mg "list" = none) : FnOk P w K mg base CX0 1 f fd ["script"] (spPen K) := by
  refine F.ok scPen (fun vs H Q E h => ?_) (fun cdv A outer s H vs Q E hr h => ?_)
  · obtain ⟨a, ns, rfl, _⟩ := h
    rfl
  · obtain ⟨a, ns, rfl, hS, hn, k⟩ := h
    refine ⟨_, pss_one (ps_ret (pe_disp (pps_cons pe_str (pe_callTy call_list_of (by rfl) gL PyProof.Rows.boot_list (pa_cons (pe_slice sl_list (pv 0) po_none (po_some pe_int)) pa_nil)) (pps_cons pe_str pe_int (pps_cons pe_str pe_int pps_nil))) rfl rfl (by simp) (by decide))), ?_⟩
    intro p hp
    refine ⟨_, rfl, 63, rfl, a, ns.map V.int, rfl, ?_, fun q hq => ?_⟩
    · exact Same.seq (fun b o e => by rw [upd_ne (ne_of_none e hp)]; exact e) hS
    rw [cut63 hn]
    refine ⟨q, ns.map V.int, rfl, .inl (.inl (.inl upd_same)), fun l hl => ?_⟩
    have npq : p ≠ q := ne_of_none (H := upd H p (.dK [])) upd_same hq
    have npl : p ≠ l := ne_of_none (H := upd (upd H p (.dK [])) q (.lst (ns.map V.int))) (by rw [upd_ne npq, upd_same]) hl
    refine ⟨by rw [upd_ne npl, upd_ne npq, upd_same], pen l 0 0, rfl, (by show 3 ≤ 15; decide), ?_⟩
    rw [pen_merge]
    refine k _ p l (fun b o e => ?_) ⟨upd_same, ?_⟩
    · have n1 : b ≠ p := ne_of_none e hp
      have e1 : upd H p (.dK []) b = some o := by rw [upd_ne n1]; exact e
      have n2 : b ≠ q := ne_of_none e1 hq
      have e2 : upd (upd H p (.dK [])) q (.lst (ns.map V.int)) b = some o := by rw [upd_ne n2]; exact e1
      have n3 : b ≠ l := ne_of_none e2 hl
      rw [upd_ne n1, upd_ne n3]
      exact e2
    · rw [upd_ne npl.symm, upd_same]
theorem upd_but {p : Addr} {o : HO} (H : Hp) : SameBut p H (upd H p o) := fun c u n h => by
  rw [upd_ne n]
  exact h
/-- the draw: a number below the base; the pen's numbers may change -/
def spDraw : Sp := fun vs H Q _ => ∃ (p l : Addr) (ns : List Int) (k lf b : Int), vs = [.ref p, .int b] ∧ PenAt H p l ns k lf ∧ ns.length ≤ 63 ∧ 0 ≤ k ∧ k ≤ 100000 ∧ 0 ≤ lf ∧ 0 < b ∧ b ≤ 1000 ∧
  ∀ (H' : Hp) (k' lf' d : Int), k' ≤ k + 1 → 0 ≤ k' → 0 ≤ lf' → 0 ≤ d → d < b → SameBut p H H' → PenAt H' p l ns k' lf' → Q (.int d) H'
theorem scD : FnScope ["pen", "many", "digit", "place", "size", "told", "blend"] ["pen", "many"] (defScope (top 30)) := ⟨rfl, rfl, rfl, by decide +kernel, rfl, by decide +kernel, by decide +kernel⟩
theorem ok_draw (F : Fun K "_law_draw" "_law_draw" (top 30) f fd) (gI : mg "int" = none) (gN : mg "len" = none) (gA : mg "abs" = none) : FnOk P w K mg base CX0 1 f fd ["pen", "many"] spDraw := by
  refine F.ok scD (fun vs H Q E h => ?_) (fun cdv A outer s H vs Q E hr h => ?_)
  · obtain ⟨p, l, ns, k, lf, b, rfl, _⟩ := h
    rfl
  · obtain ⟨p, l, ns, k, lf, b, rfl, ⟨hd, hl⟩, hn, hk0, hk1, hf, hb0, hb1, kk⟩ := h
    have hu := hu_of hr
    have hu64 := hr.units
    refine ⟨_, pss_cons (ps_if (pt_cmpR op_gt (pe_dget hu (pv 0) pe_str (fun _ _ => rfl)) pe_int (nomark _)) (pss_cons (ps_set (i := 2) scD.nd rfl (Or.inl rfl) (pe_op op_mod (pe_callTy call_int1 (by rfl) gI PyProof.Rows.boot_int (pa_cons (pe_dget hu (pv 0) pe_str (fun _ _ => rfl)) pa_nil)) (pv 1))) (pss_cons (ps_dput hu (pv 0) pe_str (pe_op op_fdiv (pe_dget hu (pv 0) pe_str (fun _ _ => rfl)) (pv 1)) rfl) (pss_one (ps_ret (pv 2))))) pss_nil)
      (pss_cons (ps_par (i := 3) (j := 4) rfl scD.nd rfl rfl (by decide) rfl rfl (pa_cons (pe_dget hu (pv 0) pe_str (fun _ _ => rfl)) (pa_cons (pe_callB call_len_seq (by rfl) gN PySem.boot_len (pa_cons (pe_dget hu (pv 0) pe_str (fun _ _ => rfl)) pa_nil)) pa_nil)) rfl)
      (pss_cons (ps_dput hu (pv 0) pe_str (pe_op op_add (pv 3) pe_int) rfl)
      (pss_cons (ps_set (i := 5) scD.nd rfl (Or.inl rfl) (pe_ifExp (pt_cmpR op_gt (pv 4) pe_int (nomark _)) (pe_ix ix_list (pe_dget hu (pv 0) pe_str (fun _ _ => rfl)) (pe_op op_mod (pe_callTy call_int1 (by rfl) gI PyProof.Rows.boot_int (pa_cons (pv 3) pa_nil)) (pv 4)) (fun _ _ => rfl)) (pe_op op_add (pe_op op_mul pe_int (pv 3)) pe_int)))
      (pss_cons (ps_if ((pw_and (pt_cmpR op_lt (pv 3) (pv 4) (nomark _)) (pw_and1 (pt_cmpR op_ge (pe_callB call_abs (by rfl) gA PyProof.Rows.boot_abs (pa_cons (pv 5) pa_nil)) (pe_op op_pow pe_int pe_int) (nomark _)))).pt)
        (pss_cons (ps_dput hu (pv 0) pe_str (pe_op op_fdiv (pe_op op_sub (pe_callB call_abs (by rfl) gA PyProof.Rows.boot_abs (pa_cons (pv 5) pa_nil)) (pe_op op_pow pe_int pe_int)) (pv 1)) rfl) (pss_one (ps_ret (pe_op op_mod (pe_callTy call_int1 (by rfl) gI PyProof.Rows.boot_int (pa_cons (pe_op op_sub (pe_callB call_abs (by rfl) gA PyProof.Rows.boot_abs (pa_cons (pv 5) pa_nil)) (pe_op op_pow pe_int pe_int)) pa_nil)) (pv 1))))) pss_nil)
      (pss_cons (ps_set (i := 6) scD.nd rfl (Or.inl rfl) (pe_op op_mod (pe_callTy call_int1 (by rfl) gI PyProof.Rows.boot_int (pa_cons (pe_op op_add (pe_op op_add (pe_op op_mul (pe_op op_mod (pe_callTy call_int1 (by rfl) gI PyProof.Rows.boot_int (pa_cons (pv 5) pa_nil)) pe_int) pe_int) (pe_op op_mul (pe_op op_mul pe_int (pv 3)) (pv 3))) pe_int) pa_nil)) pe_int))
      (pss_cons (ps_set (i := 6) scD.nd rfl (Or.inl rfl) (pe_op op_mod (pe_callTy call_int1 (by rfl) gI PyProof.Rows.boot_int (pa_cons (pe_op op_add (pe_op op_add (pe_op op_add (pe_op op_mul (pv 6) (pv 6)) (pe_op op_mul pe_int (pv 6))) (pe_op op_mul pe_int (pv 3))) pe_int) pa_nil)) pe_int))
      (pss_one (ps_ret (pe_op op_mod (pe_callTy call_int1 (by rfl) gI PyProof.Rows.boot_int (pa_cons (pe_op op_fdiv (pe_op op_mod (pe_callTy call_int1 (by rfl) gI PyProof.Rows.boot_int (pa_cons (pe_op op_mul (pv 6) (pe_op op_add (pv 6) pe_int)) pa_nil)) pe_int) pe_int) pa_nil)) (pv 1)))))))))), ?_⟩
    have npl : p ≠ l := ne_of hd hl (by intro z; cases z)
    have gL : DGet H p (.str "left") (some (.int lf)) := by
      have z := DGet.k (k := Sum.inr "left") hd
      rw [pen_left] at z
      exact z
    have gO : DGet H p (.str "begun") (some (.int k)) := by
      have z := DGet.k (k := Sum.inr "begun") hd
      rw [pen_next] at z
      exact z
    have gC : DGet H p (.str "cells") (some (.ref l)) := by
      have z := DGet.k (k := Sum.inr "cells") hd
      rw [pen_cells] at z
      exact z
    have hlen : (ns.map V.int).length = ns.length := List.length_map _
    refine ⟨V.ref p, rfl, p, V.int lf, rfl, gL, lf, 0, rfl, rfl, _, rfl, ?_⟩
    refine ite2 (fun c => ?_) (fun c => ?_)
    · have c' : 0 < lf := of_decide_eq_true c
      refine ⟨V.ref p, rfl, p, V.int lf, rfl, gL, .inl ⟨lf, rfl, V.int b, rfl, lf, b, rfl, rfl, hb0, ?_⟩⟩
      refine ⟨V.ref p, rfl, p, V.int lf, rfl, gL, V.int b, rfl, lf, b, rfl, rfl, ⟨hb0, by omega⟩, V.ref p, rfl, p, _, rfl, DPut.k (k := Sum.inr "left") hd (by show 3 < sizeLine; decide), V.int (lf % b), rfl, ?_⟩
      rw [pen_put_left]
      exact kk _ k (lf / b) (lf % b) (by omega) hk0 (Int.ediv_nonneg hf (Int.le_of_lt hb0)) (Int.emod_nonneg _ (by omega)) (Int.emod_lt_of_pos _ hb0) (upd_but H) ⟨upd_same, by rw [upd_ne npl.symm]; exact hl⟩
    · refine ⟨V.ref p, rfl, p, V.int k, rfl, gO, V.ref p, rfl, p, V.ref l, rfl, gC, l, ns.map V.int, rfl, .inl (.inl (.inl hl)), V.int k, V.int (ns.length : Nat), by rw [hlen], ?_⟩
      refine ⟨V.int k, rfl, k, 1, rfl, rfl, V.ref p, rfl, p, _, rfl, DPut.k (k := Sum.inr "begun") hd (by show 3 < sizeLine; decide), ?_⟩
      rw [pen_put_next]
      have s1 : SameBut p H (upd H p (.dK (pen l (k + 1) lf))) := upd_but H
      have hd1 : upd H p (.dK (pen l (k + 1) lf)) p = some (.dK (pen l (k + 1) lf)) := upd_same
      have hl1 : upd H p (.dK (pen l (k + 1) lf)) l = some (.lst (ns.map V.int)) := by
        rw [upd_ne npl.symm]
        exact hl
      generalize upd H p (.dK (pen l (k + 1) lf)) = H2 at s1 hd1 hl1
      have gC2 : DGet H2 p (.str "cells") (some (.ref l)) := by
        have z := DGet.k (k := Sum.inr "cells") hd1
        rw [pen_cells] at z
        exact z
      have S2 : SqL K H2 l (ns.map V.int) := .inl (.inl hl1)
      obtain ⟨c, hc1, hc2⟩ : ∃ c : Int, (0 < (ns.length : Int) → ∃ j : Nat, k % (ns.length : Int) = (j : Int) ∧ (ns.map V.int)[j]? = some (.int c)) ∧ (¬ 0 < (ns.length : Int) → c = 53 * k + 29) := by
        by_cases h0 : 0 < (ns.length : Int)
        · have hi0 : 0 ≤ k % (ns.length : Int) := Int.emod_nonneg _ (by omega)
          have hi1 : k % (ns.length : Int) < (ns.length : Int) := Int.emod_lt_of_pos _ (by omega)
          obtain ⟨j, hj⟩ : ∃ j : Nat, k % (ns.length : Int) = (j : Int) := ⟨(k % (ns.length : Int)).toNat, (Int.toNat_of_nonneg hi0).symm⟩
          obtain ⟨c, hc⟩ : ∃ c, ns[j]? = some c := ⟨_, List.getElem?_eq_getElem (by omega)⟩
          exact ⟨c, fun _ => ⟨j, hj, by rw [List.getElem?_map, hc]; all_goals rfl⟩, fun z => absurd h0 z⟩
        · exact ⟨_, fun z => absurd z h0, fun _ => rfl⟩
      refine ⟨V.int (ns.length : Nat), rfl, (ns.length : Nat), 0, rfl, rfl, _, rfl, if_val (z := V.int c) (fun h Q q => ?_) (fun h Q q => ?_) ?_⟩
      · obtain ⟨j, hj, hcV⟩ := hc1 (of_decide_eq_true h)
        exact ⟨V.ref p, rfl, p, V.ref l, rfl, gC2, V.int k, rfl, .inl ⟨k, rfl, V.int (ns.length : Nat), rfl, k, _, rfl, rfl, of_decide_eq_true h, l, ns.map V.int, _, .int c, rfl, rfl, S2, at_of hj hcV, q⟩⟩
      · have e := hc2 (of_decide_eq_false h)
        rw [e] at q
        exact ⟨V.int k, rfl, 53, k, rfl, rfl, .inl ⟨by decide, by decide⟩, _, 29, rfl, rfl, q⟩
      refine ⟨V.int k, rfl, V.int (ns.length : Nat), rfl, k, _, rfl, rfl, _, rfl, ?_⟩
      refine ite2 (fun c3 => ?_) (fun c3 => iteF ?_)
      refine ⟨V.int c, rfl, c, rfl, 10, 18, rfl, rfl, ⟨by decide, by decide, by decide⟩, _, _, rfl, rfl, _, rfl, ?_⟩
      refine ite2 (fun c4 => ?_) (fun c4 => ?_)
      · have c4' := of_decide_eq_true c4
        refine ⟨V.int c, rfl, c, rfl, 10, 18, rfl, rfl, ⟨by decide, by decide, by decide⟩, _, _, rfl, rfl, V.int b, rfl, _, b, rfl, rfl, ⟨hb0, by omega⟩, V.ref p, rfl, p, _, rfl, DPut.k (k := Sum.inr "left") hd1 (by show 3 < sizeLine; decide), ?_⟩
        rw [pen_put_left]
        refine ⟨V.int c, rfl, c, rfl, 10, 18, rfl, rfl, ⟨by decide, by decide, by decide⟩, _, _, rfl, rfl, .inl ⟨_, rfl, V.int b, rfl, _, b, rfl, rfl, hb0, ?_⟩⟩
        exact kk _ (k + 1) _ _ (Int.le_refl _) (by omega) (Int.ediv_nonneg (by omega) (Int.le_of_lt hb0)) (Int.emod_nonneg _ (by omega)) (Int.emod_lt_of_pos _ hb0) (s1.trans (upd_but H2)) ⟨upd_same, by rw [upd_ne npl.symm]; exact hl1⟩
      all_goals
        refine ⟨V.int c, rfl, .inl ⟨c, rfl, c, 4294967279, rfl, rfl, (by show (0 : Int) < 4294967279; decide), _, 50923, rfl, rfl, .inr ⟨by decide, by decide⟩, ?_⟩⟩
        refine ⟨V.int k, rfl, 31249, k, rfl, rfl, .inl ⟨by decide, by decide⟩, V.int k, rfl, _, k, rfl, rfl, .inr ⟨by omega, by omega⟩, _, _, rfl, rfl, _, 977, rfl, rfl, .inl ⟨_, rfl, _, 4294967291, rfl, rfl, (by show (0 : Int) < 4294967291; decide), ?_⟩⟩
        dsimp only
        have a0 : 0 ≤ (c % 4294967279 * 50923 + 31249 * k * k + 977) % 4294967291 := Int.emod_nonneg _ (by decide)
        have a1 : (c % 4294967279 * 50923 + 31249 * k * k + 977) % 4294967291 < 4294967291 := Int.emod_lt_of_pos _ (by decide)
        generalize (c % 4294967279 * 50923 + 31249 * k * k + 977) % 4294967291 = m at a0 a1
        refine ⟨V.int m, rfl, V.int m, rfl, m, m, rfl, rfl, .inl ⟨by omega, by omega⟩, V.int m, rfl, 70001, m, rfl, rfl, .inl ⟨by decide, by decide⟩, _, _, rfl, rfl, ?_⟩
        refine ⟨V.int k, rfl, 41, k, rfl, rfl, .inl ⟨by decide, by decide⟩, _, _, rfl, rfl, _, 13, rfl, rfl, .inl ⟨_, rfl, _, 4294967231, rfl, rfl, (by show (0 : Int) < 4294967231; decide), ?_⟩⟩
        dsimp only
        have b0' : 0 ≤ (m * m + 70001 * m + 41 * k + 13) % 4294967231 := Int.emod_nonneg _ (by decide)
        have b1' : (m * m + 70001 * m + 41 * k + 13) % 4294967231 < 4294967231 := Int.emod_lt_of_pos _ (by decide)
        generalize (m * m + 70001 * m + 41 * k + 13) % 4294967231 = u at b0' b1'
        refine ⟨V.int u, rfl, V.int u, rfl, u, 46237, rfl, rfl, u, _, rfl, rfl, .inl ⟨by omega, by omega⟩, .inl ⟨_, rfl, _, 4294967189, rfl, rfl, (by show (0 : Int) < 4294967189; decide), _, 64, rfl, rfl, ⟨by decide, by decide⟩, .inl ⟨_, rfl, V.int b, rfl, _, b, rfl, rfl, hb0, ?_⟩⟩⟩
        exact kk H2 (k + 1) lf _ (Int.le_refl _) (by omega) hf (Int.emod_nonneg _ (by omega)) (Int.emod_lt_of_pos _ hb0) s1 ⟨hd1, hl1⟩
end
/-! ### one of some things -/
theorem IxR.or {X : Cx} {r1 r2 : R2} (h1 : IxR X r1) (h2 : IxR X r2) : IxR X (fun x y H Q => r1 x y H Q ∨ r2 x y H Q) := by
  intro value slice pins s σ H x y v u Q I rx ry h hs
  rcases h with h | h
  · exact h1 value slice pins s σ H x y v u Q I rx ry h hs
  · exact h2 value slice pins s σ H x y v u Q I rx ry h hs
theorem CallR.or {X : Cx} {f : Value} {r1 r2 : List V → Hp → VK → Prop} (h1 : CallR X f r1) (h2 : CallR X f r2) : CallR X f (fun xs H Q => r1 xs H Q ∨ r2 xs H Q) := by
  intro pins s σ H xs us Q I r h
  rcases h with h | h
  · exact h1 pins s σ H xs us Q I r h
  · exact h2 pins s σ H xs us Q I r h
/-- a list or a text, and what stands in it -/
def Items (H : Hp) (v : V) (xs : List V) : Prop := (∃ a, v = .ref a ∧ H a = some (.lst xs)) ∨ ∃ z : Str, v = .str z ∧ xs = z.cps.toList.map fun c => V.str ⟨#[c]⟩
def spPick : Sp := fun vs H Q _ => ∃ (p l : Addr) (v : V) (ns : List Int) (k lf : Int) (xs : List V), vs = [.ref p, v] ∧ PenAt H p l ns k lf ∧ ns.length ≤ 63 ∧ 0 ≤ k ∧ k ≤ 100000 ∧ 0 ≤ lf ∧ Items H v xs ∧ 0 < xs.length ∧ xs.length ≤ 1000 ∧
  ∀ (H' : Hp) (k' lf' : Int) (y : V), k' ≤ k + 1 → 0 ≤ k' → 0 ≤ lf' → y ∈ xs → SameBut p H H' → PenAt H' p l ns k' lf' → Q y H'
section
variable {P : Program} {w : World} {K : PySem.W.Frag} {mg : Str → Option Value} {base : Heap} {f fD fP : Addr} {fd fdD fdP : FuncData}
theorem sc28 : FnScope ["pen", "menu"] ["pen", "menu"] (defScope (top 31)) := ⟨rfl, rfl, rfl, by decide +kernel, rfl, by decide +kernel, by decide +kernel⟩
theorem ok_pick (F : Fun K "_law_pick" "_law_pick" (top 31) f fd) (gN : mg "len" = none) (gD : mg "_law_draw" = some (.ref fD)) (kD : PySem.W.keepIn K (.ref fD) = true) (GD : FnOk P w K mg base CX0 1 fD fdD ["pen", "many"] spDraw)
    (bD : Binds K fdD ["pen", "many"] []) : FnOk P w K mg base CX0 2 f fd ["pen", "menu"] spPick := by
  refine F.ok sc28 (fun vs H Q E h => ?_) (fun cdv A outer s H vs Q E hr h => ?_)
  · obtain ⟨p, l, v, ns, k, lf, xs, rfl, _⟩ := h
    rfl
  · obtain ⟨p, l, v, ns, k, lf, xs, rfl, hp, hn, hk0, hk1, hf, hv, h0, h1, kk⟩ := h
    refine ⟨_, pss_one (ps_ret (pe_ix (IxR.or ix_list ix_str) (pv 1) (pe_call GD hr (by rfl) gD kD bD .nil pass0 (pa_cons (pv 0) (pa_cons (pe_callB (CallR.or call_len_seq call_len_str) (by rfl) gN PySem.boot_len (pa_cons (pv 1) pa_nil)) pa_nil))) (fun _ _ => rfl))), ?_⟩
    rcases hv with ⟨a, rfl, ha⟩ | ⟨z, rfl, rfl⟩
    · have nap : a ≠ p := ne_of ha hp.dc (by intro z; cases z)
      refine ⟨V.ref a, rfl, V.ref p, rfl, V.ref a, rfl, .inl ⟨a, xs, rfl, .inl (.inl (.inl ha)), p, l, ns, k, lf, _, rfl, hp, hn, hk0, hk1, hf, by omega, by omega, fun H' k' lf' d e1 e2 e3 e4 e5 s5 P5 => ?_⟩⟩
      obtain ⟨j, hj⟩ : ∃ j : Nat, d = (j : Int) := ⟨d.toNat, (Int.toNat_of_nonneg e4).symm⟩
      obtain ⟨v, hv⟩ : ∃ v, xs[j]? = some v := ⟨_, List.getElem?_eq_getElem (by omega)⟩
      exact .inl ⟨a, xs, d, v, rfl, rfl, .inl (.inl (s5 _ _ nap ha)), at_of hj hv, kk H' k' lf' v e1 e2 e3 (List.mem_of_getElem? hv) s5 P5⟩
    · rw [List.length_map] at h0 h1
      have ez : z.length = z.cps.toList.length := by rw [Array.length_toList]; rfl
      have hz : z.length ≤ sizeLine := by
        have t : (1000 : Nat) < sizeLine := by decide
        omega
      refine ⟨V.str z, rfl, V.ref p, rfl, V.str z, rfl, .inr ⟨z, rfl, hz, p, l, ns, k, lf, _, rfl, hp, hn, hk0, hk1, hf, by omega, by omega, fun H' k' lf' d e1 e2 e3 e4 e5 s5 P5 => ?_⟩⟩
      obtain ⟨j, hj⟩ : ∃ j : Nat, d = (j : Int) := ⟨d.toNat, (Int.toNat_of_nonneg e4).symm⟩
      obtain ⟨c, hc⟩ : ∃ c, z.cps.toList[j]? = some c := ⟨_, List.getElem?_eq_getElem (by omega)⟩
      exact .inr ⟨z, d, c, rfl, rfl, hz, (by rw [hj]; exact atI_nat hc), kk H' k' lf' _ e1 e2 e3 (List.mem_map.mpr ⟨c, List.mem_of_getElem? hc, rfl⟩) s5 P5⟩
end
end SK
namespace SK
open PySem PySem.Spec PyProof.Rows L2 LamX NdefX
open K0 (De DeAll XCl spX withX)
/-! ### drawn words and letters -/
def spWordOf : Sp := fun vs H Q _ => ∃ (p l : Addr) (ns : List Int) (k lf : Int) (ls : Str) (n : Nat), vs = [.ref p, .str ls, .int (n : Nat)] ∧ PenAt H p l ns k lf ∧ ns.length ≤ 63 ∧ 0 ≤ k ∧ k ≤ 90000 ∧ 0 ≤ lf ∧ 0 < ls.cps.size ∧ ls.cps.size ≤ 100 ∧ n ≤ 20 ∧
  ∀ (H' : Hp) (k' lf' : Int) (y : Str), k' ≤ k + n → 0 ≤ k' → 0 ≤ lf' → y.cps.size = n → (∀ c ∈ y.cps.toList, c ∈ ls.cps.toList) → SameBut p H H' → PenAt H' p l ns k' lf' → Q (.str y) H'
theorem sum_onesW : ∀ cs : List Nat, ((cs.map fun c => (⟨#[c]⟩ : Str)).map (·.length)).sum = cs.length
  | [] => rfl
  | c :: cs => by
    have ih := sum_onesW cs
    simp only [List.map_cons, List.sum_cons, List.length_cons]
    rw [ih]
    show 1 + cs.length = cs.length + 1
    omega
section
variable {P : Program} {w : World} {K : PySem.W.Frag} {mg : Str → Option Value} {base : Heap} {f fD fP : Addr} {fd fdD fdP : FuncData}
theorem ok_wordof (F : Fun K "_law_word_of" "_law_word_of" (top 32) f fd) (gR : mg "range" = none) (gP : mg "_law_pick" = some (.ref fP)) (kP : PySem.W.keepIn K (.ref fP) = true) (GP : FnOk P w K mg base CX0 2 fP fdP ["pen", "menu"] spPick) (bP : Binds K fdP ["pen", "menu"] []) :
    FnOk P w K mg base CX0 3 f fd ["pen", "letters", "size"] spWordOf := by
  have S0 : FnScope ["pen", "letters", "size", "k"] ["pen", "letters", "size"] (defScope (top 32)) := ⟨rfl, rfl, rfl, by decide +kernel, rfl, by decide +kernel, by decide +kernel⟩
  have nd := S0.nd
  refine F.ok S0 (fun vs H Q E h => ?_) (fun cdv A outer s H vs Q E hr h => ?_)
  · obtain ⟨p, l, ns, k, lf, ls, n, rfl, _⟩ := h
    rfl
  · obtain ⟨p, l, ns, k, lf, ls, n, rfl, hp, hn, hk0, hk1, hf, hl0, hl1, hn20, kk⟩ := h
    refine ⟨_, pss_one (ps_ret (pe_bm PySem.F.plainAttrs_str PySem.F.slot_str_join PySem.F.type_str_join mt_join pe_str (pa_cons (pe_lc (own := [("k", 3)]) (g := gName 3) (tt := tYes) rfl nd (pi_range1 (by rfl) gR (pa_cons (pv 2) pa_nil)) (blkOk_by (N := ["pen", "letters", "size", "k"]) (sc := defScope (top 32)) (by decide +kernel))
      (fun _ _ _ _ _ => pg_name (i := 3) nd rfl (Or.inl rfl)) (fun _ _ _ _ _ => pts_nil) (fun _ _ _ _ _ => pe_call GP hr (by rfl) gP kP bP .nil pass0 (pa_cons (pv 0) (pa_cons (pv 1) pa_nil)))) pa_nil))), ?_⟩
    refine ⟨rfl, V.int n, rfl, n, rfl, by omega, by omega, fun D nD => lc_it walk_range (fun i G => ∃ (k1 lf1 : Int) (cs : List Nat), SameBut p H G ∧ PenAt G p l ns k1 lf1 ∧ k1 ≤ k + i ∧ 0 ≤ k1 ∧ 0 ≤ lf1 ∧ G D = some (.lst (cs.map fun c => V.str ⟨#[c]⟩)) ∧ cs.length = i ∧ ∀ c ∈ cs, c ∈ ls.cps.toList)
      ⟨k, lf, [], .of (upd_new nD), ⟨upd_new nD _ _ hp.dc, upd_new nD _ _ hp.ls⟩, by omega, hk0, hf, upd_same, rfl, fun c hc => absurd hc (by simp)⟩ (fun _ _ _ _ => trivial) ?_ ?_⟩
    · rintro i y G G' hi ⟨k1, lf1, cs, sG, PG, a1, a2, a3, hD, hcl, hcs⟩ ⟨rfl, rfl⟩
      have hi2 : i < n := by
        have z : i < ((n : Nat) : Int).toNat := hi
        rw [Int.toNat_natCast] at z
        exact z
      have nDp : D ≠ p := ne_of hD PG.dc (by intro z; cases z)
      refine ⟨rfl, V.ref p, rfl, V.str ls, rfl, p, l, V.str ls, ns, k1, lf1, _, rfl, PG, hn, a2, by omega, a3, .inr ⟨ls, rfl, rfl⟩, ?_, ?_, fun G2 k2 lf2 y b1 b2 b3 hy s2 P2 => ?_⟩
      · rw [List.length_map, Array.length_toList]
        exact hl0
      · rw [List.length_map, Array.length_toList]
        omega
      obtain ⟨c, hc, rfl⟩ := List.mem_map.mp hy
      refine ⟨_, s2 _ _ nDp hD, (by rw [List.length_map, hcl]; exact Nat.lt_of_le_of_lt (show i ≤ 20 by omega) (by decide)), k2, lf2, cs ++ [c], ?_, ⟨?_, ?_⟩, by omega, b2, b3, ?_, by rw [List.length_append, hcl]; rfl, ?_⟩
      · intro b o hb e
        rw [upd_ne (ne_of_none e nD)]
        exact s2 _ _ hb (sG _ _ hb e)
      · rw [upd_ne (Ne.symm nDp)]
        exact P2.dc
      · rw [upd_ne (ne_of_none hp.ls nD)]
        exact P2.ls
      · rw [List.map_append]
        exact upd_same
      · intro d hd
        rcases List.mem_append.mp hd with hd | hd
        · exact hcs d hd
        · obtain rfl : d = c := by simpa using hd
          exact hc
    · rintro G ⟨k1, lf1, cs, sG, PG, a1, a2, a3, hD, hcl, hcs⟩
      rw [Int.toNat_natCast] at hcl a1
      have e : (cs.map fun c => V.str ⟨#[c]⟩) = (cs.map fun c => (⟨#[c]⟩ : Str)).map V.str := by rw [List.map_map]; rfl
      rw [e] at hD
      refine ⟨"", D, _, rfl, rfl, .inl (.inl (.inl hD)), ?_, ?_⟩
      · rw [sum_onesW, List.length_map]
        have z : (Str.ofString "").length = 0 := by decide +kernel
        rw [z]
        omega
      · rw [txt_join_chars]
        exact kk G k1 lf1 ⟨cs.toArray⟩ a1 a2 a3 (by simpa using hcl) (by simpa using hcs) sG PG
end
end SK
namespace SK
open PySem PySem.Spec PyProof.Rows L2 LamX NdefX
open K0 (De DeAll XCl spX withX)
/-! ### list(text) -/
def sgns (z : Str) : List V := z.cps.toList.map fun c => V.str ⟨#[c]⟩
theorem call_listS {X : Cx} (hc : X.calm = true) : CallR X (.type "list") (fun xs H Q => ∃ z : Str, xs = [.str z] ∧ z.cps.size ≤ sizeLine ∧ ∀ l, H l = none → Q (.ref l) (upd H l (.lst (sgns z)))) := by
  intro pins s σ H xs us Q I r h
  obtain ⟨z, rfl, hz, q⟩ := h
  obtain ⟨u, rfl, t, rfl⟩ := vals1 r
  refine PySem.call_list_str (I.ok.hd hc) z t (fun h' tk acc' c' kp e hacc => ?_) hz
  have hl : (sgns z).length = acc'.size := by
    unfold sgns
    rw [List.length_map, Array.length_toList, hacc.1]
  refine ⟨.ref s.heap.objs.size, upd H s.heap.objs.size (.lst (sgns z)), I.laid (t' := tk) kp (Nat.le_refl _) (show ObjOk X.prog X.w _ _ _ (.lst (sgns z)) from ⟨?_, acc'.toList, c', ?_, ?_⟩), rfl, q _ (I.hok.fresh (Nat.le_refl _))⟩
  · rw [hl, hacc.1]
    exact hz
  · refine vals_of_at (by rw [hl, Array.length_toList]) fun j x w h1 h2 => ?_
    obtain ⟨c, t', hcz, rfl⟩ := hacc.2 j w (by rw [← Array.getElem?_toList]; exact h2)
    unfold sgns at h1
    rw [List.getElem?_map, Array.getElem?_toList, hcz] at h1
    have e1 : V.str ⟨#[c]⟩ = x := Option.some.inj h1
    subst e1
    exact ⟨t', rfl⟩
  · simpa using e
theorem seq_ix {d : Int} {j n : Nat} (h : d = (j : Int)) (hj : j < n) : seqIndex? d n = some j := by
  subst h
  unfold seqIndex?
  have h1 : ¬ ((j : Int) < 0) := by omega
  have h2 : (j : Int) < (n : Int) := by omega
  simp [h1, h2, hj]
theorem map_erase {α β : Type} (f : α → β) : ∀ (l : List α) (j : Nat), (l.map f).eraseIdx j = (l.eraseIdx j).map f
  | [], _ => rfl
  | a :: l, 0 => rfl
  | a :: l, j + 1 => by
    show f a :: (l.map f).eraseIdx j = f a :: (l.eraseIdx j).map f
    rw [map_erase f l j]
theorem erase_perm {α : Type} : ∀ (l : List α) (j : Nat) (y : α), l[j]? = some y → (y :: l.eraseIdx j).Perm l
  | [], j, y, h => by simp at h
  | a :: l, 0, y, h => by
    have e : a = y := Option.some.inj h
    rw [e]
    exact List.Perm.refl _
  | a :: l, j + 1, y, h => by
    have ih := erase_perm l j y h
    show (y :: a :: l.eraseIdx j).Perm (a :: l)
    exact (List.Perm.swap a y _).trans (List.Perm.cons a ih)
/-! ### drawn letters -/
theorem alpha_nd : alpha.cps.toList.Nodup := by decide +kernel
theorem alpha_len : alpha.cps.toList.length = 26 := by decide +kernel
/-- letters of a tree -/
structure Lts (ls : Str) (n : Nat) : Prop where
  sz : ls.cps.size = n
  nd : ls.cps.toList.Nodup
  al : ∀ c ∈ ls.cps.toList, c ∈ alpha.cps.toList
def spLetters : Sp := fun vs H Q _ => ∃ (p l : Addr) (ns : List Int) (k lf : Int) (n : Nat), vs = [.ref p, .int (n : Nat)] ∧ PenAt H p l ns k lf ∧ ns.length ≤ 63 ∧ 0 ≤ k ∧ k ≤ 90000 ∧ 0 ≤ lf ∧ n ≤ 20 ∧
  ∀ (H' : Hp) (k' lf' : Int) (y : Str), k' ≤ k + n → 0 ≤ k' → 0 ≤ lf' → Lts y n → SameBut p H H' → PenAt H' p l ns k' lf' → Q (.str y) H'
section
variable {P : Program} {w : World} {K : PySem.W.Frag} {mg : Str → Option Value} {base : Heap} {f fD : Addr} {fd fdD : FuncData}
theorem ok_letters_of (F : Fun K "_law_letters_of" "_law_letters_of" (top 35) f fd) (gR : mg "range" = none) (gL : mg "list" = none) (gN : mg "len" = none) (gD : mg "_law_draw" = some (.ref fD)) (kD : PySem.W.keepIn K (.ref fD) = true) (GD : FnOk P w K mg base CX0 1 fD fdD ["pen", "many"] spDraw) (bD : Binds K fdD ["pen", "many"] []) :
    FnOk P w K mg base CX0 2 f fd ["pen", "many"] spLetters := by
  have S0 : FnScope ["pen", "many", "left", "found", "k"] ["pen", "many"] (defScope (top 35)) := ⟨rfl, rfl, rfl, by decide +kernel, rfl, by decide +kernel, by decide +kernel⟩
  have nd := S0.nd
  refine F.ok S0 (fun vs H Q E h => ?_) (fun cdv A outer s H vs Q E hr h => ?_)
  · obtain ⟨p, l, ns, k, lf, n, rfl, _⟩ := h
    rfl
  · obtain ⟨p, l, ns, k, lf, n, rfl, hp, hn, hk0, hk1, hf, hn20, kk⟩ := h
    refine ⟨_, pss_cons (ps_par (i := 2) (j := 3) rfl nd rfl rfl (by decide) rfl rfl (pa_cons (pe_callTy (call_listS rfl) (by rfl) gL PyProof.Rows.boot_list (pa_cons pe_str pa_nil)) (pa_cons pe_str pa_nil)) rfl)
      (pss_cons (ps_for PassesOwn.never rfl (pi_range1 (by rfl) gR (pa_cons (pv 1) pa_nil)) (pg_name (i := 4) nd rfl (Or.inl rfl))
        (pss_one (ps_set (i := 3) nd rfl (Or.inl rfl) (pe_op op_add_str (pv 3) (pe_bm PySem.F.plainAttrs_list PySem.F.slot_list_pop PySem.F.type_list_pop mt_popAt (pv 2) (pa_cons (pe_call GD hr (by rfl) gD kD bD .nil pass0 (pa_cons (pv 0) (pa_cons (pe_callB call_len_seq (by rfl) gN PySem.boot_len (pa_cons (pv 2) pa_nil)) pa_nil))) pa_nil))))))
      (pss_one (ps_ret (pv 3)))), ?_⟩
    refine ⟨alpha, rfl, by decide +kernel, fun r nr => ⟨V.ref r, V.str "", rfl, ?_⟩⟩
    have s0 := upd_new (o := .lst (sgns alpha)) nr
    have r0 : upd H r (.lst (sgns alpha)) r = some (.lst (sgns alpha)) := upd_same
    generalize upd H r (.lst (sgns alpha)) = H0 at s0 r0
    refine ⟨V.int n, rfl, n, rfl, by omega, by omega, for_it walk_range (fun i σ G => ∃ (k1 lf1 : Int) (cs zs : List Nat) (x4 : Option V), σ = [some (.ref p), some (.int (n : Nat)), some (.ref r), some (.str ⟨cs.toArray⟩), x4] ∧ k1 ≤ k + i ∧ 0 ≤ k1 ∧ 0 ≤ lf1 ∧ PenAt G p l ns k1 lf1 ∧ SameBut p H G ∧ G r = some (.lst (zs.map fun c => V.str ⟨#[c]⟩)) ∧ cs.length = i ∧ (cs ++ zs).Perm alpha.cps.toList)
      ⟨k, lf, [], alpha.cps.toList, none, rfl, by omega, hk0, hf, ⟨s0 _ _ hp.dc, s0 _ _ hp.ls⟩, .of s0, r0, rfl, List.Perm.refl _⟩ (fun _ _ _ _ _ => trivial) ?_ ?_⟩
    · rintro i x σ G G2 hi ⟨k1, lf1, cs, zs, x4, rfl, a1, a2, a3, PG, sG, hr0, hcl, hpm⟩ ⟨rfl, rfl⟩
      have hi2 : i < n := by
        have z : i < ((n : Nat) : Int).toNat := hi
        rw [Int.toNat_natCast] at z
        exact z
      have zl : cs.length + zs.length = 26 := by
        have z := hpm.length_eq
        rw [List.length_append, alpha_len] at z
        exact z
      have npr : r ≠ p := ne_of hr0 PG.dc (by intro z; cases z)
      have zm : (zs.map fun c => V.str ⟨#[c]⟩).length = zs.length := List.length_map _
      refine ⟨V.str ⟨cs.toArray⟩, rfl, V.ref r, rfl, .inl ⟨rfl, _, .inl (.inl hr0)⟩, V.ref p, rfl, V.ref r, rfl, r, _, rfl, .inl (.inl (.inl hr0)), p, l, ns, k1, lf1, _, rfl, PG, hn, a2, by omega, a3, by rw [zm]; omega, by rw [zm]; omega, fun G3 k3 lf3 d g1 g2 g3 g4 g5 s3 P3 => ?_⟩
      rw [zm] at g5
      obtain ⟨j, hj⟩ : ∃ j : Nat, d = (j : Int) := ⟨d.toNat, (Int.toNat_of_nonneg g4).symm⟩
      have hjl : j < zs.length := by omega
      obtain ⟨y, hy⟩ : ∃ y, zs[j]? = some y := ⟨_, List.getElem?_eq_getElem hjl⟩
      have hr3 := s3 _ _ npr hr0
      refine ⟨r, _, d, j, V.str ⟨#[y]⟩, rfl, rfl, hr3, by omega, by omega, seq_ix hj (by rw [zm]; exact hjl), (by rw [List.getElem?_map, hy]; all_goals rfl), ⟨cs.toArray⟩, ⟨#[y]⟩, rfl, rfl, ?_, ?_⟩
      · show cs.toArray.size + 1 ≤ sizeLine
        rw [List.size_toArray]
        exact Nat.le_trans (show cs.length + 1 ≤ 1000 by omega) (by decide)
      refine ⟨k3, lf3, cs ++ [y], zs.eraseIdx j, some (V.int (0 + (i : Int))), ?_, by omega, g2, g3, ⟨?_, ?_⟩, ?_, ?_, by rw [List.length_append, hcl]; rfl, ?_⟩
      · have e : (⟨cs.toArray⟩ : Str) ++ ⟨#[y]⟩ = ⟨(cs ++ [y]).toArray⟩ := by
          show (⟨cs.toArray ++ #[y]⟩ : Str) = _
          simp
        rw [e]
        rfl
      · rw [upd_ne (Ne.symm npr)]
        exact P3.dc
      · rw [upd_ne (ne_of_none hp.ls nr)]
        exact P3.ls
      · intro c o hc e
        have n1 : c ≠ r := fun z => by
          rw [z] at e
          rw [e] at nr
          cases nr
        rw [upd_ne n1]
        exact s3 _ _ hc (sG _ _ hc e)
      · rw [upd_same, map_erase]
      · have e : (y :: zs.eraseIdx j).Perm zs := erase_perm zs j y hy
        rw [List.append_assoc]
        exact (List.Perm.append_left cs e).trans hpm
    · rintro σ G ⟨k1, lf1, cs, zs, x4, rfl, a1, a2, a3, PG, sG, hr0, hcl, hpm⟩
      rw [Int.toNat_natCast] at hcl a1
      refine ⟨V.str ⟨cs.toArray⟩, rfl, kk G k1 lf1 ⟨cs.toArray⟩ a1 a2 a3 ⟨by simpa using hcl, ?_, ?_⟩ sG PG⟩
      · have z : (cs ++ zs).Nodup := hpm.nodup_iff.mpr alpha_nd
        exact (List.nodup_append.mp z).1
      · intro c hc
        exact hpm.subset (List.mem_append_left _ hc)
end
end SK
namespace SK
open PySem PySem.Spec PyProof.Rows L2 LamX NdefX
open K0 (De DeAll XCl spX withX)
/-! ### drawn spots -/
def SpK (H : Hp) : List (Key × V) → List Spot → Prop
  | [], [] => True
  | kv :: kvs, s :: S => (∃ t, kv = (.inr s.1, .ref t) ∧ H t = some (.tup [.bl s.2.1, .bl s.2.2])) ∧ SpK H kvs S
  | _, _ => False
theorem SpK.keep {H H' : Hp} (k : ∀ t xs, H t = some (.tup xs) → H' t = some (.tup xs)) : ∀ {kvs : List (Key × V)} {S : List Spot}, SpK H kvs S → SpK H' kvs S
  | [], [], _ => trivial
  | kv :: kvs, s :: S, ⟨⟨t, e, h⟩, r⟩ => ⟨⟨t, e, k _ _ h⟩, SpK.keep k r⟩
  | [], _ :: _, h => h.elim
  | _ :: _, [], h => h.elim
theorem SpK.keys {H : Hp} : ∀ {kvs : List (Key × V)} {S : List Spot}, SpK H kvs S → kvs.map Prod.fst = (plc S).map fun p => (Sum.inr p : Key)
  | [], [], _ => rfl
  | kv :: kvs, s :: S, ⟨⟨t, e, h⟩, r⟩ => by
    have ih := SpK.keys r
    unfold plc at ih ⊢
    rw [List.map_cons, List.map_cons, List.map_cons, ih, e]
  | [], _ :: _, h => h.elim
  | _ :: _, [], h => h.elim
theorem SpK.len {H : Hp} {kvs : List (Key × V)} {S : List Spot} (h : SpK H kvs S) : kvs.length = S.length := by
  have z := congrArg List.length h.keys
  unfold plc at z
  simpa using z
def putS (S : List Spot) (q : Spot) : List Spot := if q.1 ∈ plc S then S.map (fun s => if s.1 = q.1 then q else s) else S ++ [q]
theorem SpK.any {H : Hp} {kvs : List (Key × V)} {S : List Spot} (h : SpK H kvs S) (p : Str) : (kvs.any fun kv => decide (kv.1 = (.inr p : Key))) = decide (p ∈ plc S) := by
  have e : (kvs.any fun kv => decide (kv.1 = (.inr p : Key))) = (kvs.map Prod.fst).any fun k => decide (k = (.inr p : Key)) := by
    rw [List.any_map]
    rfl
  rw [e, h.keys, List.any_map]
  by_cases hp : p ∈ plc S
  · rw [decide_eq_true hp]
    exact List.any_eq_true.mpr ⟨p, hp, by simp⟩
  · rw [decide_eq_false hp, List.any_eq_false]
    intro d hd
    simp only [Function.comp, decide_eq_true_eq]
    intro z
    injection z with z
    exact hp (z ▸ hd)
theorem SpK.mapped {H : Hp} {q : Spot} {t : Addr} (ht : H t = some (.tup [.bl q.2.1, .bl q.2.2])) : ∀ {kvs : List (Key × V)} {S : List Spot}, SpK H kvs S → SpK H (kvs.map fun kv => if kv.1 = (.inr q.1 : Key) then (kv.1, .ref t) else kv) (S.map fun s => if s.1 = q.1 then q else s)
  | [], [], _ => trivial
  | kv :: kvs, s :: S, ⟨⟨u, e, h⟩, r⟩ => by
    refine ⟨?_, SpK.mapped ht r⟩
    subst e
    dsimp only
    by_cases c : s.1 = q.1
    · rw [if_pos c, if_pos (by rw [c])]
      exact ⟨t, by rw [c], ht⟩
    · rw [if_neg c, if_neg (fun z => c (by injection z))]
      exact ⟨u, rfl, h⟩
  | [], _ :: _, h => h.elim
  | _ :: _, [], h => h.elim
theorem SpK.snoc {H : Hp} {q : Spot} {t : Addr} (ht : H t = some (.tup [.bl q.2.1, .bl q.2.2])) : ∀ {kvs : List (Key × V)} {S : List Spot}, SpK H kvs S → SpK H (kvs ++ [(.inr q.1, .ref t)]) (S ++ [q])
  | [], [], _ => ⟨⟨t, rfl, ht⟩, trivial⟩
  | kv :: kvs, s :: S, ⟨a, r⟩ => ⟨a, SpK.snoc ht r⟩
  | [], _ :: _, h => h.elim
  | _ :: _, [], h => h.elim
theorem SpK.put {H : Hp} {q : Spot} {t : Addr} {kvs : List (Key × V)} {S : List Spot} (h : SpK H kvs S) (ht : H t = some (.tup [.bl q.2.1, .bl q.2.2])) : SpK H (putK kvs (.inr q.1) (.ref t)) (putS S q) := by
  unfold putK putS
  by_cases c : q.1 ∈ plc S
  · rw [if_pos c, if_pos (by rw [h.any, decide_eq_true c])]
    exact h.mapped ht
  · rw [if_neg c, if_neg (by rw [h.any, decide_eq_false c]; decide)]
    exact h.snoc ht
theorem plc_put (S : List Spot) (q : Spot) : plc (putS S q) = if q.1 ∈ plc S then plc S else plc S ++ [q.1] := by
  unfold putS
  by_cases c : q.1 ∈ plc S
  · rw [if_pos c, if_pos c]
    unfold plc
    rw [List.map_map]
    refine List.map_congr_left fun s _ => ?_
    show (if s.1 = q.1 then q else s).1 = s.1
    split
    · rename_i e
      exact e.symm
    · rfl
  · rw [if_neg c, if_neg c]
    unfold plc
    rw [List.map_append]
    rfl
theorem len_put (S : List Spot) (q : Spot) : (putS S q).length ≤ S.length + 1 := by
  unfold putS
  split
  · rw [List.length_map]
    omega
  · rw [List.length_append]
    simp
/-- what holds of the places -/
structure Gd (ls : Str) (S : List Spot) : Prop where
  nd : (plc S).Nodup
  root : Str.ofString "" ∈ plc S
  up : ∀ p ∈ plc S, p ≠ Str.ofString "" → initS p ∈ plc S
  sz : ∀ p ∈ plc S, p.cps.size ≤ 5
  al : ∀ p ∈ plc S, ∀ c ∈ p.cps.toList, c ∈ ls.cps.toList
theorem Gd.put {ls : Str} {S : List Spot} {q : Spot} (g : Gd ls S) (h1 : initS q.1 ∈ plc S) (h2 : q.1.cps.size ≤ 5) (h3 : ∀ c ∈ q.1.cps.toList, c ∈ ls.cps.toList) : Gd ls (putS S q) ∧ q.1 ∈ plc (putS S q) := by
  have e := plc_put S q
  by_cases c : q.1 ∈ plc S
  · rw [if_pos c] at e
    refine ⟨⟨?_, ?_, ?_, ?_, ?_⟩, ?_⟩ <;> rw [e]
    · exact g.nd
    · exact g.root
    · exact g.up
    · exact g.sz
    · exact g.al
    · exact c
  · rw [if_neg c] at e
    refine ⟨⟨?_, ?_, ?_, ?_, ?_⟩, ?_⟩ <;> rw [e]
    · exact List.nodup_append.mpr ⟨g.nd, by simp, fun a ha b hb z => by
        obtain rfl : b = q.1 := by simpa using hb
        exact c (z ▸ ha)⟩
    · exact List.mem_append_left _ g.root
    · intro p hp hn
      rcases List.mem_append.mp hp with hp | hp
      · exact List.mem_append_left _ (g.up p hp hn)
      · obtain rfl : p = q.1 := by simpa using hp
        exact List.mem_append_left _ h1
    · intro p hp
      rcases List.mem_append.mp hp with hp | hp
      · exact g.sz p hp
      · obtain rfl : p = q.1 := by simpa using hp
        exact h2
    · intro p hp
      rcases List.mem_append.mp hp with hp | hp
      · exact g.al p hp
      · obtain rfl : p = q.1 := by simpa using hp
        exact h3
    · simp
theorem pre_list (w : Str) (n : Nat) : (preS w n).cps.toList = w.cps.toList.take n := by
  unfold preS cutS
  rw [HT.sIx_none, HT.sIx_nat, List.drop_zero, Nat.sub_zero, List.toList_toArray]
  have e : w.length = w.cps.toList.length := by simp [Str.length]
  rw [e]
  by_cases h : n ≤ w.cps.toList.length
  · rw [Nat.min_eq_left h]
  · rw [Nat.min_eq_right (by omega), List.take_length, List.take_of_length_le (by omega)]
theorem str_ext {x y : Str} (h : x.cps.toList = y.cps.toList) : x = y := by
  obtain ⟨a⟩ := x
  obtain ⟨b⟩ := y
  have z : a.toList = b.toList := h
  obtain ⟨a⟩ := a
  obtain ⟨b⟩ := b
  have z : a = b := z
  rw [z]
theorem pre_init {w : Str} {n : Nat} (h : n + 1 ≤ w.cps.size) : initS (preS w (n + 1)) = preS w n := by
  refine str_ext ?_
  rw [pre_list]
  unfold initS
  rw [List.toList_toArray, pre_list, List.dropLast_eq_take, List.take_take, List.length_take, Array.length_toList]
  congr 1
  omega
theorem pre_zero (w : Str) : preS w 0 = Str.ofString "" := by
  refine str_ext ?_
  rw [pre_list, List.take_zero]
  decide +kernel
end SK
namespace SK
open PySem PySem.Spec PyProof.Rows L2 LamX NdefX
open K0 (De DeAll XCl spX withX)
theorem markedR {E : XK} {σ : L2.St} {H : Hp} {Q : VK} {p l : Addr} {ns : List Int} {k lf n : Int} {w : Str} (h0 : σ[0]? = some (some (V.ref p))) (h5 : σ[5]? = some (some (V.str w))) (h6 : σ[6]? = some (some (V.int n))) (hwl : w.length ≤ sizeLine) (hp : PenAt H p l ns k lf) (hn : ns.length ≤ 63) (hk0 : 0 ≤ k) (hk1 : k ≤ 99990) (hf : 0 ≤ lf)
    (kk : ∀ (G : Hp) (k' lf' : Int) (b : Bool), k' ≤ k + 2 → 0 ≤ k' → 0 ≤ lf' → SameBut p H G → PenAt G p l ns k' lf' → Q (.bl b) G) :
    tOrV (tAndV (tOp rEq (tVar 6) (tCB (fun xs H Q => ∃ z, xs = [V.str z] ∧ z.length ≤ sizeLine ∧ Q (.int z.length) H) (tCons (tVar 5) tNil))) (tOp (rI0 fun i j => .bl (decide (j < i))) (tCall spDraw [] E (tCons (tVar 0) (tCons (tC (.int 5)) tNil))) (tC (.int 2)))) (tOp rEq (tCall spDraw [] E (tCons (tVar 0) (tCons (tC (.int 6)) tNil))) (tC (.int 0))) σ H Q := by
  have last : ∀ (G : Hp) (k' lf' : Int), k' ≤ k + 1 → 0 ≤ k' → 0 ≤ lf' → SameBut p H G → PenAt G p l ns k' lf' → tOp rEq (tCall spDraw [] E (tCons (tVar 0) (tCons (tC (.int 6)) tNil))) (tC (.int 0)) σ G Q := fun G k' lf' e1 e2 e3 s P => ⟨V.ref p, h0, p, l, ns, k', lf', 6, rfl, P, hn, e2, by omega, e3, by decide, by decide, fun G2 k2 lf2 d g1 g2 g3 g4 g5 s2 P2 => ⟨rfl, kk G2 k2 lf2 _ (by omega) g2 g3 (s.trans s2) P2⟩⟩
  refine ⟨V.int n, h6, V.str w, h5, w, rfl, hwl, rfl, _, rfl, ?_⟩
  refine ite2 (fun _ => ?_) (fun _ => ?_)
  · refine ⟨V.ref p, h0, p, l, ns, k, lf, 5, rfl, hp, hn, hk0, by omega, hf, by decide, by decide, fun G1 k1 lf1 d g1 g2 g3 g4 g5 s1 P1 => ⟨d, 2, rfl, rfl, _, rfl, ?_⟩⟩
    refine ite2 (fun _ => kk G1 k1 lf1 true (by omega) g2 g3 s1 P1) (fun _ => last G1 k1 lf1 g1 g2 g3 s1 P1)
  · exact ⟨false, rfl, iteF (last H k lf (by omega) hk0 hf (fun _ _ _ e => e) hp)⟩
def spSpots : Sp := fun vs H Q _ => ∃ (p l : Addr) (ns : List Int) (k lf : Int) (ls : Str), vs = [.ref p, .str ls, .int 5] ∧ PenAt H p l ns k lf ∧ ns.length ≤ 63 ∧ 0 ≤ k ∧ k ≤ 80000 ∧ 0 ≤ lf ∧ 0 < ls.cps.size ∧ ls.cps.size ≤ 26 ∧
  ∀ (H' : Hp) (k' lf' : Int) (d : Addr) (kvs : List (Key × V)) (S : List Spot), k' ≤ k + 200 → 0 ≤ k' → 0 ≤ lf' → SameBut p H H' → PenAt H' p l ns k' lf' → H d = none → H' d = some (.dK kvs) → SpK H' kvs S → Gd ls S → S.length ≤ 40 → Q (.ref d) H'
abbrev NP : List Str := ["pen", "letters", "most", "found", "k", "word", "size", "marked"]
section
variable {P : Program} {w : World} {K : PySem.W.Frag} {mg : Str → Option Value} {base : Heap} {f fD fW : Addr} {fd fdD fdW : FuncData}
theorem ok_spots (F : Fun K "_law_spots_drawn" "_law_spots_drawn" (top 36) f fd) (gR : mg "range" = none) (gN : mg "len" = none) (gD : mg "_law_draw" = some (.ref fD)) (kD : PySem.W.keepIn K (.ref fD) = true) (GD : FnOk P w K mg base CX0 1 fD fdD ["pen", "many"] spDraw) (bD : Binds K fdD ["pen", "many"] [])
    (gW : mg "_law_word_of" = some (.ref fW)) (kW : PySem.W.keepIn K (.ref fW) = true) (GW : FnOk P w K mg base CX0 3 fW fdW ["pen", "letters", "size"] spWordOf) (bW : Binds K fdW ["pen", "letters", "size"] []) : FnOk P w K mg base CX0 4 f fd ["pen", "letters", "most"] spSpots := by
  have S0 : FnScope NP ["pen", "letters", "most"] (defScope (top 36)) := ⟨rfl, rfl, rfl, by decide +kernel, rfl, by decide +kernel, by decide +kernel⟩
  have nd := S0.nd
  refine F.ok S0 (fun vs H Q E h => ?_) (fun cdv A outer s H vs Q E hr h => ?_)
  · obtain ⟨p, l, ns, k, lf, ls, rfl, _⟩ := h
    rfl
  · obtain ⟨p, l, ns, k, lf, ls, rfl, hp, hn, hk0, hk1, hf, hl0, hl1, kk⟩ := h
    have hu := hu_of hr
    have hr1 : Room 1 _ := hr.mono (by decide)
    refine ⟨_, pss_cons (ps_set (i := 3) nd rfl (Or.inl rfl) (pe_disp (pps_cons pe_str (pe_tup (pa_cons (pe_cmpR op_eq (pe_call GD hr1 (by rfl) gD kD bD .nil pass0 (pa_cons (pv 0) (pa_cons pe_int pa_nil))) pe_int (nomark _)) (pa_cons (pe_cmpR op_eq (pe_call GD hr1 (by rfl) gD kD bD .nil pass0 (pa_cons (pv 0) (pa_cons pe_int pa_nil))) pe_int (nomark _)) pa_nil))) pps_nil) (by rfl) (by rfl) (fun z => by cases z) (by decide)))
      (pss_cons (ps_for PassesOwn.never rfl (pi_range1 (by rfl) gR (pa_cons (pe_call GD hr1 (by rfl) gD kD bD .nil pass0 (pa_cons (pv 0) (pa_cons pe_int pa_nil))) pa_nil)) (pg_name (i := 4) nd rfl (Or.inl rfl))
        (pss_cons (ps_set (i := 5) nd rfl (Or.inl rfl) (pe_call GW hr (by rfl) gW kW bW .nil pass0 (pa_cons (pv 0) (pa_cons (pv 1) (pa_cons (pe_call GD hr1 (by rfl) gD kD bD .nil pass0 (pa_cons (pv 0) (pa_cons (pe_op op_add (pv 2) pe_int) pa_nil))) pa_nil)))))
        (pss_one (ps_for PassesOwn.never rfl (pi_range2 (by rfl) gR (pa_cons pe_int (pa_cons (pe_op op_add (pe_callB call_len_str (by rfl) gN PySem.boot_len (pa_cons (pv 5) pa_nil)) pe_int) pa_nil))) (pg_name (i := 6) nd rfl (Or.inl rfl))
          (pss_cons (ps_set (i := 7) nd rfl (Or.inl rfl) (pe_or (pe_and (pe_cmpR op_eq (pv 6) (pe_callB call_len_str (by rfl) gN PySem.boot_len (pa_cons (pv 5) pa_nil)) (nomark _)) (pe_one (pe_cmpR op_gt (pe_call GD hr1 (by rfl) gD kD bD .nil pass0 (pa_cons (pv 0) (pa_cons pe_int pa_nil))) pe_int (nomark _)))) (pe_one (pe_cmpR op_eq (pe_call GD hr1 (by rfl) gD kD bD .nil pass0 (pa_cons (pv 0) (pa_cons pe_int pa_nil))) pe_int (nomark _)))))
          (pss_one (ps_dput hu (pv 3) (pe_slice sl_str (pv 5) po_none (po_some (pv 6))) (pe_tup (pa_cons (pv 7) (pa_cons (pe_cmpR op_eq (pe_call GD hr1 (by rfl) gD kD bD .nil pass0 (pa_cons (pv 0) (pa_cons pe_int pa_nil))) pe_int (nomark _)) pa_nil))) rfl)))))))
      (pss_one (ps_ret (pv 3)))), ?_⟩
    intro d0 nd0
    have P0 : PenAt (upd H d0 (.dK [])) p l ns k lf := ⟨by rw [upd_ne (ne_of_none hp.dc nd0)]; exact hp.dc, by rw [upd_ne (ne_of_none hp.ls nd0)]; exact hp.ls⟩
    have hd0 : upd H d0 (.dK []) d0 = some (.dK []) := upd_same
    have s0 : Same H (upd H d0 (.dK [])) := upd_new nd0
    have n0p : d0 ≠ p := fun z => by
      rw [z, hp.dc] at nd0
      cases nd0
    have n0l : d0 ≠ l := fun z => by
      rw [z, hp.ls] at nd0
      cases nd0
    generalize upd H d0 (.dK []) = H0 at P0 hd0 s0
    refine ⟨V.ref p, rfl, p, l, ns, k, lf, 2, rfl, P0, hn, hk0, by omega, hf, by decide, by decide, fun G1 k1 lf1 a a1 a2 a3 a4 a5 s1 P1 => ⟨rfl, V.ref p, rfl, p, l, ns, k1, lf1, 4, rfl, P1, hn, a2, by omega, a3, by decide, by decide, fun G2 k2 lf2 b b1 b2 b3 b4 b5 s2 P2 => ⟨rfl, (by show 2 ≤ sizeLine; decide), fun t nt => ?_⟩⟩⟩
    have hd2 : G2 d0 = some (.dK []) := s2 _ _ n0p (s1 _ _ n0p hd0)
    have s3 := upd_new (o := .tup [V.bl (decide (V.int a = V.int 0)), V.bl (decide (V.int b = V.int 0))]) nt
    have ht3 : upd G2 t (.tup [V.bl (decide (V.int a = V.int 0)), V.bl (decide (V.int b = V.int 0))]) t = some (.tup [V.bl (decide (V.int a = V.int 0)), V.bl (decide (V.int b = V.int 0))]) := upd_same
    refine ⟨s3 _ _ hd2, [(.inr (Str.ofString ""), .ref t)], rfl, by show 1 ≤ 15; decide, ?_⟩
    have n0t : t ≠ d0 := fun z => by
      rw [z, hd2] at nt
      cases nt
    have em : mergeK [] [((.inr (Str.ofString "") : Key), V.ref t)] = [(.inr (Str.ofString ""), V.ref t)] := by kernel_rfl
    rw [em]
    have P3 : PenAt (upd G2 t (.tup [V.bl (decide (V.int a = V.int 0)), V.bl (decide (V.int b = V.int 0))])) p l ns k2 lf2 := ⟨s3 _ _ P2.dc, s3 _ _ P2.ls⟩
    have t03 : SameBut p H (upd G2 t (.tup [V.bl (decide (V.int a = V.int 0)), V.bl (decide (V.int b = V.int 0))])) := fun b o hb e => s3 _ _ (s2 _ _ hb (s1 _ _ hb (s0 _ _ e)))
    generalize upd G2 t (.tup [V.bl (decide (V.int a = V.int 0)), V.bl (decide (V.int b = V.int 0))]) = G3 at s3 ht3 P3 t03
    -- what is kept by a store into the dict
    have store : ∀ {G : Hp} {k' lf' : Int} {kv : List (Key × V)}, PenAt G p l ns k' lf' → SameBut p H G → PenAt (upd G d0 (.dK kv)) p l ns k' lf' ∧ SameBut p H (upd G d0 (.dK kv)) := fun {G k' lf' kv} P s => ⟨⟨by rw [upd_ne n0p.symm]; exact P.dc, by rw [upd_ne n0l.symm]; exact P.ls⟩, fun b o hb e => by rw [upd_ne (ne_of_none e nd0)]; exact s _ _ hb e⟩
    obtain ⟨P4, t04⟩ := store (kv := [(.inr (Str.ofString ""), V.ref t)]) P3 t03
    have hd4 : upd G3 d0 (.dK [(.inr (Str.ofString ""), V.ref t)]) d0 = some (.dK [(.inr (Str.ofString ""), V.ref t)]) := upd_same
    have sp4 : SpK (upd G3 d0 (.dK [(.inr (Str.ofString ""), V.ref t)])) [(.inr (Str.ofString ""), V.ref t)] [(Str.ofString "", decide (V.int a = V.int 0), decide (V.int b = V.int 0))] := ⟨⟨t, rfl, by rw [upd_ne n0t]; exact ht3⟩, trivial⟩
    have gd4 : Gd ls [(Str.ofString "", decide (V.int a = V.int 0), decide (V.int b = V.int 0))] := by
      have e : plc [((Str.ofString "", decide (V.int a = V.int 0), decide (V.int b = V.int 0)) : Spot)] = [Str.ofString ""] := rfl
      refine ⟨?_, ?_, ?_, ?_, ?_⟩ <;> rw [e]
      · simp
      · simp
      · intro q hq hne
        exact absurd (by simpa using hq) hne
      · intro q hq
        obtain rfl : q = Str.ofString "" := by simpa using hq
        decide +kernel
      · intro q hq c hc
        obtain rfl : q = Str.ofString "" := by simpa using hq
        have z : (Str.ofString "").cps.toList = [] := by decide +kernel
        rw [z] at hc
        cases hc
    generalize upd G3 d0 (.dK [(.inr (Str.ofString ""), V.ref t)]) = G4 at P4 t04 hd4 sp4
    refine ⟨V.ref p, rfl, p, l, ns, k2, lf2, 7, rfl, P4, hn, b2, by omega, b3, by decide, by decide, fun G5 k5 lf5 m c1 c2 c3 c4 c5 s5 P5 => ⟨m, rfl, by omega, by omega, for_it walk_range (fun i σ G => ∃ (kvs : List (Key × V)) (S : List Spot) (x4 x5 x6 x7 : Option V) (k6 lf6 : Int), σ = [some (.ref p), some (.str ls), some (.int 5), some (.ref d0), x4, x5, x6, x7] ∧ k6 ≤ k5 + 25 * i ∧ 0 ≤ k6 ∧ 0 ≤ lf6 ∧ PenAt G p l ns k6 lf6 ∧ SameBut p H G ∧ G d0 = some (.dK kvs) ∧ SpK G kvs S ∧ Gd ls S ∧ S.length ≤ 1 + 5 * i)
      ⟨_, _, none, none, none, none, k5, lf5, rfl, by omega, c2, c3, P5, t04.trans s5, s5 _ _ n0p hd4, sp4.keep (fun t xs h => s5 _ _ (ne_of h P4.dc (by intro z; cases z)) h), gd4, by show 1 ≤ _; omega⟩ (fun _ _ _ _ _ => trivial) ?_ ?_⟩⟩
    · rintro i x σ G G' hi ⟨kvs, S, x4, x5, x6, x7, k6, lf6, rfl, e1, e2, e3, PG, sG, hdG, spG, gdG, szG⟩ ⟨rfl, rfl⟩
      have hi6 : i < 7 := by
        have z : i < m.toNat := hi
        omega
      refine ⟨V.ref p, rfl, V.str ls, rfl, V.ref p, rfl, V.int 5, rfl, 5, 1, rfl, rfl, p, l, ns, k6, lf6, _, rfl, PG, hn, e2, by omega, e3, by decide, by decide, fun G7 k7 lf7 n g1 g2 g3 g4 g5 s7 P7 => ?_⟩
      have g5 : n < 6 := g5
      obtain ⟨N, rfl⟩ : ∃ N : Nat, n = (N : Int) := ⟨n.toNat, (Int.toNat_of_nonneg g4).symm⟩
      refine ⟨p, l, ns, k7, lf7, ls, N, rfl, P7, hn, g2, by omega, g3, hl0, by omega, by omega, fun G8 k8 lf8 w w1 w2 w3 hw hc s8 P8 => ?_⟩
      have hwl : w.length ≤ sizeLine := Nat.le_trans (show w.cps.size ≤ 20 by omega) (by decide)
      have hwn : w.length = w.cps.size := rfl
      have s68 := s7.trans s8
      refine ⟨V.str w, rfl, w, rfl, hwl, w.length, 1, rfl, rfl, 1, _, rfl, ⟨by decide, by decide, by rw [hwn]; omega, by rw [hwn]; omega⟩, for_it walk_range (fun q σ G => ∃ (kvs : List (Key × V)) (S : List Spot) (x6 x7 : Option V) (k9 lf9 : Int), σ = [some (.ref p), some (.str ls), some (.int 5), some (.ref d0), some (.int (0 + (i : Int))), some (.str w), x6, x7] ∧ k9 ≤ k8 + 3 * q ∧ 0 ≤ k9 ∧ 0 ≤ lf9 ∧ PenAt G p l ns k9 lf9 ∧ SameBut p H G ∧ G d0 = some (.dK kvs) ∧ SpK G kvs S ∧ Gd ls S ∧ S.length ≤ 1 + 5 * i + q ∧ preS w q ∈ plc S)
        ⟨kvs, S, _, _, k8, lf8, rfl, by omega, w2, w3, P8, sG.trans s68, s68 _ _ n0p hdG, spG.keep (fun t xs h => s68 _ _ (ne_of h PG.dc (by intro z; cases z)) h), gdG, by omega, by rw [pre_zero]; exact gdG.root⟩ (fun _ _ _ _ _ => trivial) ?_ ?_⟩
      · rintro q y σ G9 G10 hq ⟨kv9, S9, y6, y7, k9, lf9, rfl, f1, f2, f3, P9, s9, hd9, sp9, gd9, sz9, hpre⟩ ⟨rfl, rfl⟩
        have hq2 : q < w.cps.size := by
          have z : q < ((w.length : Int) + 1 - 1).toNat := hq
          rw [hwn] at z
          omega
        have e0 : (1 + (q : Int)) = ((q + 1 : Nat) : Int) := by omega
        dsimp only [gName]
        rw [e0]
        apply markedR (p := p) (l := l) (ns := ns) (k := k9) (lf := lf9) (n := ((q + 1 : Nat) : Int)) (w := w)
        · rfl
        · rfl
        · rfl
        · exact hwl
        · exact P9
        · exact hn
        · exact f2
        · omega
        · exact f3
        · intro G11 k11 lf11 bm h1 h2 h3 s11 P11
          refine ⟨V.bl bm, rfl, V.ref p, rfl, p, l, ns, k11, lf11, 4, rfl, P11, hn, h2, by omega, h3, by decide, by decide, fun G12 k12 lf12 d j1 j2 j3 j4 j5 s12 P12 => ⟨rfl, (by show 2 ≤ sizeLine; decide), fun t nt => ?_⟩⟩
          have s912 := s11.trans s12
          have hd12 := s912 _ _ n0p hd9
          have sp12 := sp9.keep (H' := G12) (fun t xs h => s912 _ _ (ne_of h P9.dc (by intro z; cases z)) h)
          have sb := s9.trans s912
          have s13 := upd_new (o := .tup [V.bl bm, V.bl (decide (V.int d = V.int 0))]) nt
          have ht13 : upd G12 t (.tup [V.bl bm, V.bl (decide (V.int d = V.int 0))]) t = some (.tup [V.bl bm, V.bl (decide (V.int d = V.int 0))]) := upd_same
          have hd13 := s13 _ _ hd12
          have sp13 := sp12.keep (fun t xs h => s13 _ _ h)
          have P13 : PenAt (upd G12 t (.tup [V.bl bm, V.bl (decide (V.int d = V.int 0))])) p l ns k12 lf12 := ⟨s13 _ _ P12.dc, s13 _ _ P12.ls⟩
          have sb13 : SameBut p H (upd G12 t (.tup [V.bl bm, V.bl (decide (V.int d = V.int 0))])) := fun b o hb e => s13 _ _ (sb _ _ hb e)
          generalize upd G12 t (.tup [V.bl bm, V.bl (decide (V.int d = V.int 0))]) = G13 at s13 ht13 hd13 sp13 P13 sb13
          have kl : kv9.length < sizeLine := by
            rw [sp9.len]
            exact Nat.lt_of_le_of_lt (show S9.length ≤ 1000 by omega) (by decide)
          refine ⟨V.ref d0, rfl, V.str w, rfl, V.int ((q + 1 : Nat) : Int), rfl, _, rfl, w, rfl, hwl, d0, _, rfl, DPut.k (k := (.inr (preS w (q + 1)) : Key)) hd13 kl, ?_⟩
          obtain ⟨P14, sb14⟩ := store (kv := putK kv9 (.inr (preS w (q + 1))) (.ref t)) P13 sb13
          have sp14 : SpK (upd G13 d0 (.dK (putK kv9 (.inr (preS w (q + 1))) (.ref t)))) (putK kv9 (.inr (preS w (q + 1))) (.ref t)) (putS S9 (preS w (q + 1), bm, decide (V.int d = V.int 0))) := by
            refine SpK.keep (fun u xs h => ?_) (SpK.put (q := (preS w (q + 1), bm, decide (V.int d = V.int 0))) sp13 ht13)
            rw [upd_ne (ne_of h hd13 (by intro z; cases z))]
            exact h
          have mem : ∀ c ∈ (preS w (q + 1)).cps.toList, c ∈ ls.cps.toList := fun c hcc => by
            rw [pre_list] at hcc
            exact hc c (List.mem_of_mem_take hcc)
          have psz : (preS w (q + 1)).cps.size ≤ 5 := by
            have z : (preS w (q + 1)).cps.toList.length ≤ 5 := by
              rw [pre_list, List.length_take, Array.length_toList]
              omega
            rw [Array.length_toList] at z
            exact z
          obtain ⟨gd14, m14⟩ := gd9.put (q := (preS w (q + 1), bm, decide (V.int d = V.int 0))) (by rw [pre_init hq2]; exact hpre) psz mem
          have l14 := len_put S9 (preS w (q + 1), bm, decide (V.int d = V.int 0))
          exact ⟨_, _, _, _, k12, lf12, rfl, by omega, j2, j3, P14, sb14, upd_same, sp14, gd14, by omega, m14⟩
      · rintro σ G9 ⟨kv9, S9, y6, y7, k9, lf9, rfl, f1, f2, f3, P9, s9, hd9, sp9, gd9, sz9, hpre⟩
        have zq : ((w.length : Int) + 1 - 1).toNat = N := by
          rw [hwn]
          omega
        rw [zq] at f1 sz9
        exact ⟨kv9, S9, _, _, _, _, k9, lf9, rfl, by omega, f2, f3, P9, s9, hd9, sp9, gd9, by omega⟩
    · rintro σ G ⟨kvs, S, x4, x5, x6, x7, k6, lf6, rfl, e1, e2, e3, PG, sG, hdG, spG, gdG, szG⟩
      have zm : m.toNat ≤ 6 := by omega
      exact ⟨V.ref d0, rfl, kk G k6 lf6 d0 kvs S (by omega) e2 e3 sG PG nd0 hdG spG gdG (by omega)⟩
end
end SK
namespace SK
open PySem PySem.Spec PyProof.Rows L2 LamX NdefX
/-! ### the law's cells and the program's -/
theorem sw_list (a b : Str) : Txt.startswith a b = true ↔ b.cps.toList = a.cps.toList.take b.cps.toList.length := by
  unfold Txt.startswith
  rw [Bool.and_eq_true, decide_eq_true_eq]
  have e1 : a.length = a.cps.size := rfl
  have e2 : b.length = b.cps.size := rfl
  have e3 : b.cps.toList.length = b.cps.size := Array.length_toList
  have e4 : a.cps.toList.length = a.cps.size := Array.length_toList
  rw [e1, e2, Nat.zero_add, StrLaws.subAt_eq]
  constructor
  · rintro ⟨h1, h2⟩
    have h3 := eq_of_beq h2
    rw [e3]
    exact h3.symm
  · intro h
    have z := congrArg List.length h
    rw [List.length_take, e3, e4] at z
    refine ⟨by omega, beq_iff_eq.mpr ?_⟩
    rw [e3] at h
    exact h.symm
theorem lcp_ley : ∀ x y : List Nat, lcp x y ≤ y.length
  | [], y => by simp [lcp]
  | _ :: _, [] => by simp [lcp]
  | a :: x, b :: y => by
    unfold lcp
    split
    · have := lcp_ley x y
      simp
      omega
    · simp
theorem lcp_take : ∀ x y : List Nat, x.take (lcp x y) = y.take (lcp x y)
  | [], y => by simp [lcp]
  | _ :: _, [] => by simp [lcp]
  | a :: x, b :: y => by
    unfold lcp
    split
    · rename_i e
      rw [List.take_succ_cons, List.take_succ_cons, e, lcp_take x y]
    · simp
theorem lcp_ne : ∀ x y : List Nat, lcp x y < x.length → lcp x y < y.length → x[lcp x y]? ≠ y[lcp x y]?
  | [], y, h, _ => absurd h (by simp)
  | _ :: _, [], _, h => absurd h (by simp)
  | a :: x, b :: y, h1, h2 => by
    unfold lcp at h1 h2 ⊢
    by_cases e : a = b
    · rw [if_pos e] at h1 h2 ⊢
      rw [List.getElem?_cons_succ, List.getElem?_cons_succ]
      exact lcp_ne x y (by simpa using h1) (by simpa using h2)
    · rw [if_neg e]
      intro z
      exact e (Option.some.inj z)
theorem lcp_eq (x y : List Nat) (n : Nat) (ht : x.take n = y.take n) (hx : n ≤ x.length) (hy : n ≤ y.length) (hne : n < x.length → n < y.length → x[n]? ≠ y[n]?) : lcp x y = n := by
  have same : ∀ j, j < n → x[j]? = y[j]? := fun j hj => by
    have z := congrArg (fun l : List Nat => l[j]?) ht
    simp only [List.getElem?_take_of_lt hj] at z
    exact z
  by_cases h1 : n < x.length
  · by_cases h2 : n < y.length
    · exact lcp_at x y n h1 h2 same (hne h1 h2)
    · have e : min x.length y.length = n := by omega
      rw [lcp_min x y (fun j hj => same j (by omega)), e]
  · have e : min x.length y.length = n := by omega
    rw [lcp_min x y (fun j hj => same j (by omega)), e]
theorem pre_self (p : Str) : preS p p.cps.toList.length = p := by
  refine str_ext ?_
  rw [pre_list, List.take_length]
theorem up_all {ls : Str} {S : List Spot} (g : Gd ls S) {p : Str} (hp : p ∈ plc S) : ∀ d, d ≤ p.cps.toList.length → preS p (p.cps.toList.length - d) ∈ plc S
  | 0, _ => by
    rw [Nat.sub_zero, pre_self]
    exact hp
  | d + 1, h => by
    have ih := up_all g hp d (by omega)
    have ek : p.cps.toList.length - d = (p.cps.toList.length - (d + 1)) + 1 := by omega
    rw [ek] at ih
    have sz : p.cps.toList.length = p.cps.size := Array.length_toList
    have e := pre_init (w := p) (n := p.cps.toList.length - (d + 1)) (by omega)
    rw [← e]
    refine g.up _ ih fun z => ?_
    have z2 := congrArg (fun y : Str => y.cps.toList.length) z
    simp only [pre_list, List.length_take] at z2
    have z3 : (Str.ofString "").cps.toList.length = 0 := by decide +kernel
    rw [z3] at z2
    omega
theorem up_pre {ls : Str} {S : List Spot} (g : Gd ls S) {p : Str} (hp : p ∈ plc S) {k : Nat} (h : k ≤ p.cps.toList.length) : preS p k ∈ plc S := by
  have z := up_all g hp (p.cps.toList.length - k) (by omega)
  have e : p.cps.toList.length - (p.cps.toList.length - k) = k := by omega
  rw [e] at z
  exact z
/-- one of the other children, as the law asks -/
def othP (w : Str) (n : Nat) (r : Str) : Bool := (decide (r.cps.size = n + 1) && Txt.startswith r (preS w n)) && (!decide (r = preS w (n + 1)) || decide (n = w.cps.size))
theorem othP_iff (w r : Str) {n : Nat} (hn : n ≤ w.cps.toList.length) : othP w n r = true ↔ r.cps.toList.length = n + 1 ∧ r.cps.toList.take n = w.cps.toList.take n ∧ (n < w.cps.toList.length → r.cps.toList[n]? ≠ w.cps.toList[n]?) := by
  have rz : r.cps.toList.length = r.cps.size := Array.length_toList
  have wz : w.cps.toList.length = w.cps.size := Array.length_toList
  have pl : (preS w n).cps.toList.length = n := by
    rw [pre_list, List.length_take]
    omega
  unfold othP
  rw [Bool.and_eq_true, Bool.and_eq_true, Bool.or_eq_true, decide_eq_true_eq, decide_eq_true_eq, sw_list, pl, pre_list, Bool.not_eq_true', decide_eq_false_iff_not, ← rz, ← wz]
  constructor
  · rintro ⟨⟨h1, h2⟩, h3⟩
    refine ⟨h1, h2.symm, fun hlt hq => ?_⟩
    rcases h3 with h3 | h3
    · refine h3 (str_ext ?_)
      rw [pre_list]
      have hr : r.cps.toList = r.cps.toList.take (n + 1) := by rw [List.take_of_length_le (by omega)]
      rw [hr, List.take_add_one, List.take_add_one, ← h2, hq]
    · omega
  · rintro ⟨h1, h2, h3⟩
    refine ⟨⟨h1, h2.symm⟩, ?_⟩
    by_cases hlt : n < w.cps.toList.length
    · refine .inl fun z => h3 hlt ?_
      rw [z, pre_list, List.getElem?_take_of_lt (Nat.lt_succ_self n)]
    · exact .inr (by omega)
/-- whether a kept word leaves there -/
theorem leaf_iff {ls : Str} {S : List Spot} (g : Gd ls S) {w : Str} {n : Nat} (hn : n ≤ w.cps.toList.length) : leaf S w n = ((plc S).filter (othP w n)).any fun one => ((plc S).filter (marked S)).any fun p => Txt.startswith p one := by
  rw [Bool.eq_iff_iff]
  unfold leaf leafAt
  rw [List.any_eq_true, List.any_eq_true]
  constructor
  · rintro ⟨p, hp, h⟩
    simp only [Bool.and_eq_true, Bool.not_eq_true', decide_eq_true_eq] at h
    obtain ⟨h1, h2⟩ := h
    have h2 : lcp w.cps.toList p.cps.toList = n := by
      have z : ((lcpS w p : Nat) : Int) = (n : Int) := h2
      unfold lcpS at z
      omega
    obtain ⟨hpS, hpm⟩ := List.mem_filter.mp hp
    have ht := lcp_take w.cps.toList p.cps.toList
    rw [h2] at ht
    have hle := lcp_ley w.cps.toList p.cps.toList
    rw [h2] at hle
    have hlt : n < p.cps.toList.length := by
      rcases Nat.lt_or_ge n p.cps.toList.length with z | z
      · exact z
      · exfalso
        have e : n = p.cps.toList.length := by omega
        have : Txt.startswith w p = true := by
          rw [sw_list, ← e, ht, e, List.take_length]
        rw [this] at h1
        cases h1
    have one : (preS p (n + 1)).cps.toList = p.cps.toList.take (n + 1) := pre_list p (n + 1)
    refine ⟨preS p (n + 1), List.mem_filter.mpr ⟨up_pre g hpS (by omega), ?_⟩, List.any_eq_true.mpr ⟨p, hp, ?_⟩⟩
    · rw [othP_iff w _ hn, one]
      refine ⟨by rw [List.length_take]; omega, by rw [List.take_take, Nat.min_eq_left (by omega), ht], fun hw => ?_⟩
      rw [List.getElem?_take_of_lt (Nat.lt_succ_self n)]
      have z := lcp_ne w.cps.toList p.cps.toList (by rw [h2]; exact hw) (by rw [h2]; exact hlt)
      rw [h2] at z
      exact fun e => z e.symm
    · rw [sw_list, one, List.length_take, Nat.min_eq_left (by omega)]
  · rintro ⟨one, ho, h⟩
    obtain ⟨_, ho2⟩ := List.mem_filter.mp ho
    obtain ⟨p, hp, hs⟩ := List.any_eq_true.mp h
    obtain ⟨o1, o2, o3⟩ := (othP_iff w one hn).mp ho2
    rw [sw_list, o1] at hs
    have pl : n + 1 ≤ p.cps.toList.length := by
      have z := congrArg List.length hs
      rw [List.length_take, o1] at z
      omega
    have pt : p.cps.toList.take n = w.cps.toList.take n := by
      rw [← o2, hs, List.take_take, Nat.min_eq_left (by omega)]
    have pn : n < w.cps.toList.length → p.cps.toList[n]? ≠ w.cps.toList[n]? := fun hw => by
      have z := o3 hw
      rw [hs, List.getElem?_take_of_lt (Nat.lt_succ_self n)] at z
      exact z
    refine ⟨p, hp, ?_⟩
    simp only [Bool.and_eq_true, Bool.not_eq_true', decide_eq_true_eq]
    refine ⟨?_, ?_⟩
    · cases e : Txt.startswith w p with
      | false => rfl
      | true =>
        exfalso
        rw [sw_list] at e
        have z := congrArg List.length e
        rw [List.length_take] at z
        have hw : n < w.cps.toList.length := by omega
        refine pn hw ?_
        rw [e, List.getElem?_take_of_lt (by omega)]
    · unfold lcpS
      rw [lcp_eq _ _ n pt.symm hn (by omega) (fun a b z => pn a z.symm)]
end SK
namespace SK
open PySem PySem.Spec PyProof.Rows L2 LamX NdefX
theorem len_fm {α : Type} (g : α → Option Nat) (q : Nat → Bool) : ∀ l : List α, ((l.filterMap g).filter q).length = (l.filter fun r => (g r).any q).length
  | [] => rfl
  | a :: l => by
    have ih := len_fm g q l
    cases e : g a with
    | none =>
      rw [List.filterMap_cons_none e, ih, List.filter_cons_of_neg (by simp [e])]
    | some c =>
      rw [List.filterMap_cons_some e]
      by_cases h : q c = true
      · rw [List.filter_cons_of_pos h, List.filter_cons_of_pos (by simp [e, h]), List.length_cons, List.length_cons, ih]
      · rw [List.filter_cons_of_neg h, List.filter_cons_of_neg (by simp [e, h]), ih]
theorem ahd_list (w : Str) (n : Nat) (hn : n ≤ w.cps.toList.length) : (ahd w n).cps.toList = (w.cps.toList.drop n).take 1 := by
  have e : w.length = w.cps.toList.length := by simp [Str.length]
  unfold ahd cutS
  rw [show ((n : Int) + 1) = ((n + 1 : Nat) : Int) by omega, HT.sIx_nat, HT.sIx_nat, List.toList_toArray, e, Nat.min_eq_left hn]
  by_cases h : n < w.cps.toList.length
  · rw [Nat.min_eq_left (by omega), show n + 1 - n = 1 by omega]
  · have z : w.cps.toList.drop n = [] := List.drop_eq_nil_of_le (by omega)
    rw [z]
    simp
theorem ahd_iff (w : Str) (n : Nat) (hn : n ≤ w.cps.toList.length) (c : Nat) : V.str ⟨#[c]⟩ = V.str (ahd w n) ↔ w.cps.toList[n]? = some c := by
  have l := ahd_list w n hn
  constructor
  · intro h
    have h : (⟨#[c]⟩ : Str) = ahd w n := by injection h
    rw [← h] at l
    have l : [c] = (w.cps.toList.drop n).take 1 := l
    have z := congrArg (fun x : List Nat => x[0]?) l
    simp only [List.getElem?_take_of_lt (Nat.zero_lt_one), List.getElem?_drop] at z
    have z : some c = w.cps.toList[n + 0]? := z
    rw [Nat.add_zero] at z
    exact z.symm
  · intro h
    have e : (⟨#[c]⟩ : Str) = ahd w n := by
      refine str_ext ?_
      rw [l]
      have hl := (List.getElem?_eq_some_iff.mp h).1
      rw [List.drop_eq_getElem_cons hl, List.take_succ_cons, List.take_zero]
      have z : w.cps.toList[n] = c := by
        rw [List.getElem?_eq_getElem hl] at h
        exact Option.some.inj h
      rw [z]
    rw [e]
theorem oth_eq (S : List Spot) (w : Str) (n : Nat) (hn : n ≤ w.cps.toList.length) : oth S w n = ((plc S).filter (othP w n)).length := by
  unfold oth belL
  rw [len_fm]
  congr 1
  refine List.filter_congr fun r _ => ?_
  rw [Bool.eq_iff_iff, othP_iff w r hn]
  have pl : (preS w n).cps.toList = w.cps.toList.take n := pre_list w n
  have pz : (w.cps.toList.take n).length = n := by
    rw [List.length_take]
    omega
  constructor
  · intro h
    split at h
    · rename_i c
      obtain ⟨c1, c2⟩ := c
      cases e : r.cps.toList.getLast? with
      | none =>
        rw [e] at h
        cases h
      | some c =>
        rw [e] at h
        have h : (!decide (V.str ⟨#[c]⟩ = V.str (ahd w n))) = true := h
        have hne : r.cps.toList ≠ [] := fun z => by
          rw [z] at e
          cases e
        have dl : r.cps.toList.dropLast = w.cps.toList.take n := by
          rw [← pl, ← c2]
          unfold initS
          rw [List.toList_toArray]
        have rl : r.cps.toList = w.cps.toList.take n ++ [c] := by
          rw [← dl]
          have z := List.dropLast_concat_getLast hne
          have z2 : r.cps.toList.getLast hne = c := by
            rw [List.getLast?_eq_some_getLast hne] at e
            exact Option.some.inj e
          rw [z2] at z
          exact z.symm
        refine ⟨by rw [rl, List.length_append, pz]; rfl, ?_, fun hw hq => ?_⟩
        · rw [rl, List.take_append_of_le_length (by omega), List.take_of_length_le (by omega)]
        · rw [rl, List.getElem?_append_right (by omega), pz, Nat.sub_self] at hq
          have hq : some c = w.cps.toList[n]? := hq
          rw [decide_eq_true ((ahd_iff w n hn c).mpr hq.symm)] at h
          cases h
    · cases h
  · rintro ⟨h1, h2, h3⟩
    have hne : r ≠ Str.ofString "" := fun z => by
      rw [z] at h1
      have z3 : (Str.ofString "").cps.toList.length = 0 := by decide +kernel
      omega
    have hi : initS r = preS w n := by
      refine str_ext ?_
      rw [pl, ← h2]
      unfold initS
      rw [List.toList_toArray, List.dropLast_eq_take, h1]
      rfl
    rw [if_pos ⟨hne, hi⟩]
    obtain ⟨c, hc⟩ : ∃ c, r.cps.toList[n]? = some c := ⟨_, List.getElem?_eq_getElem (by omega)⟩
    have hl : r.cps.toList.getLast? = some c := by
      rw [List.getLast?_eq_getElem?, h1]
      exact hc
    rw [hl]
    show (!decide (V.str ⟨#[c]⟩ = V.str (ahd w n))) = true
    have n1 : ¬ V.str ⟨#[c]⟩ = V.str (ahd w n) := fun z => by
      have z2 := (ahd_iff w n hn c).mp z
      have hw := (List.getElem?_eq_some_iff.mp z2).1
      exact h3 hw (by rw [hc, z2])
    rw [decide_eq_false n1]
    rfl
end SK
namespace SK
open PySem PySem.Spec PyProof.Rows L2 LamX NdefX
/-! ### such rows are refused by nothing -/
theorem scan_fine (ls : Str) : ∀ (S : List Spot) (seen : List Str) (i : Nat), (∀ s ∈ S, okR ls (rowD s) = true) → (seen ++ plc S).Nodup → scan ls seen i (S.map rowD) = none
  | [], _, _, _, _ => rfl
  | s :: S, seen, i, h, nd => by
    have e : plc (s :: S) = s.1 :: plc S := rfl
    rw [e] at nd
    have n1 : s.1 ∉ seen := fun z => (List.nodup_append.mp nd).2.2 _ z _ (by simp) rfl
    rw [List.map_cons]
    show (if okR ls (rowD s) = true ∧ placeOf (rowD s) ∉ seen then scan ls (seen ++ [placeOf (rowD s)]) (i + 1) (S.map rowD) else some i) = none
    rw [if_pos ⟨h s (by simp), n1⟩]
    refine scan_fine ls S _ _ (fun t ht => h t (List.mem_cons_of_mem _ ht)) ?_
    show ((seen ++ [s.1]) ++ plc S).Nodup
    rw [List.append_assoc]
    exact nd
theorem row_ok {ls : Str} {S : List Spot} (g : Gd ls S) : ∀ s ∈ S, okR ls (rowD s) = true := fun s hs => by
  have m : s.1 ∈ plc S := List.mem_map.mpr ⟨s, hs, rfl⟩
  show (okW ls (.str s.1) && (isB (.bool s.2.1) && isB (.bool s.2.2))) = true
  unfold okW isB
  simp only [Bool.and_true, Bool.and_eq_true, decide_eq_true_eq, List.all_eq_true]
  exact ⟨Nat.le_trans (g.sz _ m) (by decide), g.al _ m⟩
theorem lets_ok {ls : Str} {n : Nat} (h : Lts ls n) (h2 : 2 ≤ n) (h26 : n ≤ 26) : okLd (.str ls) = true := by
  show okLb ls = true
  unfold okLb
  simp only [Bool.and_eq_true, decide_eq_true_eq, List.all_eq_true]
  rw [h.sz]
  exact ⟨⟨h2, h26⟩, h.nd, h.al⟩
/-- what a sorted copy keeps -/
theorem Gd.perm {ls : Str} {S T : List Spot} (g : Gd ls S) (h : T.Perm S) : Gd ls T := by
  have hp : (plc T).Perm (plc S) := h.map _
  exact ⟨hp.nodup_iff.mpr g.nd, hp.mem_iff.mpr g.root, fun p m hn => hp.mem_iff.mpr (g.up p (hp.mem_iff.mp m) hn), fun p m => g.sz p (hp.mem_iff.mp m), fun p m => g.al p (hp.mem_iff.mp m)⟩
theorem way_fine {ls : Str} {n : Nat} {S : List Spot} (h : Lts ls n) (h2 : 2 ≤ n) (h26 : n ≤ 26) (g : Gd ls S) (hs : S.length ≤ 40) : way (.str ls) (S.map rowD) = .fine := by
  have ne : 1 ≤ S.length := by
    cases S with
    | nil => exact absurd g.root (by simp [plc])
    | cons s S => simp
  have l1 : lone (sortW ls ((S.map rowD).map placeOf)) = none := by
    unfold lone
    rw [List.find?_eq_none]
    intro p hp
    have m : p ∈ plc S := by
      rw [places_rows] at hp
      exact (sortW_perm ls _).mem_iff.mp hp
    unfold isLone
    by_cases c : p = Str.ofString ""
    · simp [c]
    · have z := g.up p m c
      have z2 : initS p ∈ sortW ls ((S.map rowD).map placeOf) := by
        rw [places_rows]
        exact (sortW_perm ls _).mem_iff.mpr z
      rw [decide_eq_true z2]; simp
  unfold way
  rw [if_pos (lets_ok h h2 h26), List.length_map, if_pos ⟨ne, by omega⟩]
  show (match scan ls [] 0 (S.map rowD) with | some i => Way.row i | none => match lone (sortW ls ((S.map rowD).map placeOf)) with | some p => .lone p | none => .fine) = .fine
  rw [scan_fine ls S [] 0 (row_ok g) (by simpa using g.nd), l1]
end SK
namespace SK
open PySem PySem.Spec PyProof.Rows L2 LamX NdefX
open K0 (De DeAll XCl spX withX)
/-! ### texts, sorted -/
theorem strs_of : ∀ {ws : List Str} {us : List Value}, Vals (ws.map V.str) us → PySem.W.EachIs (fun v b => ∃ t, v = Value.str b t) us ws
  | [], [], _ => .nil
  | [], _ :: _, h => by cases h
  | _ :: _, [], h => by cases h
  | w :: ws, u :: us, h => by
    cases h with
    | cons h1 h2 => exact .cons h1 (strs_of h2)
theorem strs_to : ∀ {us : List Value} {ws : List Str}, PySem.W.EachIs (fun v b => ∃ t, v = Value.str b t) us ws → Vals (ws.map V.str) us
  | _, _, .nil => .nil
  | _, _, .cons h1 h2 => .cons h1 (strs_to h2)
theorem strs_alike (ws : List Str) : PySem.W.AllAlike (ws.map PyData.str) := fun d hd e he => by
  obtain ⟨x, _, rfl⟩ := List.mem_map.mp hd
  obtain ⟨y, _, rfl⟩ := List.mem_map.mp he
  simp [PySem.W.alike]
theorem strs_sortable (ws : List Str) : PySem.W.Sortable (ws.map PyData.str) := .inr fun d hd => by
  obtain ⟨x, _, rfl⟩ := List.mem_map.mp hd
  exact ⟨(fun z => nomatch z), fun xs z => nomatch z⟩
def srt (ws : List Str) : List Str := ws.mergeSort (PySem.W.dataLe false PyData.str)
theorem srt_perm (ws : List Str) : (srt ws).Perm ws := List.mergeSort_perm _ _
def rSrtL (K : PySem.W.Frag) : List V → Hp → VK → Prop := fun xs H Q => ∃ (a : Addr) (ws : List Str), xs = [.ref a] ∧ SqL K H a (ws.map V.str) ∧ ∀ p, H p = none → Q (.ref p) (upd H p (.lst ((srt ws).map V.str)))
theorem cr_srtL {X : Cx} (hu : X.A.units + 64 < cLine) : CallR X (.builtin "sorted") (rSrtL X.K) := by
  intro pins s σ H xs us Q I r h
  obtain ⟨a, ws, rfl, hS, q⟩ := h
  obtain ⟨u, rfl, ru⟩ := vals1 r
  obtain rfl : u = Value.ref a := ru
  have rd : ∀ {us : List Value} {cs : List Str}, PySem.W.EachIs (fun v b => ∃ t, v = Value.str b t) us cs → PySem.W.EachIs (fun v b => ∃ as, Reads s.heap v (PyData.str b) as) us cs := fun {us cs} ee => by
    induction ee with
    | nil => exact .nil
    | cons h1 h2 ih =>
      obtain ⟨t, rfl⟩ := h1
      exact .cons ⟨_, Reads.str _ t⟩ ih
  obtain ⟨its, rv, hl, hz⟩ := I.list hS
  rw [List.length_map] at hz
  have e := strs_of rv
  refine PySem.W.sorted_data (R := fun v b => ∃ t, v = Value.str b t) hl.isList e (rd e) (strs_alike ws) (strs_sortable ws) hz (fun b _ => by simp only [PyData.depth]; omega) fun out ho eo => ?_
  obtain ⟨ep, he'⟩ := PyProof.Rows.sortedAll_at s.heap its out.toArray
  have hlen : ((srt ws).map V.str).length ≤ sizeLine := by
    unfold srt
    rw [List.length_map, List.length_mergeSort]
    exact hz
  exact ⟨.ref _, upd H (s.heap.objs.size + 1) (.lst ((srt ws).map V.str)), I.laid (t' := s.toks) (fun _ _ => PyProof.Rows.sortedAll_old) (Nat.le_succ _) ⟨hlen, _, ep, strs_to eo, he'⟩, rfl, q _ (I.hok.fresh (Nat.le_succ _))⟩
/-! ### along a dict's keys -/
theorem unlock_same {H G : Hp} {d : Addr} {o : Obj} {u : HO} (h : H d = some u) (s : Same (upd H d (.frz o u)) G) : Same H (upd G d u) := fun b v e => by
  by_cases c : b = d
  · subst c
    rw [h] at e
    cases e
    exact upd_same
  · rw [upd_ne c]
    exact s _ _ (by rw [upd_ne c]; exact e)
theorem lock_none {H : Hp} {d D : Addr} {o : HO} (h : upd H d o D = none) : H D = none := by
  by_cases c : D = d
  · rw [c, upd_same] at h
    cases h
  · rw [upd_ne c] at h
    exact h
section
variable {g : TG} {tt : TT} {te : TE} {vs : List Nat} {σ : St} {H1 : Hp} {D : Addr} {Qd : Hp → Prop}
theorem lcF_keys {α : Type} {ws : List α} {d : Addr} {o : Obj} {kvs : List (Key × V)} (enc : α → Str) (nD : H1 D = none) (hd : H1 d = some (.frz o (.dK kvs))) (hk : kvs.map Prod.fst = ws.map fun a => (Sum.inr (enc a) : Key)) (f : α → V) (c : α → Bool) (hz : ws.length < sizeLine)
    (step : ∀ (i : Nat) (x : α) (H : Hp), ws[i]? = some x → Same H1 H → TurnF g tt te vs σ (.str (enc x)) (f x) (c x) H) (fin : ∀ H, Same H1 H → H D = some (.lst ((ws.filter c).map f)) → Qd H) :
    ∃ W : Nat → Nat → Hp → Prop, (∃ m, W 0 m (upd H1 D (.lst []))) ∧ ∀ i m H, W i m H →
      ((Itk d o kvs).stop i H ∧ Qd H) ∨ ((Itk d o kvs).go i H ∧ ∃ Nx : Hp → Prop, (∀ H', Nx H' → ∃ m', m' < m ∧ W (i + 1) m' H') ∧ ∀ x H', (Itk d o kvs).yld i H x H' → g x (wipe σ vs) H' fun σ2 H2 => wipe σ2 vs = wipe σ vs ∧ tt σ2 H2 fun b H3 =>
        if b = true then te σ2 H3 fun y H4 => ∃ acc, H4 D = some (.lst acc) ∧ acc.length < sizeLine ∧ Nx (upd H4 D (.lst (acc ++ [y]))) else Nx H3) := by
  have hl : kvs.length = ws.length := by
    have z := congrArg List.length hk
    rw [List.length_map, List.length_map] at z
    exact z
  refine lc_it (walk_keys (d := d) (o := o) (kvs := kvs)) (fun i H => Same H1 H ∧ H D = some (.lst (((ws.take i).filter c).map f))) ⟨same_new nD, upd_same⟩ (fun i H _ p => p.1 _ _ hd) ?_ fun H p => fin H p.1 (by rw [hl, List.take_length] at p; exact p.2)
  rintro i x H H' hi ⟨s, hD⟩ ⟨rfl, k, v, hkv, rfl⟩
  obtain ⟨y, hy⟩ : ∃ y, ws[i]? = some y := ⟨_, List.getElem?_eq_getElem (by omega)⟩
  have ek : k = .inr (enc y) := by
    have z := congrArg (fun l : List Key => l[i]?) hk
    simp only [List.getElem?_map, hkv, hy, Option.map_some] at z
    exact Option.some.inj z
  subst ek
  refine step i y H' hy s _ _ (fun hc => ⟨_, hD, Nat.lt_of_le_of_lt filt_len hz, same_upd nD s, ?_⟩) fun hc => ⟨s, ?_⟩
  · rw [filt_snoc hy, if_pos hc]
    exact upd_same
  · rw [filt_snoc hy, if_neg (by rw [hc]; simp), List.append_nil]
    exact hD
end
/-! ### what a spot's pair holds -/
theorem SpK.at_ {H : Hp} : ∀ {kvs : List (Key × V)} {S : List Spot} {i : Nat} {s : Spot}, SpK H kvs S → S[i]? = some s → ∃ t, kvs[i]? = some (.inr s.1, .ref t) ∧ H t = some (.tup [.bl s.2.1, .bl s.2.2])
  | [], [], _, _, _, h => by simp at h
  | kv :: kvs, u :: S, 0, s, ⟨⟨t, e, h⟩, _⟩, hs => by
    have q : u = s := by simpa using hs
    subst q
    exact ⟨t, by rw [e]; rfl, h⟩
  | kv :: kvs, u :: S, i + 1, s, ⟨_, r⟩, hs => by
    obtain ⟨t, e, h⟩ := SpK.at_ r (i := i) (by simpa using hs)
    exact ⟨t, by rw [List.getElem?_cons_succ]; exact e, h⟩
  | [], _ :: _, _, _, h, _ => h.elim
  | _ :: _, [], _, _, h, _ => h.elim
theorem SpK.val {H : Hp} {kvs : List (Key × V)} {S : List Spot} {s : Spot} (h : SpK H kvs S) (nd : (plc S).Nodup) (hs : s ∈ S) : ∃ t, valV kvs (.inr s.1) = some (.ref t) ∧ H t = some (.tup [.bl s.2.1, .bl s.2.2]) := by
  obtain ⟨i, hi⟩ := List.mem_iff_getElem?.mp hs
  obtain ⟨t, e, ht⟩ := h.at_ hi
  refine ⟨t, valV_at ?_ e, ht⟩
  rw [h.keys]
  refine List.Pairwise.map _ (fun a b hab z => hab ?_) nd
  injection z
theorem SpK.keyS {H : Hp} {kvs : List (Key × V)} {S : List Spot} (h : SpK H kvs S) : kvs.map Prod.fst = S.map fun s => (Sum.inr s.1 : Key) := by
  rw [h.keys]
  unfold plc
  rw [List.map_map]
  rfl
theorem SpK.lock {H : Hp} {kvs kv2 : List (Key × V)} {S : List Spot} {d : Addr} {o : HO} (h : SpK H kvs S) (hd : H d = some (.dK kv2)) : SpK (upd H d o) kvs S := h.keep fun t xs ht => by
  rw [upd_ne (ne_of ht hd (by intro z; cases z))]
  exact ht
/-! ### the kept words of spots -/
theorem kept_map {S : List Spot} (nd : (plc S).Nodup) : (S.filter fun s => s.2.1).map (fun s => V.str s.1) = ((plc S).filter (marked S)).map V.str := by
  have e : (S.filter fun s => s.2.1).map (·.1) = (plc S).filter (marked S) := by
    unfold plc
    rw [List.filter_map]
    congr 1
    exact List.filter_congr fun s hs => (marked_of nd hs).symm
  rw [← e, List.map_map]
  rfl
def spWords : Sp := fun vs H Q _ => ∃ (d : Addr) (kvs : List (Key × V)) (S : List Spot), vs = [.ref d] ∧ H d = some (.dK kvs) ∧ SpK H kvs S ∧ (plc S).Nodup ∧ S.length ≤ 1000 ∧
  ∀ (H' : Hp) (p : Addr) (ws : List Str), Same H H' → H' p = some (.lst (ws.map V.str)) → ws.Perm ((plc S).filter (marked S)) → Q (.ref p) H'
section
variable {P : Program} {w : World} {K : PySem.W.Frag} {mg : Str → Option Value} {base : Heap} {f : Addr} {fd : FuncData}
theorem ok_lwords (F : Fun K "_law_words" "_law_words" (top 33) f fd) (gS : mg "sorted" = none) : FnOk P w K mg base CX0 1 f fd ["spots"] spWords := by
  have S0 : FnScope ["spots", "place"] ["spots"] (defScope (top 33)) := ⟨rfl, rfl, rfl, by decide +kernel, rfl, by decide +kernel, by decide +kernel⟩
  have nd := S0.nd
  refine F.ok S0 (fun vs H Q E h => ?_) (fun cdv A outer s H vs Q E hr h => ?_)
  · obtain ⟨d, kvs, S, rfl, _⟩ := h
    rfl
  · obtain ⟨d, kvs, S, rfl, hd, hs, ndS, hz, kk⟩ := h
    have hu := hu_of hr
    have hu64 := hr.units
    refine ⟨_, pss_one (ps_ret (pe_callB (cr_srtL hu64) (by rfl) gS PyProof.Rows.boot_sorted (pa_cons (pe_lock (pe_lc (own := [("place", 1)]) (g := gName 1) rfl nd (pi_keys (pv 0)) (blkOk_by (N := ["spots", "place"]) (sc := defScope (top 33)) (by decide +kernel))
      (fun _ _ _ _ _ => pg_name (i := 1) nd rfl (Or.inl rfl)) (fun _ _ _ _ _ => pts_one (pt_val (pe_ix (r := rIxT K) ix_tup (pe_dget hu (pv 0) (pv 1) (fun _ _ => rfl)) pe_int (fun _ _ => rfl)))) (fun _ _ _ _ _ => pv 1))) pa_nil))), ?_⟩
    refine ⟨d, .dK kvs, hd, trivial, fun od => ⟨V.ref d, rfl, d, od, rfl, .inl ⟨kvs, upd_same, fun D nD => lcF_keys (ws := S) (·.1) nD upd_same hs.keyS (fun s => V.str s.1) (fun s => s.2.1) (Nat.lt_of_le_of_lt hz (by decide)) (fun i s G hsi sG A B hA hB => ?_) fun G sG hDG => ?_⟩⟩⟩
    · have hs2 := hs.lock (o := .frz od (.dK kvs)) hd
      obtain ⟨t, g1, g2⟩ := hs2.val ndS (List.mem_of_getElem? hsi)
      have hdG : G d = some (.frz od (.dK kvs)) := sG _ _ upd_same
      refine ⟨rfl, V.ref d, rfl, V.str s.1, rfl, d, .ref t, rfl, .inl ⟨kvs, .inr s.1, .inr ⟨od, hdG⟩, rfl, g1.symm⟩, t, _, 0, .bl s.2.1, rfl, rfl, .inl (.inl (sG _ _ g2)), rfl, s.2.1, rfl, ?_⟩
      cases e : s.2.1 with
      | true => exact iteT ⟨V.str s.1, rfl, hA e⟩
      | false => exact iteF (hB e)
    · refine ⟨sG _ _ upd_same, D, (plc S).filter (marked S), rfl, ?_, fun p np => ?_⟩
      · have n1 : D ≠ d := ne_of hDG (sG _ _ upd_same) (by intro z; cases z)
        refine .inl (.inl ?_)
        rw [upd_ne n1, hDG, kept_map ndS]
      · exact kk _ p _ ((unlock_same hd sG).trans (upd_new np)) upd_same (srt_perm _)
end
end SK
namespace SK
open PySem PySem.Spec PyProof.Rows L2 LamX NdefX
open K0 (De DeAll XCl spX withX)
/-! ### defs that are called where no repr is under way -/
structure FnG (P : Program) (w : World) (K : PySem.W.Frag) (mg : Str → Option Value) (base : Heap) (CX : CXT) (k : Nat) (f : Addr) (fd : FuncData) (ps : List Str) (sp : Sp) : Prop where
  len : ∀ vs H Q E, sp vs H Q E → vs.length = ps.length
  run : ∀ (A : Around) (outer : List Env) (s : Shared) (H : Hp) (args : Args) (us : List Value) (vs : List V) (Q : VK) (E : XK), A.guards = some [] → Room k A → Env0 P w K mg base A outer s H → BindsTo s fd args (ps.zip us) → Vals vs us → sp vs H Q E →
    codeAny (model P w) A (.call (.ref f) args) (CR CX outer P w H s Q E) s
theorem FnG.ok {P : Program} {w : World} {K : PySem.W.Frag} {mg : Str → Option Value} {base : Heap} {x qual : Str} {st : Stmt} {f : Addr} {fd : FuncData} {N ps : List Str} {k : Nat} {sp : Sp} (F : Fun K x qual st f fd) (S : FnScope N ps (defScope st)) (len : ∀ vs H Q E, sp vs H Q E → vs.length = ps.length)
    (hbody : ∀ (cdv : Value) (A : Around) (outer : List Env) (s : Shared) (H : Hp) (vs : List V) (Q : VK) (E : XK), (A.deeper (envOfC qual (defScope st) s.heap.objs.size f cdv)).guards = some [] → Room k (A.deeper (envOfC qual (defScope st) s.heap.objs.size f cdv)) → sp vs H Q E →
      ∃ t, PSs (cxOf CX0 P w K mg base N qual (defScope st) f cdv A outer s H E).nox (defBody st) t ∧ t { nx := fun _ H' => Q .non H', rt := Q } (start N vs) H) : FnG P w K mg base CX0 (k + 1) f fd ps sp := by
  obtain ⟨oc, od, kV, doc, pm, an, cdv, ct, osl, rfl, lk, hcd⟩ := F.ex
  refine ⟨len, fun A outer s H args us vs Q E hg hr e0 hb r hsp => run_ofS lk hcd S hr e0 hb r (len _ _ _ _ hsp) fun hr' => ?_⟩
  obtain ⟨t, h, q⟩ := hbody cdv A outer s H vs Q E hg hr' hsp
  exact ⟨t, h.nox, q⟩
def tCallG (sp : Sp) (E : XK) (t : TA) : TE := fun σ H Q => t σ H fun vs H1 => sp vs H1 Q E
section
variable {X : Cx} {CX : CXT} {k : Nat} {f C : Addr} {fd : FuncData} {ps : List Str} {ds : List Value} {dvs : List V} {sp : Sp} {E : XK} {x : Str} {p pos : Pos} {e : Expr} {es : List Expr} {t : TA}
theorem run_fnG {pins : List (Addr × Obj)} {σ : St} {H : Hp} {s : Shared} {Q : VK} {us : List Value} {vs : List V} (F : FnG X.prog X.w X.K X.mg X.base CX k f fd ps sp) (hgd : X.A.guards = some []) (hr : Room k X.A) (hb : Binds X.K fd ps []) (hx : Passes CX X E) (I : Inv X pins σ H s) (r : Vals vs us)
    (h : sp vs H Q E) : wpAny (model X.prog X.w) X.A (call (.ref f) us) (EP X pins σ Q) X.xe s := by
  have hl : us.length = ps.length := by
    rw [← r.length]
    exact F.len _ _ _ _ h
  have b := hb s us I.kIn (by rw [List.append_nil]; exact hl)
  rw [List.append_nil] at b
  refine wpAny_call (codeAny_mono (F.run X.A X.stack s H ⟨us, []⟩ us vs Q E hgd hr I.env0 b r h) fun r s' hq => ?_)
  cases r with
  | error e => exact hx pins σ H s e s' I hq
  | ok fl =>
    cases fl with
    | ret u => exact I.after hq
    | next => exact False.elim hq
    | brk => exact False.elim hq
    | cont => exact False.elim hq
theorem pe_callG (F : FnG X.prog X.w X.K X.mg X.base CX k f fd ps sp) (hgd : X.A.guards = some []) (hr : Room k X.A) (hg : Gl X x) (hm : X.mg x = some (.ref f)) (hk : PySem.W.keepIn X.K (.ref f) = true) (hb : Binds X.K fd ps []) (hx : Passes CX X E)
    (ha : PA X (e :: es) t) (hdb : (x == ("__debug__" : Str)) = false := by decide) (he : starEach (e :: es) X.env = (false, eval e X.env) :: starEach es X.env := by rfl) (hpl : (backTo pos (starEach es X.env)).any (·.1) = false := by rfl) :
    PE X (.Call (.Name x p) (e :: es) [] pos) (tCallG sp E t) := by
  refine ⟨fun pins s σ H Q I h => ?_⟩
  refine wpAny_Call_Name_kw (ld_glob I hg hm ?_ hdb)
  refine PySem.W.callWith_K (h₀ := X.base) I.ok.mod.kin hk (thn (ha.run pos pins s σ H _ I h) fun us s1 ⟨vs, H1, I1, r, q⟩ => ⟨I1.kIn, ?_⟩) he hpl
  exact run_fnG F hgd hr hb hx I1 r q
/-- C(..), what is raised wished for at the caller's slots -/
def tMakeS (C : Addr) (sp : Sp) (E : St → XK) (t : TA) : TE := fun σ H Q => t σ H fun vs H1 => ∀ x dx, H1 x = none → H1 dx = none → dx ≠ x → sp (.ref x :: vs) (upd (upd H1 dx (.own x)) x (.ins C dx [])) (fun v H2 => v = .non ∧ Q (.ref x) H2) (E σ)
theorem pe_makeS {E : St → XK} (M : Mk X.K C f) (F : FnOk X.prog X.w X.K X.mg X.base CX k f fd ps sp) (hr : Room (k + 1) X.A) (hg : Gl X x) (hm : X.mg x = some (.ref C)) (hb : Binds X.K fd ps []) (hx : ∀ σ, PassesAt CX X σ (E σ)) (ha : PA X (e :: es) t)
    (hdb : (x == ("__debug__" : Str)) = false := by decide) (he : starEach (e :: es) X.env = (false, eval e X.env) :: starEach es X.env := by rfl) (hpl : (backTo pos (starEach es X.env)).any (·.1) = false := by rfl) :
    PE X (.Call (.Name x p) (e :: es) [] pos) (tMakeS C sp E t) := by
  refine ⟨fun pins s σ H Q I h => ?_⟩
  refine wpAny_Call_Name_kw (ld_glob I hg hm ?_ hdb)
  refine PySem.W.callWith_K (h₀ := X.base) I.ok.mod.kin M.kp (thn (ha.run pos pins s σ H _ I h) fun us s1 ⟨vs, H1, I1, r, q⟩ => ⟨I1.kIn, ?_⟩) he hpl
  have hq := q (s1.heap.objs.size + 1) s1.heap.objs.size (I1.hok.fresh (Nat.le_succ _)) (I1.hok.fresh (Nat.le_refl _)) (Nat.ne_of_lt (Nat.lt_succ_self _))
  have I2 := Inv.made (C := C) I1
  have r2 : Vals (V.ref (s1.heap.objs.size + 1) :: vs) (Value.ref (s1.heap.objs.size + 1) :: us) := .cons rfl r
  have hl : (Value.ref (s1.heap.objs.size + 1) :: us).length = ps.length := by
    have z := r2.length
    rw [F.len _ _ _ _ hq] at z
    exact z.symm
  have b := hb _ (Value.ref (s1.heap.objs.size + 1) :: us) I2.kIn (by rw [List.append_nil]; exact hl)
  rw [List.append_nil] at b
  show wpAny _ _ (call (.ref C) us) _ _ _
  refine wpAny_call (make_map (f := f) I1.kIn M.makes M.init (beq_iff_eq.mp M.fn) (codeAny_mono (F.run _ X.stack _ _ ⟨Value.ref (s1.heap.objs.size + 1) :: us, []⟩ (Value.ref (s1.heap.objs.size + 1) :: us) _ _ (E σ) (hr.make C us [])
    (I2.env0.make C us []) b r2 hq) fun r s' hq' => ?_))
  cases r with
  | error er => exact hx σ pins _ _ er s' I2 hq'
  | ok fl =>
    cases fl with
    | ret u =>
      obtain ⟨v, H', I3, rv, ev, q3⟩ := I2.after hq'
      subst ev
      exact ⟨rv, ⟨V.ref (s1.heap.objs.size + 1), H', I3, rfl, q3⟩⟩
    | next => exact False.elim hq'
    | brk => exact False.elim hq'
    | cont => exact False.elim hq'
/-- repr(x), x any data -/
def rRepD (K : PySem.W.Frag) : List V → Hp → VK → Prop := fun xs H Q => ∃ (v : V) (d : PyData), xs = [v] ∧ De K H v d ∧ d.showable = true ∧ d.depth ≤ 8 ∧ d.shown.length ≤ sizeLine ∧ Q (.str d.shown) H
theorem call_repD (hg : X.A.guards = some []) (hu : X.A.units + 64 < cLine) (hsys : ∃ o, X.K.lookup sysModules = some o) : CallR X (.builtin "repr") (rRepD X.K) := by
  intro pins s σ H xs us Q I r h
  obtain ⟨v, d, rfl, hd, hsh, hdp, hz, q⟩ := h
  cases hd with
  | non =>
    obtain ⟨u, rfl, ru⟩ := vals1 r
    obtain rfl : u = Value.none := ru
    exact PySem.P.repr_of_none ⟨.str _, H, I.tok _, ⟨_, rfl⟩, q⟩
  | bl b =>
    obtain ⟨u, rfl, ru⟩ := vals1 r
    obtain rfl : u = Value.bool b := ru
    exact PySem.P.repr_of_bool ⟨.str _, H, I.tok _, ⟨_, rfl⟩, by cases b <;> exact q⟩
  | int i =>
    obtain ⟨u, rfl, t, rfl⟩ := vals1 r
    refine PySem.P.repr_of_int (by simpa [PyData.showable] using hsh) ⟨.str _, H, I.tok _, ⟨_, rfl⟩, q⟩
  | str x =>
    obtain ⟨u, rfl, t, rfl⟩ := vals1 r
    exact PySem.P.repr_of_str ⟨.str _, H, I.tok _, ⟨_, rfl⟩, q⟩ hz
  | @lst a vs ds ha hds => exact K0.call_rep hg hu hsys pins s σ H _ us Q I r ⟨a, _, rfl, .lst ha hds, hsh, hdp, hz, q⟩
  | @tup a vs ds ha hds => exact K0.call_rep hg hu hsys pins s σ H _ us Q I r ⟨a, _, rfl, .tup ha hds, hsh, hdp, hz, q⟩
  | @dic a ha => exact K0.call_rep hg hu hsys pins s σ H _ us Q I r ⟨a, _, rfl, .dic ha, hsh, hdp, hz, q⟩
end
end SK
namespace SK
open PySem PySem.Spec PyProof.Rows L2 LamX NdefX
open K0 (De DeAll XCl spX withX)
/-! ### a tree of drawn spots -/
theorem passN {P : Program} {w : World} {X : Cx} (σ : L2.St) : PassesAt (L2.CX P w) X σ (fun _ _ _ => False) := fun _ _ _ _ _ _ c => by
  obtain ⟨_, _, _, _, _, _, _, _, _, _, _, _, h⟩ := c
  exact h.elim
theorem perm_lift {S : List Spot} (nd : (plc S).Nodup) {ys : List Str} (h : ys.Perm (plc S)) : ∃ S2 : List Spot, S2.Perm S ∧ plc S2 = ys := by
  let g : Str → Spot := fun y => (S.find? fun s => decide (s.1 = y)).getD (y, false, false)
  have hg : ∀ s ∈ S, g s.1 = s := fun s hs => by
    show (S.find? fun t => decide (t.1 = s.1)).getD (s.1, false, false) = s
    cases q : S.find? (fun t => decide (t.1 = s.1)) with
    | none =>
      rw [List.find?_eq_none] at q
      exact absurd (decide_eq_true rfl) (q s hs)
    | some t =>
      have z := List.find?_some q
      have z : t.1 = s.1 := by simpa using z
      exact uniq nd (List.mem_of_find?_eq_some q) hs z
  have e : (plc S).map g = S := by
    unfold plc
    rw [List.map_map]
    calc S.map (g ∘ fun s => s.1) = S.map id := List.map_congr_left fun s hs => hg s hs
      _ = S := List.map_id S
  refine ⟨ys.map g, ?_, ?_⟩
  · have z := h.map g
    rw [e] at z
    exact z
  · unfold plc
    rw [List.map_map]
    calc ys.map ((fun s : Spot => s.1) ∘ g) = ys.map id := List.map_congr_left fun y hy => by
          obtain ⟨s, hs, rfl⟩ := List.mem_map.mp (h.mem_iff.mp hy)
          show (g s.1).1 = s.1
          rw [hg s hs]
      _ = ys := List.map_id ys
theorem de_rowD {K : PySem.W.Frag} {H : Hp} {D : Addr} {xs : List V} {o : HO} {s : Spot} {v : V} (hD : H D = some (.lst xs)) (h : De K H v (rowD s)) : De K (upd H D o) v (rowD s) := by
  unfold rowD at h ⊢
  cases h with
  | tup ha hd =>
    refine .tup (by rw [upd_ne (ne_of ha hD (by intro z; cases z))]; exact ha) ?_
    cases hd with
    | cons h1 hd =>
      cases hd with
      | cons h2 hd =>
        cases hd with
        | cons h3 hd =>
          cases hd
          cases h1
          cases h2
          cases h3
          exact .cons (.str _) (.cons (.bl _) (.cons (.bl _) .nil))
theorem de_rowsD {K : PySem.W.Frag} {H : Hp} {D : Addr} {xs : List V} {o : HO} (hD : H D = some (.lst xs)) : ∀ {S : List Spot} {vs : List V}, DeAll K H vs (S.map rowD) → DeAll K (upd H D o) vs (S.map rowD)
  | [], _, h => by
    cases h
    exact .nil
  | s :: S, _, h => by
    cases h with
    | cons h1 h2 => exact .cons (de_rowD hD h1) (de_rowsD hD h2)
theorem fit_row {s : Spot} (h : s.1.cps.size ≤ 1000) : Fit (rowD s) := by
  intro ds e x hx
  rcases e with e | e
  · injection e with e
    subst e
    simp only [List.mem_cons, List.mem_nil_iff, or_false] at hx
    rcases hx with hx | hx | hx
    · injection hx with hx
      subst hx
      exact h
    · cases hx
    · cases hx
  · cases e
def spMade (K : PySem.W.Frag) (CT : Addr) (T : List (Addr × Str)) : Sp := fun vs H Q _ => ∃ (d : Addr) (ls : Str) (kvs : List (Key × V)) (S : List Spot) (n : Nat), vs = [.str ls, .ref d] ∧ H d = some (.dK kvs) ∧ SpK H kvs S ∧ Gd ls S ∧ S.length ≤ 40 ∧ Lts ls n ∧ 2 ≤ n ∧ n ≤ 26 ∧ Tabs T H ∧
  ∀ (H' : Hp) (x : Addr) (S2 : List Spot), ExtN H H' → Tabs T H' → S2.Perm S → TreeR K CT H' (.ref x) S2 → Q (.ref x) H'
section
variable {P : Program} {w : World} {K : PySem.W.Frag} {mg : Str → Option Value} {base : Heap} {f fI CT : Addr} {fd fdI : FuncData} {C : Cs} {T : List (Addr × Str)}
theorem ok_made (F : Fun K "_law_tree_made" "_law_tree_made" (top 34) f fd) (gS : mg "sorted" = none) (gT : mg "Tree" = some (.ref CT)) (M : Mk K CT fI) (GI : FnOk P w K mg base (L2.CX P w) 6 fI fdI ["self", "letters", "rows"] (spInit K CT C T)) (bI : Binds K fdI ["self", "letters", "rows"] []) :
    FnOk P w K mg base CX0 8 f fd ["letters", "spots"] (spMade K CT T) := by
  have S0 : FnScope ["letters", "spots", "place"] ["letters", "spots"] (defScope (top 34)) := ⟨rfl, rfl, rfl, by decide +kernel, rfl, by decide +kernel, by decide +kernel⟩
  have nd := S0.nd
  refine F.ok S0 (fun vs H Q E h => ?_) (fun cdv A outer s H vs Q E hr h => ?_)
  · obtain ⟨d, ls, kvs, S, n, rfl, _⟩ := h
    rfl
  · obtain ⟨d, ls, kvs, S, n, rfl, hd, hs, g, hz, hL, hn2, hn26, hT, kk⟩ := h
    have hu := hu_of hr
    refine ⟨_, pss_one (ps_ret (pe_makeS (E := fun _ _ _ _ => False) M GI hr (by rfl) gT bI passN (pa_cons (pv 0) (pa_cons (pe_lc (own := [("place", 2)]) (g := gName 2) (tt := tYes) rfl nd (pi_list (pe_callB (call_sortedD rfl) (by rfl) gS PyProof.Rows.boot_sorted (pa_cons (pv 1) pa_nil))) (blkOk_by (N := ["letters", "spots", "place"]) (sc := defScope (top 34)) (by decide +kernel))
      (fun _ _ _ _ _ => pg_name (i := 2) nd rfl (Or.inl rfl)) (fun _ _ _ _ _ => pts_nil) (fun _ _ _ _ _ => pe_tup (pa_cons (pv 2) (pa_cons (pe_ix (r := rIxT K) ix_tup (pe_dget hu (pv 1) (pv 2) (fun _ _ => rfl)) pe_int (fun _ _ => rfl)) (pa_cons (pe_ix (r := rIxT K) ix_tup (pe_dget hu (pv 1) (pv 2) (fun _ _ => rfl)) pe_int (fun _ _ => rfl)) pa_nil))))) pa_nil)))), ?_⟩
    have pl : (plc S).length = S.length := by
      unfold plc
      rw [List.length_map]
    refine ⟨V.str ls, rfl, V.ref d, rfl, d, kvs, plc S, rfl, .inl hd, hs.keys, by rw [pl]; omega, fun ys p hp _ np => ?_⟩
    obtain ⟨S2, hS2, rfl⟩ := perm_lift g.nd hp
    have sp := upd_new (o := .lst ((plc S2).map V.str)) np
    have hp0 : upd H p (.lst ((plc S2).map V.str)) p = some (.lst ((plc S2).map V.str)) := upd_same
    generalize upd H p (.lst ((plc S2).map V.str)) = H1 at sp hp0
    have z2 : S2.length ≤ 40 := by rw [hS2.length_eq]; exact hz
    refine ⟨p, rfl, ⟨_, .inl (.inl hp0)⟩, fun D nD => lc_list (K := K) (a := p) (xs := (plc S2).map V.str) (fun i G => Same H1 G ∧ ∃ acc, G D = some (.lst acc) ∧ DeAll K G acc ((S2.take i).map rowD)) ⟨upd_new nD, [], upd_same, .nil⟩ (fun i G _ q => .inl (.inl (q.1 _ _ hp0))) ?_ ?_⟩
    · rintro i x G hx ⟨sG, acc, hD, hA⟩
      obtain ⟨y, hy, rfl⟩ := map_at hx
      obtain ⟨s2, hs2, rfl⟩ : ∃ s2 : Spot, S2[i]? = some s2 ∧ s2.1 = y := by
        unfold plc at hy
        rw [List.getElem?_map] at hy
        cases q : S2[i]? with
        | none =>
          rw [q] at hy
          cases hy
        | some u =>
          rw [q] at hy
          exact ⟨u, rfl, Option.some.inj hy⟩
      have hil : i < S2.length := (List.getElem?_eq_some_iff.mp hs2).1
      obtain ⟨t, g1, g2⟩ := hs.val g.nd (hS2.mem_iff.mp (List.mem_of_getElem? hs2))
      have gd : G d = some (.dK kvs) := sG _ _ (sp _ _ hd)
      have gt := sG _ _ (sp _ _ g2)
      have al : acc.length = i := by
        have z := deAll_len hA
        rw [List.length_map, List.length_take] at z
        omega
      have look : DGet G d (.str s2.1) (some (.ref t)) := .inl ⟨kvs, .inr s2.1, .inl gd, rfl, g1.symm⟩
      refine ⟨rfl, V.str s2.1, rfl, V.ref d, rfl, V.str s2.1, rfl, d, .ref t, rfl, look, t, _, 0, .bl s2.2.1, rfl, rfl, .inl (.inl gt), rfl, V.ref d, rfl, V.str s2.1, rfl, d, .ref t, rfl, look, t, _, 1, .bl s2.2.2, rfl, rfl, .inl (.inl gt), rfl, (by show 3 ≤ sizeLine; decide), fun u nu => ?_⟩
      have sU := upd_new (o := .tup [V.str s2.1, V.bl s2.2.1, V.bl s2.2.2]) nu
      have hU : upd G u (.tup [V.str s2.1, V.bl s2.2.1, V.bl s2.2.2]) u = some (.tup [V.str s2.1, V.bl s2.2.1, V.bl s2.2.2]) := upd_same
      generalize upd G u (.tup [V.str s2.1, V.bl s2.2.1, V.bl s2.2.2]) = G2 at sU hU
      refine ⟨acc, sU _ _ hD, Nat.lt_of_le_of_lt (show acc.length ≤ 40 by omega) (by decide), ?_, _, upd_same, ?_⟩
      · intro b o e
        rw [upd_ne (ne_of_none e nD)]
        exact sU _ _ (sG _ _ e)
      · rw [take_snoc hs2, List.map_append]
        exact de_snoc (de_rowsD (sU _ _ hD) (de_monoAll sU _ _ hA)) (de_rowD (s := s2) (sU _ _ hD) (.tup hU (.cons (.str _) (.cons (.bl _) (.cons (.bl _) .nil)))))
    · rintro G ⟨sG, acc, hD, hA⟩
      have ez : ((plc S2).map V.str).length = S2.length := by
        unfold plc
        rw [List.length_map, List.length_map]
      rw [ez, List.take_length] at hA
      have g2 := g.perm hS2
      have wf := way_fine hL hn2 hn26 g2 z2
      have al : acc.length = S2.length := by
        have z := deAll_len hA
        rw [List.length_map] at z
        exact z
      intro x dx nx ndx ne
      have s0 : Same G (upd (upd G dx (.own x)) x (.ins CT dx [])) := fun b o e => by
        rw [upd_ne (ne_of_none e nx), upd_ne (ne_of_none e ndx)]
        exact e
      have hx0 : upd (upd G dx (.own x)) x (.ins CT dx []) x = some (.ins CT dx []) := upd_same
      generalize upd (upd G dx (.own x)) x (.ins CT dx []) = H2 at s0 hx0
      have sAll := (sp.trans sG).trans s0
      have lsz : ∀ z, PyData.str ls = .str z → z.cps.all (· < 128) = true ∧ z.cps.size ≤ 1000 := fun z e => by
        injection e with e
        subst e
        refine ⟨?_, by rw [hL.sz]; omega⟩
        rw [← Array.all_toList, List.all_eq_true]
        intro c hc
        have za : ∀ c ∈ alpha.cps.toList, c < 128 := by decide +kernel
        exact decide_eq_true (za c (hL.al c hc))
      refine ⟨x, dx, D, .str ls, .str ls, acc, S2.map rowD, rfl, hx0, .str _, lsz, .inl (s0 _ _ hD), de_monoAll s0 _ _ hA, fun dd hdd => ?_, by omega, hT.ext sAll, ?_, fun _ H3 fs hk3 hT3 hx3 hA3 => ⟨rfl, ?_⟩⟩
      · obtain ⟨s3, hs3, rfl⟩ := List.mem_map.mp hdd
        exact fit_row (Nat.le_trans (g2.sz _ (List.mem_map.mpr ⟨s3, hs3, rfl⟩)) (by decide))
      · rw [wf]
        exact ⟨(fun z => nomatch z), (fun n z => nomatch z), (fun i z => nomatch z), fun p z => nomatch z⟩
      · have xn : H x = none := by
          cases e : H x with
          | none => rfl
          | some o =>
            have z := sG _ _ (sp _ _ e)
            rw [nx] at z
            cases z
        refine kk H3 x S2 (fun b o e ht => ?_) hT3 hS2 ⟨g2.nd, x, dx, fs, rfl, hx3, hA3⟩
        exact hk3 _ _ (ne_of_none e xn) (sAll _ _ e) ht
end
end SK
namespace SK
open PySem PySem.Spec PyProof.Rows L2 LamX NdefX
open K0 (De DeAll XCl spX withX)
/-! ### the law's own cells -/
theorem ifne {p : Prop} [inst : Decidable p] {A B : Prop} (h1 : ¬p → A) (h2 : p → B) : if (!decide p) = true then A else B := by
  by_cases c : p
  · rw [decide_eq_true c]
    exact iteF (h2 c)
  · rw [decide_eq_false c]
    exact iteT (h1 c)
def relabelS (scope sc : Scope) : Scope :=
  { scope with names := scope.names.map fun (n, k) => if (k == .free && sc.kind == .function && sc.names.lookup n == some .cell) then (n, .cell) else (n, k) }
theorem blkOk_in {N : List Str} {env : Env} {sc lc scope : Scope} {own : List (Str × Nat)} (hs : env.scope = sc) (h : blkC N (relabelS lc sc) scope own = true) : BlkOk N (relabel lc env) scope own := by
  subst hs
  exact blkOk_by h
def bodyF : Stmt → List Stmt
  | .For _ _ b _ _ => b
  | .If _ b _ _ => b
  | _ => []
def asE : Stmt → Expr
  | .Assign _ e _ => e
  | _ => .Name "" ⟨0, 0, 0, 0⟩
def argE : Expr → Expr
  | .Call _ (a :: _) _ _ => a
  | e => e
def lcSc : Expr → Scope
  | .ListComp _ _ s _ => s
  | _ => { kind := .function, names := [], isGenerator := false, isCoroutine := false, more := [] }
def nthS (l : List Stmt) (i : Nat) : Stmt := l.getD i (.Pass ⟨0, 0, 0, 0⟩)
def anyE : Expr := argE (asE (nthS (bodyF (nthS (bodyF (nthS (defBody (top 37)) 1)) 1)) 2))
abbrev rSw : V → List V → Hp → VK → Prop := fun x xs H Q => ∃ a b : Str, x = .str a ∧ xs = [.str b] ∧ Q (.bl (Txt.startswith a b)) H
def teAny (K : PySem.W.Frag) : TE := tCB (rAny K) (tCons (tLc (iList K (tVar 2)) (gName 11) tYes (tM1 rSw (tVar 11) (tVar 8)) [11]) tNil)
def spLCells (K : PySem.W.Frag) : Sp := fun vs H Q _ => ∃ (d : Addr) (w : Str) (ls : Str) (kvs : List (Key × V)) (S : List Spot), vs = [.ref d, .str w] ∧ H d = some (.dK kvs) ∧ SpK H kvs S ∧ Gd ls S ∧ S.length ≤ 40 ∧ w.cps.size ≤ 20 ∧
  ∀ (H' : Hp) (v : Addr), Same H H' → De K H' (.ref v) (cellsD S w) → Q (.ref v) H'
abbrev NL : List Str := ["spots", "word", "kept", "found", "size", "place", "after", "below", "one", "others", "words", "word_kept"]
theorem any_flip {α : Type} (l : List α) (q : α → Bool) : (l.map q).any id = l.any q := by
  rw [List.any_map]
  rfl
section
variable {P : Program} {w : World} {K : PySem.W.Frag} {mg : Str → Option Value} {base : Heap} {f fW : Addr} {fd fdW : FuncData}
theorem scL : FnScope NL ["spots", "word"] (defScope (top 37)) := ⟨rfl, rfl, rfl, by decide +kernel, rfl, by decide +kernel, by decide +kernel⟩
theorem ok_lcells (F : Fun K "_law_cells" "_law_cells" (top 37) f fd) (gR : mg "range" = none) (gN : mg "len" = none) (gM : mg "min" = none) (gA : mg "any" = none) (gT : mg "tuple" = none)
    (gW : mg "_law_words" = some (.ref fW)) (kW : PySem.W.keepIn K (.ref fW) = true) (GW : FnOk P w K mg base CX0 1 fW fdW ["spots"] spWords) (bW : Binds K fdW ["spots"] []) : FnOk P w K mg base CX0 2 f fd ["spots", "word"] (spLCells K) := by
  have nd := scL.nd
  refine F.ok scL (fun vs H Q E h => ?_) (fun cdv A outer s H vs Q E hr h => ?_)
  · obtain ⟨d, w, ls, kvs, S, rfl, _⟩ := h
    rfl
  · obtain ⟨d, w, ls, kvs, S, rfl, hd, hs, g, hz, hw, kk⟩ := h
    have hu := hu_of hr
    have hwl : w.length ≤ sizeLine := Nat.le_trans hw (by decide)
    refine ⟨_, pss_cons (ps_asg (pe_tup (pa_cons (pe_call GW hr (by rfl) gW kW bW .nil pass0 (pa_cons (pv 0) pa_nil)) (pa_cons (pe_lst pa_nil) pa_nil))) (pg_tup (by rfl) (pgs_cons (pg_name (i := 2) nd rfl (Or.inr rfl)) (pgs_cons (pg_name (i := 3) nd rfl (Or.inl rfl)) pgs_nil))))
      (pss_cons (ps_for PassesOwn.never rfl (pi_range1 (by rfl) gR (pa_cons (pe_op op_add (pe_callB call_len_str (by rfl) gN PySem.boot_len (pa_cons (pv 1) pa_nil)) pe_int) pa_nil)) (pg_name (i := 4) nd rfl (Or.inr rfl))
        (pss_cons (ps_asg (pe_tup (pa_cons (pe_slice sl_str (pv 1) po_none (po_some (pv 4))) (pa_cons (pe_slice sl_str (pv 1) po_none (po_some (pe_op op_add (pv 4) pe_int))) pa_nil))) (pg_tup (by rfl) (pgs_cons (pg_name (i := 5) nd rfl (Or.inr rfl)) (pgs_cons (pg_name (i := 6) nd rfl (Or.inr rfl)) pgs_nil))))
        (pss_one (ps_if (pt_cmp (pc_din hu (pv 5) (pv 0)))
          (pss_cons (ps_lock (ps_setLc (i := 7) (own := [("one", 8)]) (g := gName 8) rfl nd rfl rfl (sw_true rfl rfl rfl (by decide +kernel)) (pi_keys (pv 0)) (blkOk_by (N := NL) (sc := defScope (top 37)) (by decide +kernel)) (fun _ _ _ _ _ => pg_name (i := 8) nd rfl (Or.inl rfl))
              (fun _ _ _ _ _ => pts_one (PW.pt (pw_and (pt_cmpR op_eq (pe_callB call_len_str (by rfl) gN PySem.boot_len (pa_cons (pv 8) pa_nil)) (pe_op op_add (pv 4) pe_int) (nomark _)) (pw_and1 (pt_val (pe_m1 PySem.F.slot_str_startswith PySem.F.type_str_startswith mt_startswith (pv 8) (pv 5))))))) (fun _ _ _ _ _ => pv 8)))
          (pss_cons (ps_setLc (i := 9) (own := [("one", 8)]) (g := gName 8) rfl nd rfl rfl (sw_true rfl rfl rfl (by decide +kernel)) (pi_list (pv 7)) (blkOk_by (N := NL) (sc := defScope (top 37)) (by decide +kernel)) (fun _ _ _ _ _ => pg_name (i := 8) nd rfl (Or.inl rfl))
              (fun _ _ _ _ _ => pts_one (PW.pt (pw_or (pt_cmpR op_ne (pv 8) (pv 6) (nomark _)) (pw_or1 (pt_cmpR op_eq (pv 4) (pe_callB call_len_str (by rfl) gN PySem.boot_len (pa_cons (pv 1) pa_nil)) (nomark _)))))) (fun _ _ _ _ _ => pv 8))
          (pss_cons (ps_set (i := 10) nd rfl (Or.inl rfl) (pe_callB (r := rAny K) (cr_any rfl) (by rfl) gA (by decide +kernel) (pa_cons (pe_lc (own := [("one", 8)]) (g := gName 8) (tt := tYes) (te := teAny K) rfl nd (pi_list (pv 9)) (blkOk_by (N := NL) (sc := defScope (top 37)) (by decide +kernel)) (fun _ _ _ _ _ => pg_name (i := 8) nd rfl (Or.inr rfl)) (fun _ _ _ _ _ => pts_nil)
              (fun _ _ _ _ _ => pe_callB (r := rAny K) (cr_any rfl) (by rfl) gA (by decide +kernel) (pa_cons (pe_lc (own := [("word_kept", 11)]) (g := gName 11) (tt := tYes) (te := tM1 rSw (tVar 11) (tVar 8)) rfl nd (pi_list (pv 2)) (blkOk_in (N := NL) (sc := defScope (top 37)) (lc := lcSc anyE) rfl (by decide +kernel)) (fun _ _ _ _ _ => pg_name (i := 11) nd rfl (Or.inl rfl)) (fun _ _ _ _ _ => pts_nil)
                (fun _ _ _ _ _ => pe_m1 PySem.F.slot_str_startswith PySem.F.type_str_startswith mt_startswith (pv 11) (pv 8))) pa_nil))) pa_nil)))
          (pss_one (ps_expr (pe_bm PySem.F.plainAttrs_list PySem.F.slot_list_append PySem.F.type_list_append mt_append (pv 3) (pa_cons (pe_tup (pa_cons (pe_ix (r := rIxT K) ix_tup (pe_dget hu (pv 0) (pv 5) (fun _ _ => rfl)) pe_int (fun _ _ => rfl)) (pa_cons (pe_ix (r := rIxT K) ix_tup (pe_dget hu (pv 0) (pv 5) (fun _ _ => rfl)) pe_int (fun _ _ => rfl))
              (pa_cons (pe_callB (call_min2 rfl) (by rfl) gM PyProof.Rows.boot_min (pa_cons pe_int (pa_cons (pe_callB call_len_seq (by rfl) gN PySem.boot_len (pa_cons (pv 9) pa_nil)) pa_nil))) (pa_cons (pv 10) pa_nil))))) pa_nil)))))))
          (pss_one (ps_expr (pe_bm PySem.F.plainAttrs_list PySem.F.slot_list_append PySem.F.type_list_append mt_append (pv 3) (pa_cons pe_non pa_nil))))))))
      (pss_one (ps_ret (pe_callTy call_tuple_of (by rfl) gT PyProof.Rows.boot_tuple (pa_cons (pv 3) pa_nil))))), ?_⟩
    refine ⟨V.ref d, rfl, d, kvs, S, rfl, hd, hs, g.nd, by omega, fun H1 kp ws s1 hkp hws => ⟨(by show 0 ≤ sizeLine; omega), fun fo nfo => ⟨(by show 2 ≤ sizeLine; decide), fun t nt => ⟨t, _, rfl, .inl (.inl upd_same), rfl, _, _, rfl, _, _, rfl, rfl, ?_⟩⟩⟩⟩
    have sF := upd_new (o := .lst []) nfo
    have sT := upd_new (o := .tup [V.ref kp, V.ref fo]) nt
    have hfo2 : upd (upd H1 fo (.lst [])) t (.tup [V.ref kp, V.ref fo]) fo = some (.lst []) := sT _ _ upd_same
    have s2 := (s1.trans sF).trans sT
    have hkp2 := sT _ _ (sF _ _ hkp)
    have nHf : H fo = none := by
      cases e : H fo with
      | none => rfl
      | some o =>
        rw [s1 _ _ e] at nfo
        cases nfo
    generalize upd (upd H1 fo (.lst [])) t (.tup [V.ref kp, V.ref fo]) = H2 at hfo2 s2 hkp2
    have nkf : kp ≠ fo := ne_of_none hkp nfo
    have wsl : ws.length ≤ 40 := by
      have z := hws.length_eq
      have z2 := List.length_filter_le (marked S) (plc S)
      unfold plc at z z2
      rw [List.length_map] at z2
      omega
    refine ⟨V.str w, rfl, w, rfl, hwl, w.length, 1, rfl, rfl, ?_⟩
    have hwn : w.length = w.cps.size := rfl
    refine ⟨_, rfl, (by rw [hwn]; omega), (by rw [hwn]; omega), for_it walk_range (fun i σ G => ∃ (x4 x5 x6 x7 x9 x10 : Option V) (acc : List V), σ = [some (.ref d), some (.str w), some (.ref kp), some (.ref fo), x4, x5, x6, x7, none, x9, x10, none] ∧ Same H G ∧ G kp = some (.lst (ws.map V.str)) ∧ G fo = some (.lst acc) ∧ DeAll K G acc ((List.range i).map fun n => cellD S w n (leaf S w n)))
      ⟨none, none, none, none, none, none, [], rfl, s2, hkp2, hfo2, .nil⟩ (fun _ _ _ _ _ => trivial) ?_ ?_⟩
    · rintro i x σ G G' hi ⟨x4, x5, x6, x7, x9, x10, acc, rfl, sG, hkG, hfG, hA⟩ ⟨rfl, rfl⟩
      have hi2 : i < w.cps.size + 1 := by
        have h2 : i < ((w.length : Int) + 1).toNat := hi
        rw [hwn] at h2
        omega
      have hil : i ≤ w.cps.toList.length := by
        rw [Array.length_toList]
        omega
      have ep : cutS w none (some (0 + (i : Int))) = preS w i := by
        unfold preS
        rw [Int.zero_add]
      have ea : cutS w none (some (0 + (i : Int) + 1)) = preS w (i + 1) := by
        unfold preS
        rw [Int.zero_add]
        rfl
      have al : acc.length = i := by
        have z := deAll_len hA
        rw [List.length_map, List.length_range] at z
        exact z
      refine ⟨V.str w, rfl, V.int (0 + i), rfl, _, rfl, w, rfl, hwl, V.str w, rfl, V.int (0 + i), rfl, _, 1, rfl, rfl, _, rfl, w, rfl, hwl, (by show 2 ≤ sizeLine; decide), fun t3 nt3 => ?_⟩
      rw [ep, ea]
      refine ⟨t3, _, rfl, .inl (.inl upd_same), rfl, _, _, rfl, _, _, rfl, rfl, ?_⟩
      have sU := upd_new (o := .tup [V.str (preS w i), V.str (preS w (i + 1))]) nt3
      have hkU := sU _ _ hkG
      have hfU := sU _ _ hfG
      have hAU := de_monoAll sU _ _ hA
      have sHU := sG.trans sU
      generalize upd G' t3 (.tup [V.str (preS w i), V.str (preS w (i + 1))]) = G1 at hkU hfU hAU sHU
      have hd1 := sHU _ _ hd
      have hs1 := hs.keep (H' := G1) fun t xs h => sHU _ _ h
      -- the step's end: one cell more
      have fin : ∀ (x4 x5 x6 x7 x9 x10 : Option V) (G2 : Hp) (v : V), Same G1 G2 → De K G2 v (cellD S w i (leaf S w i)) → ∃ (y4 y5 y6 y7 y9 y10 : Option V) (acc2 : List V), [some (V.ref d), some (.str w), some (.ref kp), some (.ref fo), x4, x5, x6, x7, none, x9, x10, none] = [some (.ref d), some (.str w), some (.ref kp), some (.ref fo), y4, y5, y6, y7, none, y9, y10, none] ∧ Same H (upd G2 fo (.lst (acc ++ [v]))) ∧ (upd G2 fo (.lst (acc ++ [v]))) kp = some (.lst (ws.map V.str)) ∧ (upd G2 fo (.lst (acc ++ [v]))) fo = some (.lst acc2) ∧ DeAll K (upd G2 fo (.lst (acc ++ [v]))) acc2 ((List.range (i + 1)).map fun n => cellD S w n (leaf S w n)) := fun y4 y5 y6 y7 y9 y10 G2 v s12 hv => by
        refine ⟨_, _, _, _, _, _, acc ++ [v], rfl, ?_, ?_, upd_same, ?_⟩
        · intro b o e
          rw [upd_ne (ne_of_none e nHf)]
          exact s12 _ _ (sHU _ _ e)
        · rw [upd_ne nkf]
          exact s12 _ _ hkU
        · rw [List.range_succ, List.map_append]
          exact de_snoc (de_flatAll (s12 _ _ hfU) (fun d hd => by
            obtain ⟨n, _, rfl⟩ := List.mem_map.mp hd
            exact cell_flat _ _ _ _) (de_monoAll s12 _ _ hAU)) (de_flat (s12 _ _ hfU) (cell_flat _ _ _ _) hv)
      have accl : acc.length < sizeLine := by
        rw [al]
        exact Nat.lt_of_le_of_lt (show i ≤ 1000 by omega) (by decide)
      refine ⟨V.str (preS w i), rfl, V.ref d, rfl, d, _, rfl, DGet.k (k := (.inr (preS w i) : Key)) hd1, _, rfl, ?_⟩
      have eh : (valV kvs (.inr (preS w i))).isSome = decide (preS w i ∈ plc S) := by
        rw [← valV_any]
        exact hs.any _
      rw [eh]
      by_cases hp : preS w i ∈ plc S
      · rw [decide_eq_true hp]
        refine iteT ?_
        obtain ⟨sp, hsp, esp⟩ := List.mem_map.mp hp
        refine ⟨d, .dK kvs, hd1, trivial, fun od => ⟨V.ref d, rfl, d, od, rfl, .inl ⟨kvs, upd_same, fun D nD => lcF_keys (ws := S) (·.1) nD upd_same hs1.keyS (fun s => V.str s.1) (fun s => decide (s.1.cps.size = i + 1) && Txt.startswith s.1 (preS w i)) (Nat.lt_of_le_of_lt hz (by decide)) (fun j s G hsj sGj A B hA hB => ?_) fun G sGL hDG => ?_⟩⟩⟩
        · have ssz : s.1.length ≤ sizeLine := Nat.le_trans (g.sz _ (List.mem_map.mpr ⟨s, List.mem_of_getElem? hsj, rfl⟩)) (by decide)
          refine ⟨rfl, V.str s.1, rfl, s.1, rfl, ssz, V.int (0 + i), rfl, _, 1, rfl, rfl, rfl, _, rfl, ?_⟩
          refine ite2 (fun c => ?_) (fun c => ?_)
          · have c' : s.1.cps.size = i + 1 := by
              have c := of_decide_eq_true c
              injection c with c
              have c : (s.1.cps.size : Int) = 0 + (i : Int) + 1 := c
              omega
            refine ⟨V.str s.1, rfl, ⟨_, rfl⟩, V.str (preS w i), rfl, s.1, preS w i, rfl, rfl, _, rfl, ?_⟩
            cases e : Txt.startswith s.1 (preS w i) with
            | true => exact iteT ⟨V.str s.1, rfl, hA (by rw [decide_eq_true c', e]; rfl)⟩
            | false => exact iteF (hB (by rw [e, Bool.and_false]))
          · refine iteF (hB ?_)
            have c' : ¬ s.1.cps.size = i + 1 := fun z => c (decide_eq_true (by
              show V.int (s.1.cps.size : Int) = V.int (0 + (i : Int) + 1)
              rw [z]
              congr 1
              omega))
            rw [decide_eq_false c', Bool.false_and]
        refine ⟨sGL _ _ upd_same, ?_⟩
        have s1G := unlock_same hd1 sGL
        have nDd : D ≠ d := ne_of hDG (sGL _ _ upd_same) (by intro z; cases z)
        have eB : (S.filter fun s => decide (s.1.cps.size = i + 1) && Txt.startswith s.1 (preS w i)).map (fun s => V.str s.1) = ((plc S).filter fun r => decide (r.cps.size = i + 1) && Txt.startswith r (preS w i)).map V.str := by
          unfold plc
          rw [List.filter_map, List.map_map]
          rfl
        have hD1 : upd G d (.dK kvs) D = some (.lst (((plc S).filter fun r => decide (r.cps.size = i + 1) && Txt.startswith r (preS w i)).map V.str)) := by
          rw [upd_ne nDd, hDG, eB]
        generalize upd G d (.dK kvs) = G2 at s1G hD1
        clear hDG sGL nD eB
        have plz : (plc S).length ≤ 40 := by
          unfold plc
          rw [List.length_map]
          exact hz
        have lB : ((plc S).filter fun r => decide (r.cps.size = i + 1) && Txt.startswith r (preS w i)).length ≤ 40 := Nat.le_trans (List.length_filter_le _ _) plz
        refine ⟨V.ref D, rfl, D, rfl, ⟨_, .inl (.inl hD1)⟩, fun D2 nD2 => lcF_list (K := K) (ws := (plc S).filter fun r => decide (r.cps.size = i + 1) && Txt.startswith r (preS w i)) V.str nD2 V.str (fun r => !decide (r = preS w (i + 1)) || decide (i = w.cps.size)) (.inl (.inl hD1)) (Nat.lt_of_le_of_lt lB (by decide)) (fun j r G hr sGj A B hA hB => ?_) fun G3 sG3 hO => ?_⟩
        · refine ⟨rfl, V.str r, rfl, V.str (preS w (i + 1)), rfl, rfl, _, rfl, ?_⟩
          refine ifne (fun c => ?_) (fun c => ?_)
          · refine iteT ⟨V.str r, rfl, hA ?_⟩
            rw [decide_eq_false fun z => c (by rw [z])]
            rfl
          · have c' : r = preS w (i + 1) := by injection c
            refine ⟨V.int (0 + i), rfl, V.str w, rfl, w, rfl, hwl, rfl, _, rfl, ?_⟩
            refine ite2 (fun c2 => ?_) (fun c2 => ?_)
            · refine ⟨V.str r, rfl, hA ?_⟩
              have z : i = w.cps.size := by
                have c2 := of_decide_eq_true c2
                injection c2 with c2
                have c2 : (0 + (i : Int)) = (w.cps.size : Int) := c2
                omega
              rw [decide_eq_true z, Bool.or_true]
            · refine hB ?_
              have z : ¬ i = w.cps.size := fun z => c2 (decide_eq_true (by
                show V.int (0 + (i : Int)) = V.int (w.cps.size : Int)
                rw [z]
                congr 1
                omega))
              rw [decide_eq_true c', decide_eq_false z]
              rfl
        have eO : ((plc S).filter fun r => decide (r.cps.size = i + 1) && Txt.startswith r (preS w i)).filter (fun r => !decide (r = preS w (i + 1)) || decide (i = w.cps.size)) = (plc S).filter (othP w i) := by
          rw [List.filter_filter]
          refine List.filter_congr fun r _ => ?_
          unfold othP
          rw [Bool.and_comm]
        rw [eO] at hO
        have lO : ((plc S).filter (othP w i)).length ≤ 40 := Nat.le_trans (List.length_filter_le _ _) plz
        have s13 := s1G.trans sG3
        have hk3 := s13 _ _ hkU
        generalize hOO : (plc S).filter (othP w i) = O at hO lO
        refine ⟨V.ref D2, rfl, D2, rfl, ⟨_, .inl (.inl hO)⟩, fun D3 nD3 => lc_list (K := K) (a := D2) (xs := O.map V.str) (fun j G => Same G3 G ∧ G D3 = some (.lst ((O.take j).map fun r => V.bl (ws.any fun p => Txt.startswith p r)))) ⟨upd_new nD3, upd_same⟩ (fun j G _ q => .inl (.inl (q.1 _ _ hO))) ?_ ?_⟩
        · rintro j x G hx ⟨sGj, hDj⟩
          obtain ⟨r, hr, rfl⟩ := map_at hx
          have hkj := sGj _ _ hk3
          refine ⟨rfl, V.ref kp, rfl, kp, rfl, ⟨_, .inl (.inl hkj)⟩, fun D4 nD4 => lcF_list (K := K) (ws := ws) V.str nD4 (fun p => V.bl (Txt.startswith p r)) (fun _ => true) (.inl (.inl hkj)) (Nat.lt_of_le_of_lt wsl (by decide)) (fun m p G hp sGm A B hA hB => ⟨rfl, V.str p, rfl, ⟨_, rfl⟩, V.str r, rfl, p, r, rfl, rfl, hA rfl⟩) fun G4 sGm hD4 => ?_⟩
          refine ⟨D4, ws.map fun p => Txt.startswith p r, rfl, .inl (.inl ?_), _, sGm _ _ hDj, ?_, ?_, ?_⟩
          · rw [hD4, List.map_map, List.filter_eq_self.mpr fun _ _ => rfl]
            rfl
          · rw [List.length_map, List.length_take]
            exact Nat.lt_of_le_of_lt (show min j O.length ≤ 40 by omega) (by decide)
          · intro b o e
            rw [upd_ne (ne_of_none e nD3)]
            exact sGm _ _ (sGj _ _ e)
          · rw [upd_same, take_snoc hr, List.map_append, any_flip]
            rfl
        · rintro G5 ⟨sG5, hD5⟩
          rw [List.length_map, List.take_length] at hD5
          have s15 := s13.trans sG5
          obtain ⟨t, g1, g2⟩ := hs1.val g.nd hsp
          rw [esp] at g1
          have look : DGet G5 d (.str (preS w i)) (some (.ref t)) := .inl ⟨kvs, .inr (preS w i), .inl (s15 _ _ hd1), rfl, g1.symm⟩
          have gt := s15 _ _ g2
          have hf5 := s15 _ _ hfU
          have hO5 := sG5 _ _ hO
          have ek : (O.map V.str).length = oth S w i := by
            rw [List.length_map, oth_eq S w i hil, hOO]
          refine ⟨D3, O.map fun r => ws.any fun p => Txt.startswith p r, rfl, .inl (.inl (by rw [List.map_map]; exact hD5)), ?_⟩
          refine ⟨V.ref fo, rfl, .inl ⟨rfl, _, .inl (.inl hf5)⟩, V.ref d, rfl, V.str (preS w i), rfl, d, .ref t, rfl, look, t, _, 0, .bl sp.2.1, rfl, rfl, .inl (.inl gt), rfl, V.ref d, rfl, V.str (preS w i), rfl, d, .ref t, rfl, look, t, _, 1, .bl sp.2.2, rfl, rfl, .inl (.inl gt), rfl,
            V.ref D2, rfl, D2, _, rfl, .inl (.inl (.inl hO5)), 2, (O.map V.str).length, rfl, _, rfl, (by show 4 ≤ sizeLine; decide), fun u nu => ?_⟩
          rw [ek]
          have s6 := upd_new (o := .tup [V.bl sp.2.1, V.bl sp.2.2, V.int (min2 (oth S w i)), V.bl ((O.map fun r => ws.any fun p => Txt.startswith p r).any id)]) nu
          have hu6 : upd G5 u (.tup [V.bl sp.2.1, V.bl sp.2.2, V.int (min2 (oth S w i)), V.bl ((O.map fun r => ws.any fun p => Txt.startswith p r).any id)]) u = some (.tup [V.bl sp.2.1, V.bl sp.2.2, V.int (min2 (oth S w i)), V.bl ((O.map fun r => ws.any fun p => Txt.startswith p r).any id)]) := upd_same
          refine ⟨fo, acc, V.ref u, rfl, rfl, s6 _ _ hf5, accl, ?_⟩
          refine fin _ _ _ _ _ _ _ (.ref u) (s15.trans s6) ?_
          rw [cell_yes g.nd hsp esp, leaf_iff g hil]
          have ew : ((plc S).filter (othP w i)).any (fun one => ((plc S).filter (marked S)).any fun p => Txt.startswith p one) = (O.map fun r => ws.any fun p => Txt.startswith p r).any id := by
            rw [any_flip, hOO]
            congr 1
            funext one
            exact (any_perm hws).symm
          rw [ew]
          exact .tup hu6 (.cons (.bl _) (.cons (.bl _) (.cons (.int _) (.cons (.bl _) .nil))))
      · rw [decide_eq_false hp]
        refine iteF ?_
        refine ⟨V.ref fo, rfl, .inl ⟨rfl, _, .inl (.inl hfU)⟩, fo, acc, V.non, rfl, rfl, hfU, accl, ?_⟩
        refine fin _ _ _ _ _ _ G1 .non (Same.refl _) ?_
        rw [cell_no hp]
        exact .non
    · rintro σ G ⟨x4, x5, x6, x7, x9, x10, acc, rfl, sG, hkG, hfG, hA⟩
      have e : ((w.length : Int) + 1).toNat = w.cps.size + 1 := by
        rw [hwn]
        omega
      rw [e] at hA
      refine ⟨V.ref fo, rfl, fo, acc, rfl, .inl ⟨.inl (.inl hfG), fun l nl => ?_⟩⟩
      have s6 := upd_new (o := .tup acc) nl
      exact kk _ _ (sG.trans s6) (.tup upd_same (de_monoAll s6 _ _ hA))
end
end SK
namespace SK
open PySem PySem.Spec PyProof.Rows L2 LamX NdefX
open K0 (De DeAll XCl spX withX)
/-! ### what stays while the pen is used -/
mutual
theorem de_but {K : PySem.W.Frag} {H H' : Hp} {p : Addr} {kv : Key × V} {kvs : List (Key × V)} (hp : H p = some (.dK (kv :: kvs))) (m : SameBut p H H') : ∀ {d : PyData} {v : V}, De K H v d → De K H' v d
  | _, _, .non => .non
  | _, _, .bl b => .bl b
  | _, _, .int i => .int i
  | _, _, .str x => .str x
  | _, _, .lst ha hd => .lst (m _ _ (ne_of ha hp (by intro z; cases z)) ha) (de_butAll hp m hd)
  | _, _, .tup ha hd => .tup (m _ _ (ne_of ha hp (by intro z; cases z)) ha) (de_butAll hp m hd)
  | _, _, .dic ha => .dic (m _ _ (ne_of ha hp (by intro z; cases z)) ha)
theorem de_butAll {K : PySem.W.Frag} {H H' : Hp} {p : Addr} {kv : Key × V} {kvs : List (Key × V)} (hp : H p = some (.dK (kv :: kvs))) (m : SameBut p H H') : ∀ {ds : List PyData} {vs : List V}, DeAll K H vs ds → DeAll K H' vs ds
  | _, _, .nil => .nil
  | _, _, .cons h1 h2 => .cons (de_but hp m h1) (de_butAll hp m h2)
end
theorem Tabs.pen {T : List (Addr × Str)} {H H' : Hp} {p : Addr} {kvs : List (Key × V)} (t : Tabs T H) (hp : H p = some (.dK kvs)) (e : SameBut p H H') : Tabs T H' := fun q hq => by
  obtain ⟨ps, h1, h2, h3⟩ := t q hq
  refine ⟨ps, e _ _ (fun z => by rw [z, hp] at h1; cases h1) h1, h2, fun pos cv hc => ?_⟩
  obtain ⟨c, e1, e2⟩ := h3 pos cv hc
  refine ⟨c, e1, e _ _ (fun z => ?_) e2⟩
  rw [z, hp] at e2
  unfold CodeO at e2
  cases e2
theorem pen_root (l : Addr) (k lf : Int) : valV (pen l k lf) (Sum.inr (Str.ofString "")) = none := by kernel_rfl
theorem PenAt.ext {H H' : Hp} {p l : Addr} {ns : List Int} {k lf : Int} (h : PenAt H p l ns k lf) (s : ExtN H H') : PenAt H' p l ns k lf := ⟨s _ _ h.dc (fun ps z => nomatch z), s _ _ h.ls (fun ps z => nomatch z)⟩
theorem PenAt.same {H H' : Hp} {p l : Addr} {ns : List Int} {k lf : Int} (h : PenAt H p l ns k lf) (s : Same H H') : PenAt H' p l ns k lf := ⟨s _ _ h.dc, s _ _ h.ls⟩
theorem TreeR.but {K : PySem.W.Frag} {CT : Addr} {H H' : Hp} {x : V} {S : List Spot} {p l : Addr} {ns : List Int} {k lf : Int} (t : TreeR K CT H x S) (hr : Str.ofString "" ∈ plc S) (hp : PenAt H p l ns k lf) (m : SameBut p H H') : TreeR K CT H' x S := by
  obtain ⟨nd, a, dx, fs, e, h, B, Tb, l2, kvs, kv2, ps, e1, e2, e3, e4, h1, h2, h3, h4, h5, h6, h7, h8⟩ := t
  have nT : Tb ≠ p := fun z => by
    rw [z, hp.dc] at h1
    have q : kvs = pen l k lf := by
      injection h1 with h1
      injection h1 with h1
      exact h1.symm
    have w := tab_has h2 (Str.ofString "")
    rw [q, pen_root, decide_eq_true hr] at w
    cases w
  have nB : B ≠ p := fun z => by
    rw [z, hp.dc] at h3
    have q : kv2 = pen l k lf := by
      injection h3 with h3
      injection h3 with h3
      exact h3.symm
    have w := h4.has (Str.ofString "")
    rw [places_rows] at h7
    rw [q, pen_root, decide_eq_true (h7.mem_iff.mpr hr)] at w
    cases w
  have dc := hp.dc
  unfold pen at dc
  refine ⟨nd, a, dx, fs, e, m _ _ (ne_of h hp.dc (by intro z; cases z)) h, B, Tb, l2, kvs, kv2, ps, e1, e2, e3, e4, m _ _ nT h1, ⟨h2.1, fun i d hd => ?_⟩, m _ _ nB h3, h4, h5, m _ _ (ne_of h6 hp.dc (by intro z; cases z)) h6, h7, h8⟩
  obtain ⟨v, g1, g2⟩ := h2.2 i d hd
  exact ⟨v, g1, de_but dc m g2⟩
/-- the rows of a tree -/
theorem tree_rows {K : PySem.W.Frag} {CT : Addr} {H : Hp} {x : V} {S : List Spot} (t : TreeR K CT H x S) : ∃ (a dx : Addr) (fs : List (Str × V)) (l : Addr) (xs : List V) (S2 : List Spot), x = .ref a ∧ H a = some (.ins CT dx fs) ∧ fs.lookup ("rows" : Str) = some (.ref l) ∧ H l = some (.tup xs) ∧ S2.Perm S ∧ xs.length = S2.length ∧
    ∀ (i : Nat) (s : Spot), S2[i]? = some s → ∃ u : Addr, xs[i]? = some (.ref u) ∧ H u = some (.tup [.str s.1, .bl s.2.1, .bl s.2.2]) := by
  obtain ⟨nd, a, dx, fs, e, h, B, Tb, l2, kvs, kv2, ps, e1, e2, e3, e4, h1, h2, h3, h4, h5, h6, h7, h8⟩ := t
  rw [places_rows] at h7
  obtain ⟨S2, p2, rfl⟩ := perm_lift nd h7
  refine ⟨a, dx, fs, l2, _, S2, e, h, e3, h6, p2, ?_, fun i s hs => ?_⟩
  · unfold plc
    rw [List.length_map, List.length_map]
  · obtain ⟨u, g1, g2⟩ := tab_get nd h2 (p2.mem_iff.mp (List.mem_of_getElem? hs))
    refine ⟨u, ?_, g2⟩
    unfold plc
    rw [List.getElem?_map, List.getElem?_map, hs]
    show some ((valV kvs (.inr s.1)).getD .non) = _
    rw [g1]
    rfl
/-! ### cells of a permuted list, as text -/
theorem cellsD_perm {S S2 : List Spot} (nd : (plc S).Nodup) (h : S2.Perm S) (w : Str) : cellsD S2 w = cellsD S w := by
  have hp : (plc S2).Perm (plc S) := h.map _
  have nd2 : (plc S2).Nodup := hp.nodup_iff.mpr nd
  have em : ∀ y, marked S2 y = marked S y := fun y => any_perm h
  unfold cellsD
  congr 1
  refine List.map_congr_left fun n _ => ?_
  have el : leaf S2 w n = leaf S w n := by
    unfold leaf leafAt
    have e : (plc S2).filter (marked S2) = (plc S2).filter (marked S) := List.filter_congr fun y _ => em y
    rw [e]
    exact any_perm (hp.filter _)
  have eo : oth S2 w n = oth S w n := by
    unfold oth belL
    exact ((hp.filterMap _).filter _).length_eq
  by_cases c : preS w n ∈ plc S
  · obtain ⟨s, hs, es⟩ := List.mem_map.mp c
    rw [cell_yes nd hs es, cell_yes nd2 (h.mem_iff.mpr hs) es, eo, el]
  · rw [cell_no c, cell_no fun z => c (hp.mem_iff.mp z)]
theorem flat_all {d : PyData} (f : FlatD d) (hi : ∀ (a b : Bool) (i : Int) (c : Bool), d = .tuple [.bool a, .bool b, .int i, .bool c] → i = 0 ∨ i = 1 ∨ i = 2) : d.showable = true ∧ d.depth ≤ 1 ∧ d.leavesShort 8 = true ∧ d.weight ≤ 10 := by
  rcases f with rfl | ⟨a, b, i, c, rfl⟩
  · exact ⟨rfl, by simp [PyData.depth], rfl, by simp [PyData.weight]⟩
  · rcases hi a b i c rfl with rfl | rfl | rfl <;> cases a <;> cases b <;> cases c <;> exact ⟨by decide +kernel, by decide +kernel, by decide +kernel, by decide +kernel⟩
theorem cell_int (S : List Spot) (w : Str) (n : Nat) (b : Bool) (x y : Bool) (i : Int) (c : Bool) (h : cellD S w n b = .tuple [.bool x, .bool y, .int i, .bool c]) : i = 0 ∨ i = 1 ∨ i = 2 := by
  unfold cellD at h
  split at h
  · cases h
  · injection h with h
    injection h with h1 h
    injection h with h2 h
    injection h with h3 h
    injection h3 with h3
    rw [← h3]
    unfold min2
    split <;> omega
theorem all_flat : ∀ (ds : List PyData), (∀ d ∈ ds, d.showable = true ∧ d.depth ≤ 1 ∧ d.leavesShort 8 = true ∧ d.weight ≤ 10) → PyData.showableAll ds = true ∧ PyData.depthAll ds ≤ 1 ∧ PyData.leavesShortAll 8 ds = true ∧ PyData.weightAll ds ≤ 11 * ds.length
  | [], _ => ⟨rfl, by simp [PyData.depthAll], rfl, by simp [PyData.weightAll]⟩
  | d :: ds, h => by
    obtain ⟨a1, a2, a3, a4⟩ := all_flat ds fun e he => h e (List.mem_cons_of_mem _ he)
    obtain ⟨b1, b2, b3, b4⟩ := h d (by simp)
    refine ⟨by simp [PyData.showableAll, a1, b1], by simp only [PyData.depthAll]; omega, by simp [PyData.leavesShortAll, a3, b3], ?_⟩
    simp only [PyData.weightAll, List.length_cons]
    omega
theorem cells_show (S : List Spot) {w : Str} (h : w.cps.size ≤ 20) : (cellsD S w).showable = true ∧ (cellsD S w).depth ≤ 8 ∧ (cellsD S w).shown.length ≤ sizeLine := by
  have z := all_flat ((List.range (w.cps.size + 1)).map fun n => cellD S w n (leaf S w n)) fun d hd => by
    obtain ⟨n, _, rfl⟩ := List.mem_map.mp hd
    exact flat_all (cell_flat _ _ _ _) fun a b i c e => cell_int _ _ _ _ _ _ _ _ e
  obtain ⟨a1, a2, a3, a4⟩ := z
  rw [List.length_map, List.length_range] at a4
  unfold cellsD
  refine ⟨by simpa only [PyData.showable] using a1, by simp only [PyData.depth]; omega, PyData.shown_fits (B := 8) (by decide) (by decide) (by simpa only [PyData.leavesShort] using a3) ?_⟩
  simp only [PyData.weight]
  have : (2 : Nat) ^ 20 = 1048576 := by decide
  omega
/-! ### the pairs of rows -/
def pairD (s : Spot) : PyData := .tuple [.str s.1, .tuple [.bool s.2.1, .bool s.2.2]]
def PairV (H : Hp) (D : Addr) (s : Spot) (v : V) : Prop := ∃ t u : Addr, v = .ref t ∧ t ≠ D ∧ u ≠ D ∧ H t = some (.tup [.str s.1, .ref u]) ∧ H u = some (.tup [.bl s.2.1, .bl s.2.2])
inductive PairsV (H : Hp) (D : Addr) : List Spot → List V → Prop
  | nil : PairsV H D [] []
  | snoc {S : List Spot} {vs : List V} {s : Spot} {v : V} : PairsV H D S vs → PairV H D s v → PairsV H D (S ++ [s]) (vs ++ [v])
theorem PairV.mono {H H' : Hp} {D : Addr} {s : Spot} {v : V} (h : PairV H D s v) (m : ∀ b o, b ≠ D → H b = some o → H' b = some o) : PairV H' D s v := by
  obtain ⟨t, u, e, n1, n2, h1, h2⟩ := h
  exact ⟨t, u, e, n1, n2, m _ _ n1 h1, m _ _ n2 h2⟩
theorem PairsV.mono {H H' : Hp} {D : Addr} (m : ∀ b o, b ≠ D → H b = some o → H' b = some o) : ∀ {S : List Spot} {vs : List V}, PairsV H D S vs → PairsV H' D S vs
  | _, _, .nil => .nil
  | _, _, .snoc a b => .snoc (PairsV.mono m a) (b.mono m)
theorem PairsV.len {H : Hp} {D : Addr} : ∀ {S : List Spot} {vs : List V}, PairsV H D S vs → vs.length = S.length
  | _, _, .nil => rfl
  | _, _, .snoc a b => by rw [List.length_append, List.length_append, PairsV.len a]; rfl
theorem dp_snoc {K : PySem.W.Frag} {H : Hp} : ∀ {vs : List V} {ds : List PyData} {v : V} {d : PyData}, DpAll K H vs ds → Dp K H v d → DpAll K H (vs ++ [v]) (ds ++ [d])
  | _, _, _, _, .nil, h => .cons h .nil
  | _, _, _, _, .cons h1 t, h => .cons h1 (dp_snoc t h)
theorem PairsV.dp {K : PySem.W.Frag} {H : Hp} {D : Addr} : ∀ {S : List Spot} {vs : List V}, PairsV H D S vs → DpAll K H vs (S.map pairD)
  | _, _, .nil => .nil
  | _, _, .snoc a b => by
    obtain ⟨t, u, rfl, n1, n2, h1, h2⟩ := b
    rw [List.map_append]
    exact dp_snoc (PairsV.dp a) (.tup (.inl (.inl h1)) (.cons (.str _) (.cons (.tup (.inl (.inl h2)) (.cons (.bl _) (.cons (.bl _) .nil))) .nil)))
theorem pairs_shaped : ∀ S : List Spot, (∀ s ∈ S, PyData.strOk s.1 = true) → PyData.canLayAll0 (S.map pairD) = true ∧ PyData.depthAll (S.map pairD) ≤ 2
  | [], _ => ⟨rfl, by simp [PyData.depthAll]⟩
  | s :: S, h => by
    obtain ⟨a1, a2⟩ := pairs_shaped S fun t ht => h t (List.mem_cons_of_mem _ ht)
    have b := h s (by simp)
    rw [List.map_cons]
    refine ⟨by simp [PyData.canLayAll0, PyData.canLay0, pairD, b, a1], ?_⟩
    have e : (pairD s).depth ≤ 2 := by simp [pairD, PyData.depth, PyData.depthAll]
    simp only [PyData.depthAll]
    omega
theorem pairs_ne {K : PySem.W.Frag} {H : Hp} {D1 D2 : Addr} {S : List Spot} {vs us : List V} {R : VK} (hS : ∀ s ∈ S, PyData.strOk s.1 = true) (h1 : H D1 = some (.lst vs)) (h2 : H D2 = some (.lst us)) (p1 : PairsV H D1 S vs) (p2 : PairsV H D2 S us) (k : R (.bl false) H) : rNeD K (.ref D1) (.ref D2) H R := by
  obtain ⟨a1, a2⟩ := pairs_shaped S hS
  have sh : SeqAt.shaped (.list (S.map pairD)) = true := by
    have d1 : (PyData.list (S.map pairD)).depth ≤ 64 := by
      have e : (PyData.list (S.map pairD)).depth = PyData.depthAll (S.map pairD) + 1 := by simp only [PyData.depth]
      omega
    have c1 : (PyData.list (S.map pairD)).canLay0 = true := by
      simp only [PyData.canLay0]
      exact a1
    unfold SeqAt.shaped
    rw [c1, decide_eq_true d1]
    rfl
  refine ⟨.list (S.map pairD), .list (S.map pairD), .lst (.inl (.inl h1)) p1.dp, .lst (.inl (.inl h2)) p2.dp, sh, sh, ?_⟩
  rw [SeqAt.eqv_refl _ (SeqAt.canLay_of_shaped sh)]
  exact k
theorem alpha_ok {ls : Str} {n : Nat} (h : Lts ls n) {x : Str} (hx : ∀ c ∈ x.cps.toList, c ∈ ls.cps.toList) : PyData.strOk x = true := by
  unfold PyData.strOk
  rw [← Array.all_toList, List.all_eq_true]
  intro c hc
  have za : ∀ c ∈ alpha.cps.toList, c < 128 := by decide +kernel
  exact decide_eq_true (by have := za c (h.al c (hx c hc)); omega)
end SK
namespace SK
open PySem PySem.Spec PyProof.Rows L2 LamX NdefX
open K0 (De DeAll XCl spX withX)
/-! ### the law -/
def spLaw (K : PySem.W.Frag) (T : List (Addr × Str)) : Sp := fun vs H Q _ => ∃ (a : Addr) (ns : List Int), vs = [.ref a] ∧ SqL K H a (ns.map V.int) ∧ ns.length ≤ 63 ∧ Tabs T H ∧ ∀ H', Q (.bl true) H'
abbrev NW : List Str := ["script", "pen", "turn", "letters", "spots", "tree", "places", "k", "word", "due", "found", "row", "one"]
theorem size_app (x y : Str) : (x ++ y).cps.size = x.cps.size + y.cps.size := by
  show (x.cps ++ y.cps).size = _
  exact Array.size_append
section
variable {P : Program} {w : World} {K : PySem.W.Frag} {mg : Str → Option Value} {base : Heap} {f fPen fD fLe fSp fM fPi fWo fLC fC CT : Addr} {fd fdPen fdD fdLe fdSp fdM fdPi fdWo fdLC fdC : FuncData} {T : List (Addr × Str)}
theorem scW : FnScope NW ["script"] (defScope (top 38)) := ⟨rfl, rfl, rfl, by decide +kernel, rfl, by decide +kernel, by decide +kernel⟩
theorem ok_law (F : Fun K "law" "law" (top 38) f fd) (R : TreeC K CT) (gR : mg "range" = none) (gS : mg "sorted" = none) (gRep : mg "repr" = none) (gN : mg "len" = none) (hsys : ∃ o, K.lookup sysModules = some o)
    (gPen : mg "_law_pen_of" = some (.ref fPen)) (kPen : PySem.W.keepIn K (.ref fPen) = true) (GPen : FnOk P w K mg base CX0 1 fPen fdPen ["script"] (spPen K)) (bPen : Binds K fdPen ["script"] [])
    (gD : mg "_law_draw" = some (.ref fD)) (kD : PySem.W.keepIn K (.ref fD) = true) (GD : FnOk P w K mg base CX0 1 fD fdD ["pen", "many"] spDraw) (bD : Binds K fdD ["pen", "many"] [])
    (gLe : mg "_law_letters_of" = some (.ref fLe)) (kLe : PySem.W.keepIn K (.ref fLe) = true) (GLe : FnOk P w K mg base CX0 2 fLe fdLe ["pen", "many"] spLetters) (bLe : Binds K fdLe ["pen", "many"] [])
    (gSp : mg "_law_spots_drawn" = some (.ref fSp)) (kSp : PySem.W.keepIn K (.ref fSp) = true) (GSp : FnOk P w K mg base CX0 4 fSp fdSp ["pen", "letters", "most"] spSpots) (bSp : Binds K fdSp ["pen", "letters", "most"] [])
    (gM : mg "_law_tree_made" = some (.ref fM)) (kM : PySem.W.keepIn K (.ref fM) = true) (GM : FnOk P w K mg base CX0 8 fM fdM ["letters", "spots"] (spMade K CT T)) (bM : Binds K fdM ["letters", "spots"] [])
    (gPi : mg "_law_pick" = some (.ref fPi)) (kPi : PySem.W.keepIn K (.ref fPi) = true) (GPi : FnOk P w K mg base CX0 2 fPi fdPi ["pen", "menu"] spPick) (bPi : Binds K fdPi ["pen", "menu"] [])
    (gWo : mg "_law_word_of" = some (.ref fWo)) (kWo : PySem.W.keepIn K (.ref fWo) = true) (GWo : FnOk P w K mg base CX0 3 fWo fdWo ["pen", "letters", "size"] spWordOf) (bWo : Binds K fdWo ["pen", "letters", "size"] [])
    (gLC : mg "_law_cells" = some (.ref fLC)) (kLC : PySem.W.keepIn K (.ref fLC) = true) (GLC : FnOk P w K mg base CX0 2 fLC fdLC ["spots", "word"] (spLCells K)) (bLC : Binds K fdLC ["spots", "word"] [])
    (gC : mg "cells" = some (.ref fC)) (kC : PySem.W.keepIn K (.ref fC) = true) (GC : FnOk P w K mg base CX0 4 fC fdC ["tree", "word"] (spCells K CT)) (bC : Binds K fdC ["tree", "word"] []) :
    FnG P w K mg base CX0 9 f fd ["script"] (spLaw K T) := by
  have nd := scW.nd
  refine FnG.ok F scW (fun vs H Q E h => ?_) (fun cdv A outer s H vs Q E hg hr h => ?_)
  · obtain ⟨a, ns, rfl, _⟩ := h
    rfl
  · obtain ⟨a, ns, rfl, hS, hn, hT, kk⟩ := h
    have hu := hu_of hr
    have hu64 := hr.units
    have hr1 : Room 1 _ := hr.mono (by decide)
    have hr2 : Room 2 _ := hr.mono (by decide)
    have hr3 : Room 3 _ := hr.mono (by decide)
    have hr4 : Room 4 _ := hr.mono (by decide)
    refine ⟨_, pss_cons (ps_set (i := 1) nd rfl (Or.inl rfl) (pe_call GPen hr1 (by rfl) gPen kPen bPen .nil pass0 (pa_cons (pv 0) pa_nil)))
      (pss_cons (ps_for PassesOwn.never rfl (pi_range1 (by rfl) gR (pa_cons pe_int pa_nil)) (pg_name (i := 2) nd rfl (Or.inl rfl))
        (pss_cons (ps_set (i := 3) nd rfl (Or.inl rfl) (pe_call GLe hr2 (by rfl) gLe kLe bLe .nil pass0 (pa_cons (pv 1) (pa_cons (pe_op op_add pe_int (pe_call GD hr1 (by rfl) gD kD bD .nil pass0 (pa_cons (pv 1) (pa_cons pe_int pa_nil)))) pa_nil))))
        (pss_cons (ps_set (i := 4) nd rfl (Or.inr rfl) (pe_call GSp hr4 (by rfl) gSp kSp bSp .nil pass0 (pa_cons (pv 1) (pa_cons (pv 3) (pa_cons pe_int pa_nil)))))
        (pss_cons (ps_par (i := 5) (j := 6) rfl nd rfl rfl (by decide) rfl rfl (pa_cons (pe_call GM hr (by rfl) gM kM bM .nil pass0 (pa_cons (pv 3) (pa_cons (pv 4) pa_nil))) (pa_cons (pe_callB (call_sortedD rfl) (by rfl) gS PyProof.Rows.boot_sorted (pa_cons (pv 4) pa_nil)) pa_nil)) rfl)
        (pss_cons (ps_for PassesOwn.never rfl (pi_range1 (by rfl) gR (pa_cons pe_int pa_nil)) (pg_name (i := 7) nd rfl (Or.inl rfl))
          (pss_cons (ps_set (i := 8) nd rfl (Or.inl rfl) (pe_op op_add_str (pe_call GPi hr2 (by rfl) gPi kPi bPi .nil pass0 (pa_cons (pv 1) (pa_cons (pv 6) pa_nil))) (pe_call GWo hr3 (by rfl) gWo kWo bWo .nil pass0 (pa_cons (pv 1) (pa_cons (pv 3) (pa_cons (pe_call GD hr1 (by rfl) gD kD bD .nil pass0 (pa_cons (pv 1) (pa_cons pe_int pa_nil))) pa_nil))))))
          (pss_cons (ps_set (i := 9) nd rfl (Or.inl rfl) (pe_call GLC hr2 (by rfl) gLC kLC bLC .nil pass0 (pa_cons (pv 4) (pa_cons (pv 8) pa_nil))))
          (pss_cons (ps_set (i := 10) nd rfl (Or.inl rfl) (pe_call GC hr4 (by rfl) gC kC bC .nil pass0 (pa_cons (pv 5) (pa_cons (pv 8) pa_nil))))
          (pss_one (ps_if (PW.pt (pw_or (pt_cmpR op_ne (pe_callB (r := rRepD K) (call_repD hg hu64 hsys) (by rfl) gRep PyProof.Rows.boot_repr (pa_cons (pv 10) pa_nil)) (pe_callB (r := rRepD K) (call_repD hg hu64 hsys) (by rfl) gRep PyProof.Rows.boot_repr (pa_cons (pv 9) pa_nil)) (nomark _))
              (pw_or1 (pt_cmpR op_ne (pe_callB (r := rRepD K) (call_repD hg hu64 hsys) (by rfl) gRep PyProof.Rows.boot_repr (pa_cons (pe_call GC hr4 (by rfl) gC kC bC .nil pass0 (pa_cons (pv 5) (pa_cons (pv 8) pa_nil))) pa_nil)) (pe_callB (r := rRepD K) (call_repD hg hu64 hsys) (by rfl) gRep PyProof.Rows.boot_repr (pa_cons (pv 9) pa_nil)) (nomark _))))) (pss_one (ps_ret pe_bl)) pss_nil))))))
        (pss_cons (ps_if (pt_cmpR (op_neD hu64) (pe_lc (own := [("row", 11)]) (g := gName 11) (tt := tYes) rfl nd (pi_tup (pe_fld (pv 5) rfl)) (blkOk_by (N := NW) (sc := defScope (top 38)) (by decide +kernel)) (fun _ _ _ _ _ => pg_name (i := 11) nd rfl (Or.inl rfl)) (fun _ _ _ _ _ => pts_nil)
              (fun _ _ _ _ _ => pe_tup (pa_cons (pe_ix (r := rIxT K) ix_tup (pv 11) pe_int (fun _ _ => rfl)) (pa_cons (pe_tup (pa_cons (pe_ix (r := rIxT K) ix_tup (pv 11) pe_int (fun _ _ => rfl)) (pa_cons (pe_ix (r := rIxT K) ix_tup (pv 11) pe_int (fun _ _ => rfl)) pa_nil))) pa_nil))))
            (pe_lc (own := [("one", 12)]) (g := gName 12) (tt := tYes) rfl nd (pi_tup (pe_fld (pv 5) rfl)) (blkOk_by (N := NW) (sc := defScope (top 38)) (by decide +kernel)) (fun _ _ _ _ _ => pg_name (i := 12) nd rfl (Or.inl rfl)) (fun _ _ _ _ _ => pts_nil)
              (fun _ _ _ _ _ => pe_tup (pa_cons (pe_ix (r := rIxT K) ix_tup (pv 12) pe_int (fun _ _ => rfl)) (pa_cons (pe_dget hu (pv 4) (pe_ix (r := rIxT K) ix_tup (pv 12) pe_int (fun _ _ => rfl)) (fun _ _ => rfl)) pa_nil)))) (nomark _)) (pss_one (ps_ret pe_bl)) pss_nil)
        (pss_one (ps_if (pt_cmpR op_ne (pe_callB call_len_seq (by rfl) gN PySem.boot_len (pa_cons (pe_fld (pv 5) rfl) pa_nil)) (pe_callB call_lenD (by rfl) gN PySem.boot_len (pa_cons (pv 4) pa_nil)) (nomark _)) (pss_one (ps_ret pe_bl)) pss_nil))))))))
      (pss_one (ps_ret pe_bl))), ?_⟩
    refine ⟨V.ref a, rfl, a, ns, rfl, hS, hn, fun H1 p l s1 P1 => ?_⟩
    have T1 := hT.ext s1
    refine ⟨3, rfl, by decide, by decide, for_it walk_range (fun i σ G => ∃ (x2 x3 x4 x5 x6 x7 x8 x9 x10 : Option V) (k1 lf1 : Int), σ = [some (.ref a), some (.ref p), x2, x3, x4, x5, x6, x7, x8, x9, x10, none, none] ∧ k1 ≤ 300 * i ∧ 0 ≤ k1 ∧ 0 ≤ lf1 ∧ PenAt G p l ns k1 lf1 ∧ Tabs T G)
      ⟨none, none, none, none, none, none, none, none, none, 0, 0, rfl, by omega, Int.le_refl _, Int.le_refl _, P1, T1⟩ (fun _ _ _ _ _ => trivial) ?_ ?_⟩
    case refine_2 =>
      rintro σ G ⟨x2, x3, x4, x5, x6, x7, x8, x9, x10, k1, lf1, rfl, f1, f2, f3, PG, TG⟩
      exact kk G
    rintro i x σ G0 G1 hi ⟨x2, x3, x4, x5, x6, x7, x8, x9, x10, k1, lf1, rfl, f1, f2, f3, PG, TG⟩ ⟨rfl, rfl⟩
    have hi' : i < 3 := hi
    refine ⟨V.ref p, rfl, V.ref p, rfl, p, l, ns, k1, lf1, 3, rfl, PG, hn, f2, by omega, f3, by decide, by decide, fun G2 k2 lf2 n g1 g2 g3 g4 g5 s2 P2 => ?_⟩
    have g5 : n < 3 := g5
    obtain ⟨N, rfl⟩ : ∃ N : Nat, n = (N : Int) := ⟨n.toNat, (Int.toNat_of_nonneg g4).symm⟩
    refine ⟨2, (N : Int), rfl, rfl, p, l, ns, k2, lf2, 2 + N, rfl, P2, hn, g2, by omega, g3, by omega, fun G3 k3 lf3 ls h1 h2 h3 hL s3 P3 => ?_⟩
    have lsz : ls.cps.size = 2 + N := hL.sz
    refine ⟨V.ref p, rfl, V.str ls, rfl, p, l, ns, k3, lf3, ls, rfl, P3, hn, h2, by omega, h3, by omega, by omega, fun G4 k4 lf4 d kvs S j1 j2 j3 s4 P4 nd4 hd4 sp4 gd hz => ?_⟩
    have T4 := Tabs.pen (Tabs.pen (Tabs.pen TG PG.dc s2) P2.dc s3) P3.dc s4
    have ndp : d ≠ p := fun z => by
      rw [z, P3.dc] at nd4
      cases nd4
    refine ⟨V.str ls, rfl, V.ref d, rfl, d, ls, kvs, S, 2 + N, rfl, hd4, sp4, gd, hz, hL, by omega, by omega, T4, fun G5 x S2 e5 T5 hp2 tr5 => ?_⟩
    have hd5 := e5 _ _ hd4 (fun ps z => nomatch z)
    have sp5 := sp4.keep (H' := G5) fun t xs h => e5 _ _ h (fun ps z => nomatch z)
    have P5 := P4.ext e5
    have pl : (plc S).length = S.length := by
      unfold plc
      rw [List.length_map]
    refine ⟨V.ref d, rfl, d, kvs, plc S, rfl, .inl hd5, sp5.keys, by omega, fun ys q hp _ nq => ⟨_, _, rfl, ?_⟩⟩
    have s6 := upd_new (o := .lst (ys.map V.str)) nq
    have hq6 : upd G5 q (.lst (ys.map V.str)) q = some (.lst (ys.map V.str)) := upd_same
    generalize upd G5 q (.lst (ys.map V.str)) = G6 at s6 hq6
    have P6 := P5.same s6
    have T6 := T5.ext s6
    have hd6 := s6 _ _ hd5
    have sp6 := sp5.keep (H' := G6) fun t xs h => s6 _ _ h
    have tr6 := tr5.same s6
    have gd2 := gd.perm hp2
    have hz2 : S2.length ≤ 40 := by
      rw [hp2.length_eq]
      exact hz
    have nqp : q ≠ p := ne_of hq6 P6.dc (by intro z; cases z)
    have yl : ys.length = S.length := by
      rw [hp.length_eq, pl]
    have y0 : 0 < ys.length := by
      rw [hp.length_eq]
      exact List.length_pos_of_mem gd.root
    refine ⟨6, rfl, by decide, by decide, for_it walk_range (fun j σ G => ∃ (x7 x8 x9 x10 : Option V) (k7 lf7 : Int), σ = [some (.ref a), some (.ref p), some (.int (0 + (i : Int))), some (.str ls), some (.ref d), some (.ref x), some (.ref q), x7, x8, x9, x10, none, none] ∧ k7 ≤ k4 + 5 * j ∧ 0 ≤ k7 ∧ 0 ≤ lf7 ∧ PenAt G p l ns k7 lf7 ∧ SameBut p G6 G)
      ⟨x7, x8, x9, x10, k4, lf4, rfl, by omega, j2, j3, P6, fun _ _ _ e => e⟩ (fun _ _ _ _ _ => trivial) ?_ ?_⟩
    · rintro j y σ G7 G8 hj ⟨y7, y8, y9, y10, k7, lf7, rfl, m1, m2, m3, P7, s7⟩ ⟨rfl, rfl⟩
      have hj' : j < 6 := hj
      refine ⟨V.ref p, rfl, V.ref q, rfl, p, l, V.ref q, ns, k7, lf7, _, rfl, P7, hn, m2, by omega, m3, .inl ⟨q, rfl, s7 _ _ nqp hq6⟩, ?_, ?_, fun G9 k9 lf9 y n1 n2 n3 hy s9 P9 => ?_⟩
      · rw [List.length_map]
        exact y0
      · rw [List.length_map]
        omega
      obtain ⟨yy, hyy, rfl⟩ := List.mem_map.mp hy
      have ysz := gd.sz yy (hp.mem_iff.mp hyy)
      refine ⟨V.ref p, rfl, V.str ls, rfl, V.ref p, rfl, p, l, ns, k9, lf9, 3, rfl, P9, hn, n2, by omega, n3, by decide, by decide, fun G10 k10 lf10 c o1 o2 o3 o4 o5 s10 P10 => ?_⟩
      have o5 : c < 3 := o5
      obtain ⟨C, rfl⟩ : ∃ C : Nat, c = (C : Int) := ⟨c.toNat, (Int.toNat_of_nonneg o4).symm⟩
      refine ⟨p, l, ns, k10, lf10, ls, C, rfl, P10, hn, o2, by omega, o3, by omega, by omega, by omega, fun G11 k11 lf11 z p1 p2 p3 hzs _ s11 P11 => ?_⟩
      have wsz : (yy ++ z).cps.size ≤ 20 := by
        rw [size_app]
        omega
      refine ⟨yy, z, rfl, rfl, Nat.le_trans (show yy.cps.size + z.cps.size ≤ 20 by omega) (by decide), ?_⟩
      generalize yy ++ z = ww at wsz
      have s611 : SameBut p G6 G11 := ((s7.trans s9).trans s10).trans s11
      have hd11 := s611 _ _ ndp hd6
      have sp11 := sp6.keep (H' := G11) fun t xs h => s611 _ _ (ne_of h P6.dc (by intro z; cases z)) h
      have tr11 := tr6.but gd2.root P6 s611
      refine ⟨V.ref d, rfl, V.str ww, rfl, d, ww, ls, kvs, S, rfl, hd11, sp11, gd, hz, wsz, fun G12 v12 s12 de12 => ?_⟩
      have tr12 := tr11.same s12
      have sz2 : ∀ p ∈ plc S2, p.cps.size ≤ 1000 := fun p hp => Nat.le_trans (gd2.sz p hp) (by decide)
      refine ⟨V.ref x, rfl, V.str ww, rfl, V.ref x, ww, S2, rfl, tr12, by omega, by omega, sz2, fun G13 v13 s13 de13 => ?_⟩
      have ec := cellsD_perm gd.nd hp2 ww
      rw [ec] at de13
      obtain ⟨w1, w2, w3⟩ := cells_show S wsz
      have de12' := de_mono s13 _ _ de12
      refine ⟨v13, rfl, v13, cellsD S ww, rfl, de13, w1, w2, w3, V.ref v12, rfl, V.ref v12, cellsD S ww, rfl, de12', w1, w2, w3, rfl, _, rfl, ?_⟩
      refine neT rfl ?_
      refine ⟨V.ref x, rfl, V.str ww, rfl, V.ref x, ww, S2, rfl, tr12.same s13, by omega, by omega, sz2, fun G14 v14 s14 de14 => ?_⟩
      rw [ec] at de14
      refine ⟨v14, cellsD S ww, rfl, de14, w1, w2, w3, V.ref v12, rfl, V.ref v12, cellsD S ww, rfl, de_mono s14 _ _ de12', w1, w2, w3, rfl, _, rfl, ?_⟩
      refine neT rfl ?_
      have sE := (s12.trans s13).trans s14
      exact ⟨_, _, _, _, k11, lf11, rfl, by omega, p2, p3, P11.same sE, fun b o hb e => sE _ _ (s611 _ _ hb e)⟩
    · rintro σ G7 ⟨y7, y8, y9, y10, k7, lf7, rfl, m1, m2, m3, P7, s7⟩
      have m1 : k7 ≤ k4 + 5 * (6 : Nat) := m1
      have T7 := Tabs.pen T6 P6.dc s7
      have hd7 := s7 _ _ ndp hd6
      have sp7 := sp6.keep (H' := G7) fun t xs h => s7 _ _ (ne_of h P6.dc (by intro z; cases z)) h
      have tr7 := tr6.but gd2.root P6 s7
      obtain ⟨xa, xdx, fs, rl, xs, S3, exa, hxa, erow, hrl, hp3, lxs, rows⟩ := tree_rows tr7
      have exa : x = xa := by injection exa
      subst exa
      have l3 : S3.length ≤ 40 := by
        rw [hp3.length_eq]
        exact hz2
      have next : ∀ {i : Nat}, i < xs.length → ∃ s, S3[i]? = some s ∧ ∃ u : Addr, xs[i]? = some (.ref u) ∧ G7 u = some (.tup [.str s.1, .bl s.2.1, .bl s.2.2]) := fun {i} h => by
        have h3 : i < S3.length := by omega
        exact ⟨S3[i], List.getElem?_eq_getElem h3, rows i _ (List.getElem?_eq_getElem h3)⟩
      refine ⟨V.ref x, rfl, x, CT, xdx, _, _, rfl, hxa, R.cl, R.n3, erow, rl, rfl, ⟨_, .inl (.inl hrl)⟩, fun D nD => lc_tup (K := K) (a := rl) (xs := xs) (fun i G => Same G7 G ∧ ∃ acc, G D = some (.lst acc) ∧ PairsV G D (S3.take i) acc) ⟨upd_new nD, [], upd_same, .nil⟩ (fun i G _ q => .inl (.inl (q.1 _ _ hrl))) ?_ ?_⟩
      · rintro m y G hy ⟨sG, acc, hD, hA⟩
        obtain ⟨s, hs, u, hu1, hu2⟩ := next (List.getElem?_eq_some_iff.mp hy).1
        rw [hu1] at hy
        have hy := Option.some.inj hy
        subst hy
        have gu := sG _ _ hu2
        refine ⟨rfl, V.ref u, rfl, u, _, 0, .str s.1, rfl, rfl, .inl (.inl gu), rfl, V.ref u, rfl, u, _, 1, .bl s.2.1, rfl, rfl, .inl (.inl gu), rfl, V.ref u, rfl, u, _, 2, .bl s.2.2, rfl, rfl, .inl (.inl gu), rfl, (by show 2 ≤ sizeLine; decide), fun t1 nt1 => ⟨(by show 2 ≤ sizeLine; decide), fun t2 nt2 => ?_⟩⟩
        have sa := upd_new (o := .tup [V.bl s.2.1, V.bl s.2.2]) nt1
        have h1a : upd G t1 (.tup [V.bl s.2.1, V.bl s.2.2]) t1 = some (.tup [V.bl s.2.1, V.bl s.2.2]) := upd_same
        generalize upd G t1 (.tup [V.bl s.2.1, V.bl s.2.2]) = Ga at sa h1a nt2 ⊢
        have sb := upd_new (o := .tup [V.str s.1, V.ref t1]) nt2
        have h2b : upd Ga t2 (.tup [V.str s.1, V.ref t1]) t2 = some (.tup [V.str s.1, V.ref t1]) := upd_same
        generalize upd Ga t2 (.tup [V.str s.1, V.ref t1]) = Gb at sb h2b
        have h1b := sb _ _ h1a
        have sab := sa.trans sb
        have hDb := sab _ _ hD
        refine ⟨acc, hDb, ?_, ?_, _, upd_same, ?_⟩
        · rw [hA.len, List.length_take]
          exact Nat.lt_of_le_of_lt (show min m S3.length ≤ 40 by omega) (by decide)
        · intro b o e
          rw [upd_ne (ne_of_none e nD)]
          exact sab _ _ (sG _ _ e)
        · rw [take_snoc hs]
          have n1 : t1 ≠ D := ne_of h1b hDb (by intro z; cases z)
          have n2 : t2 ≠ D := ne_of h2b hDb (by intro z; cases z)
          refine .snoc (hA.mono fun b o hb e => ?_) ⟨t2, t1, rfl, n2, n1, ?_, ?_⟩
          · rw [upd_ne hb]
            exact sab _ _ e
          · rw [upd_ne n2]
            exact h2b
          · rw [upd_ne n1]
            exact h1b
      · rintro G8 ⟨s8, acc1, hD8, hA8⟩
        rw [lxs, List.take_length] at hA8
        have hx8 := s8 _ _ hxa
        have hr8 := s8 _ _ hrl
        have hd8 := s8 _ _ hd7
        have sp8 := sp7.keep (H' := G8) fun t xs h => s8 _ _ h
        refine ⟨V.ref x, rfl, x, CT, xdx, _, _, rfl, hx8, R.cl, R.n3, erow, rl, rfl, ⟨_, .inl (.inl hr8)⟩, fun D2 nD2 => lc_tup (K := K) (a := rl) (xs := xs) (fun i G => Same G8 G ∧ ∃ acc, G D2 = some (.lst acc) ∧ PairsV G D2 (S3.take i) acc) ⟨upd_new nD2, [], upd_same, .nil⟩ (fun i G _ q => .inl (.inl (q.1 _ _ hr8))) ?_ ?_⟩
        · rintro m y G hy ⟨sG, acc, hD, hA⟩
          obtain ⟨s, hs, u, hu1, hu2⟩ := next (List.getElem?_eq_some_iff.mp hy).1
          rw [hu1] at hy
          have hy := Option.some.inj hy
          subst hy
          have gu := sG _ _ (s8 _ _ hu2)
          obtain ⟨t1, v1, h1⟩ := sp8.val gd.nd (hp2.mem_iff.mp (hp3.mem_iff.mp (List.mem_of_getElem? hs)))
          have h1a := sG _ _ h1
          refine ⟨rfl, V.ref u, rfl, u, _, 0, .str s.1, rfl, rfl, .inl (.inl gu), rfl, V.ref d, rfl, V.ref u, rfl, u, _, 0, .str s.1, rfl, rfl, .inl (.inl gu), rfl, d, .ref t1, rfl, .inl ⟨kvs, .inr s.1, .inl (sG _ _ hd8), rfl, v1.symm⟩, (by show 2 ≤ sizeLine; decide), fun t2 nt2 => ?_⟩
          have sb := upd_new (o := .tup [V.str s.1, V.ref t1]) nt2
          have h2b : upd G t2 (.tup [V.str s.1, V.ref t1]) t2 = some (.tup [V.str s.1, V.ref t1]) := upd_same
          generalize upd G t2 (.tup [V.str s.1, V.ref t1]) = Gb at sb h2b
          have h1b := sb _ _ h1a
          have hDb := sb _ _ hD
          refine ⟨acc, hDb, ?_, ?_, _, upd_same, ?_⟩
          · rw [hA.len, List.length_take]
            exact Nat.lt_of_le_of_lt (show min m S3.length ≤ 40 by omega) (by decide)
          · intro b o e
            rw [upd_ne (ne_of_none e nD2)]
            exact sb _ _ (sG _ _ e)
          · rw [take_snoc hs]
            have n1 : t1 ≠ D2 := ne_of h1b hDb (by intro z; cases z)
            have n2 : t2 ≠ D2 := ne_of h2b hDb (by intro z; cases z)
            refine .snoc (hA.mono fun b o hb e => ?_) ⟨t2, t1, rfl, n2, n1, ?_, ?_⟩
            · rw [upd_ne hb]
              exact sb _ _ e
            · rw [upd_ne n2]
              exact h2b
            · rw [upd_ne n1]
              exact h1b
        · rintro G9 ⟨s9, acc2, hD9, hA9⟩
          rw [lxs, List.take_length] at hA9
          refine pairs_ne (S := S3) (fun s hs => alpha_ok hL (gd.al s.1 (List.mem_map.mpr ⟨s, hp2.mem_iff.mp (hp3.mem_iff.mp hs), rfl⟩))) (s9 _ _ hD8) hD9 (hA8.mono fun b o _ e => s9 _ _ e) hA9 ⟨_, rfl, iteF ?_⟩
          refine ⟨V.ref x, rfl, x, CT, xdx, _, _, rfl, s9 _ _ hx8, R.cl, R.n3, erow, rl, xs, rfl, .inr (.inl (.inl (s9 _ _ hr8))), V.ref d, rfl, d, kvs, rfl, s9 _ _ hd8, rfl, _, rfl, ?_⟩
          have el : V.int (xs.length : Nat) = V.int (kvs.length : Nat) := by
            rw [lxs, hp3.length_eq, hp2.length_eq, sp4.len]
          refine neT el ?_
          have s79 := s8.trans s9
          exact ⟨_, _, _, _, _, _, _, _, _, k7, lf7, rfl, by omega, m2, m3, P7.same s79, T7.ext s79⟩
end
end SK
namespace SK
open PySem PySem.Spec PyProof.Rows L2 LamX NdefX
theorem FunT.bindsT {K : PySem.W.Frag} {x qual : Str} {st : Stmt} {f c : Addr} {fd : FuncData} {ps : List Str} (F : FunT K x qual st f fd c)
    (h : ∀ (kV doc pm : Value) (an : Option Addr) (cdv ct : Value) (us : List Value), us.length = ps.length → bindArgs (PySem.W.fnOf x qual (defArgs st) (defBody st) (defScope st) .none kV doc pm an cdv ct) ⟨us, []⟩ = pure (ps.zip us)) : Binds K fd ps [] := by
  obtain ⟨oc, od, kV, doc, pm, an, ct, osl, e, lk, hcd⟩ := F.ex
  exact Fun.binds (f := f) ⟨⟨oc, od, kV, doc, pm, an, .ref c, ct, osl, e, lk, hcd⟩, F.kp⟩ h
/-! ### the law's call, some tables of code objects beside the script -/
abbrev EndOk (h : Heap) (os : OsState) (r : Result) (s' : Shared) : Prop := r = .ok (.ret (.bool true)) ∧ PySem.OldK h s'.heap ∧ s'.os = os ∧ AllBare s'.gens
def tabObj : Obj := { cls := .none, data := .fields #[] }
section
variable {P : Program} {w : World} {K : PySem.W.Frag} {mg mb : Str → Option Value} {fa a : Addr} {s : Shared} {H : Hp} {vs : List Value} {ns : List Int} {lv : Nat} {sp : Sp} {ps : List (Addr × Addr)} {T : List (Addr × Str)}
theorem run_lawA (D : ∀ base : Heap, K.In base → base.Ns mainGlobals mg → (∀ p ∈ ps, TabB base mg p.1 p.2) → ∃ fd, Binds K fd ["script"] [] ∧ FnG P w K mg base CX0 lv fa fd ["script"] sp) (room : Room lv PySem.callerA)
    (hsp : ∀ (H : Hp) (a : Addr) (ns : List Int), SqL K H a (ns.map V.int) → ns.length ≤ 63 → Tabs T H → sp [.ref a] H (fun v _ => v = .bl true) E0)
    (hT : ∀ p ∈ T, p.1 ∈ ps.map (·.2)) (KX : K.In s.heap) (hm : s.heap.Ns mainGlobals mg) (hb : s.heap.Ns builtinsNs mb) (hbb : ∀ x : Str, x ≠ "__name__" → mb x = bootBuiltins x)
    (hlim : s.heap.NoLimit) (hgens : s.gens = #[]) (hPt : ∀ P ∈ ps.map (·.2), s.heap.get? P = some tabObj) (nPt : ∀ P ∈ ps.map (·.2), K.lookup P = none) (hC : ∀ p ∈ ps, PySem.W.CodeHd s.heap p.1 p.2)
    (hbm : ∃ (bm : Addr) (ob : Obj), mg "__builtins__" = some (.ref bm) ∧ bm ≠ builtinsNs ∧ s.heap.get? bm = some ob ∧ ob.cls = .type "module" ∧ ob.dict = some builtinsNs ∧ ob.data = .plain)
    (ha : s.heap.get? a = some { cls := .type "list", data := .seq vs.toArray }) (hn : ns.length ≤ 63) (hS : SqL K H a (ns.map V.int)) (ok : HOk P w H s.heap) (hHP : ∀ P ∈ ps.map (·.2), H P = some (.tbl #[]))
    (hO : ∀ b, H b = none ∨ b ∈ ps.map (·.2) ∨ (b = a ∧ ∃ o xs, H b = some (.frz o (.lst xs)))) (hK : H a ≠ none → K.lookup a = none) :
    codeAny (model P w) PySem.callerA (.call (.ref fa) ⟨[.ref a], []⟩) (EndOk s.heap s.os) s := by
  have free : ∀ {b : Addr} {o : Obj}, s.heap.get? b = some o → (∀ vs n, o.data ≠ .seq vs n) → o.data ≠ .fields #[] → H b = none := fun {b o} e h1 h2 => by
    rcases hO b with z | z | ⟨rfl, _⟩
    · exact z
    · rw [hPt b z] at e
      have e' := Option.some.inj e
      subst e'
      exact absurd rfl h2
    · rw [ha] at e
      have e' := Option.some.inj e
      subst e'
      exact absurd rfl (h1 _ _)
  have dicts : ∀ {b : Addr} {m : Str → Option Value}, s.heap.Ns b m → (hidT s.heap H).Ns b m := fun {b m} ⟨o, es, ep, e, d, r⟩ =>
    ⟨o, es, ep, hidT_get e (free e (fun vs n z => by rw [d] at z; cases z) fun z => by rw [d] at z; cases z), d, r⟩
  have Kb : K.In (hidT s.heap H) := fun b o e => by
    refine hidT_get (KX b o e) ?_
    rcases hO b with z | z | ⟨rfl, o', xs, z⟩
    · exact z
    · rw [nPt b z] at e
      cases e
    · rw [hK (by rw [z]; exact fun z => nomatch z)] at e
      cases e
  have M : Mod K mg (hidT s.heap H) := ⟨Kb, dicts hm, ⟨mb, dicts hb, hbb⟩, by
    obtain ⟨mc, h1, h2⟩ := hlim
    exact ⟨mc, dicts h1, h2⟩⟩
  have noG : ∀ P ∈ ps.map (·.2), mainGlobals ≠ P := fun P hP z => by
    obtain ⟨o, es, ep, e, d, _⟩ := hm
    rw [z, hPt P hP] at e
    have e' := Option.some.inj e
    subst e'
    cases d
  have TB : ∀ p ∈ ps, TabB (hidT s.heap H) mg p.1 p.2 := fun p hp => by
    have hp2 : p.2 ∈ ps.map (·.2) := List.mem_map.mpr ⟨p, hp, rfl⟩
    refine ⟨?_, ?_, noG _ hp2⟩
    · obtain ⟨o, us, file, tf, flags, tg, inF, text, tt, e1, r1, r2, r3, rest⟩ := hC p hp
      refine ⟨o, us, file, tf, flags, tg, inF, text, tt, hidT_get e1 (free e1 (fun vs n z => ?_) fun z => ?_), r1, r2, r3, rest⟩
      · rw [r2] at z
        cases z
      · rw [r2] at z
        injection z with z
        subst z
        simp at r3
    · obtain ⟨bm, ob, b1, b2, b3, b4, b5, b6⟩ := hbm
      refine ⟨bm, ob, b1, b2, fun z => ?_, fun z => ?_, hidT_get b3 (free b3 (fun vs n z => by rw [b6] at z; cases z) fun z => by rw [b6] at z; cases z), b4, b5, b6⟩
      · obtain ⟨o, es, ep, e, d, _⟩ := hm
        rw [z, e] at b3
        have e' := Option.some.inj b3
        subst e'
        rw [d] at b6
        cases b6
      · rw [z, hPt _ hp2] at b3
        have e' := Option.some.inj b3
        subst e'
        cases b6
  have e0 : Env0 P w K mg (hidT s.heap H) PySem.callerA [] s H := ⟨rfl, M, fun b o e => of_hidT e, Nat.le_of_eq (hidT_size _ _), trivial, fun b z => (by cases z), ok, AllBare.of_eq hgens⟩
  have tabs : Tabs T H := fun p hp => TabS.nil (hHP _ (hT p hp))
  obtain ⟨fd, b, G⟩ := D _ Kb (dicts hm) TB
  have back : ∀ b o, (hidT s.heap H).get? b = some o → s.heap.get? b = some o := fun b o e => (e0.bs b o e).1
  have bb := b s [Value.ref a] (e0.mod.kin.keeps back) (by rfl)
  refine codeAny_mono (G.run PySem.callerA [] s H ⟨[.ref a], []⟩ [.ref a] [V.ref a] _ E0 rfl room e0 bb (.cons rfl .nil) (hsp H a ns hS hn tabs)) fun r s' h => ?_
  cases r with
  | error e => exact h.elim
  | ok fl =>
    cases fl with
    | next => exact False.elim h
    | brk => exact False.elim h
    | cont => exact False.elim h
    | ret u =>
      obtain ⟨v, H', os, bare, un, ok', rv, qv⟩ := h
      have qv : v = .bl true := qv
      subst qv
      obtain rfl : u = Value.bool true := rv
      have grown : ∀ P ∈ ps.map (·.2), ∃ more : Array Value, s'.heap.get? P = some { cls := .none, data := .fields more } := fun P hP => by
        obtain ⟨more, z⟩ := un.tbls P #[] (hHP P hP)
        exact ⟨_, ok' P _ z⟩
      have same : ∀ b o, b ∉ ps.map (·.2) → s.heap.get? b = some o → s'.heap.get? b = some o := fun b o nb e => by
        rcases hO b with z | z | ⟨_, ob, xs, z⟩
        · exact un.keep b o e z (fun z => (by cases z)) (fun z => (by cases z))
        · exact absurd z nb
        · obtain ⟨f1, _⟩ := ok b _ z
          obtain ⟨f2, _⟩ := ok' b _ (un.frzs b ob _ z)
          rw [e] at f1
          cases f1
          exact f2
      refine ⟨rfl, ⟨fun b o e => ?_, fun b o e => ?_⟩, os, bare⟩
      · by_cases hbP : b ∈ ps.map (·.2)
        · obtain ⟨p, hp, rfl⟩ := List.mem_map.mp hbP
          rw [hPt _ hbP] at e
          have e' := Option.some.inj e
          subst e'
          obtain ⟨more, hmore⟩ := grown _ hbP
          exact .inr (.inl ⟨((hC p hp).tab (hPt _ hbP)).isCodeTable, rfl, #[], more, rfl, by rw [Array.empty_append]; exact hmore⟩)
        · exact .inl (same b o hbP e)
      · by_cases hbP : b ∈ ps.map (·.2)
        · obtain ⟨more, hmore⟩ := grown _ hbP
          exact ⟨_, hmore⟩
        · exact ⟨o, same b o hbP e⟩
theorem run_lawG (D : ∀ base : Heap, K.In base → base.Ns mainGlobals mg → (∀ p ∈ ps, TabB base mg p.1 p.2) → ∃ fd, Binds K fd ["script"] [] ∧ FnG P w K mg base CX0 lv fa fd ["script"] sp) (room : Room lv PySem.callerA)
    (hsp : ∀ (H : Hp) (a : Addr) (ns : List Int), SqL K H a (ns.map V.int) → ns.length ≤ 63 → Tabs T H → sp [.ref a] H (fun v _ => v = .bl true) E0)
    (hT : ∀ p ∈ T, p.1 ∈ ps.map (·.2)) (KX : K.In s.heap) (hm : s.heap.Ns mainGlobals mg) (hb : s.heap.Ns builtinsNs mb) (hbb : ∀ x : Str, x ≠ "__name__" → mb x = bootBuiltins x)
    (hlim : s.heap.NoLimit) (hgens : s.gens = #[]) (hPt : ∀ P ∈ ps.map (·.2), s.heap.get? P = some tabObj) (nPt : ∀ P ∈ ps.map (·.2), K.lookup P = none) (hC : ∀ p ∈ ps, PySem.W.CodeHd s.heap p.1 p.2)
    (hbm : ∃ (bm : Addr) (ob : Obj), mg "__builtins__" = some (.ref bm) ∧ bm ≠ builtinsNs ∧ s.heap.get? bm = some ob ∧ ob.cls = .type "module" ∧ ob.dict = some builtinsNs ∧ ob.data = .plain)
    (ha : s.heap.get? a = some { cls := .type "list", data := .seq vs.toArray }) (hi : IntsAre vs ns) (hn : ns.length ≤ 63) :
    codeAny (model P w) PySem.callerA (.call (.ref fa) ⟨[.ref a], []⟩) (EndOk s.heap s.os) s := by
  have rv := vals_ints hi
  have lv := hi.length
  have z63 : (63 : Nat) ≤ sizeLine := by decide
  have hz : ns.length ≤ sizeLine := Nat.le_trans hn z63
  have nap : a ∉ ps.map (·.2) := fun z => by
    have e := hPt a z
    rw [ha] at e
    have e := congrArg Obj.data (Option.some.inj e)
    cases e
  let lo : HO := .frz { cls := .type "list", data := .seq vs.toArray } (.lst (ns.map V.int))
  by_cases hk : K.lookup a = none
  · let H0 : Hp := fun b => if b = a then some lo else if b ∈ ps.map (·.2) then some (.tbl #[]) else none
    have ea : H0 a = some lo := if_pos rfl
    have eP : ∀ P ∈ ps.map (·.2), H0 P = some (.tbl #[]) := fun P hP => (if_neg (show ¬ P = a from fun z => nap (by rw [← z]; exact hP))).trans (if_pos hP)
    have en : ∀ b, b ≠ a → b ∉ ps.map (·.2) → H0 b = none := fun b n m => (if_neg n).trans (if_neg m)
    refine run_lawA (H := H0) D room hsp hT KX hm hb hbb hlim hgens hPt nPt hC hbm ha hn (.inl (.inr ⟨_, ea⟩)) (fun b u z => ?_) eP (fun b => ?_) fun _ => hk
    · by_cases h : b = a
      · subst h
        rw [ea] at z
        cases z
        exact ⟨ha, by rw [List.length_map]; exact hz, vs, _, rv, ha⟩
      · by_cases m : b ∈ ps.map (·.2)
        · rw [eP b m] at z
          cases z
          exact hPt b m
        · rw [en b h m] at z
          cases z
    · by_cases h : b = a
      · subst h
        exact .inr (.inr ⟨rfl, _, _, ea⟩)
      · by_cases m : b ∈ ps.map (·.2)
        · exact .inr (.inl m)
        · exact .inl (en b h m)
  · obtain ⟨o, ho⟩ := Option.ne_none_iff_exists'.mp hk
    have e := KX a o ho
    rw [ha] at e
    cases e
    let H1 : Hp := fun b => if b ∈ ps.map (·.2) then some (.tbl #[]) else none
    have eP : ∀ P ∈ ps.map (·.2), H1 P = some (.tbl #[]) := fun P hP => if_pos hP
    have en : ∀ b, b ∉ ps.map (·.2) → H1 b = none := fun b m => if_neg m
    refine run_lawA (H := H1) D room hsp hT KX hm hb hbb hlim hgens hPt nPt hC hbm ha hn (.inr ⟨_, vs.toArray, _, ho, rfl, rfl, rfl, by rw [List.size_toArray, lv]; exact hz, by simpa using rv⟩) (fun b u z => ?_) eP (fun b => ?_) fun z => absurd (en a nap) z
    · by_cases m : b ∈ ps.map (·.2)
      · rw [eP b m] at z
        cases z
        exact hPt b m
      · rw [en b m] at z
        cases z
    · by_cases m : b ∈ ps.map (·.2)
      · exact .inr (.inl m)
      · exact .inl (en b m)
end
end SK
namespace SK
open PySem PySem.Spec PyProof.Rows L2 LamX NdefX
open K0 (De DeAll XCl spX withX)
/-! ### what the top leaves, as one test -/
def clsB (K : PySem.W.Frag) (C : Addr) : Bool := match K.lookup C with
  | some ⟨.type "type", _, .cls cd, sl⟩ => (match cd.mro, sl.toList with
    | .ref D :: bm, [_, _, _, _, some (.builtin n), _] => decide (D = C) && (decide (n = "ValueError.__new__") && (!cd.hasDel && (cd.hasDict && PySem.HandSPX.refsVE bm)))
    | _, _ => false)
  | _ => false
theorem clsB_ok {K : PySem.W.Frag} {C : Addr} (h : clsB K C = true) : ∃ nm q N bs bm sn sub ab col dd k0 k1 k2 k3 k5, K.lookup C = some (excClassObj nm q C N bs bm true sn sub ab col dd k0 k1 k2 k3 k5 "ValueError.__new__") ∧ PySem.HandSPX.refsVE bm = true := by
  unfold clsB at h
  split at h
  · rename_i dd cd sl ho
    split at h
    · rename_i D bm k0 k1 k2 k3 n k5 hm hs
      simp only [Bool.and_eq_true, decide_eq_true_eq, Bool.not_eq_true'] at h
      obtain ⟨rfl, rfl, hdel, hd, hv⟩ := h
      obtain ⟨nm, bs, mro, ns, qn, hdc, sn, sub, ab, col, del⟩ := cd
      dsimp only at hm hdel hd
      subst hm hdel hd
      have e : sl = #[k0, k1, k2, k3, some (.builtin "ValueError.__new__"), k5] := by
        obtain ⟨l⟩ := sl
        simp only at hs
        rw [hs]
      subst e
      exact ⟨nm, qn, ns, bs, bm, sn, sub, ab, col, dd, k0, k1, k2, k3, k5, ho, hv⟩
    · cases h
  · cases h
def xB (K : PySem.W.Frag) (C : Addr) : Bool :=
  clsB K C && (decide (PySem.W.findIn K (.ref C) "__setattr__" = some (some (.builtin "object.__setattr__"))) && (decide (PySem.W.subIn K (.ref C) (.type "BaseException") = some true) && (decide (PySem.W.typeIn K (.ref C) = some (.type "type")) && (PySem.W.keepIn K (.ref C) &&
    (decide (PySem.W.findIn K (.ref C) "__getattribute__" = some (some (.builtin "BaseException.__getattribute__"))) && (decide (PySem.W.findIn K (.ref C) "__getattr__" = some none) && (PySem.W.hasDictIn K C && (decide (PySem.W.findIn K (.ref C) "__class__" = some (some (.builtin "object.__class__"))) &&
      (decide (PySem.W.specialIn K (.builtin "object.__class__") "__get__" = some (some (.builtin "getset_descriptor.__get__"))) && (decide (PySem.W.takesIn K (.builtin "object.__class__") = some true) && decide (PySem.W.mroIn K C (.type "object") = some true)))))))))))
theorem xB_ok {K : PySem.W.Frag} {C : Addr} (h : xB K C = true) : XCl K C := by
  simp only [xB, Bool.and_eq_true, decide_eq_true_eq] at h
  obtain ⟨h1, h2, h3, h4, h5, h6, h7, h8, h9, h10, h11, h12⟩ := h
  exact ⟨⟨clsB_ok h1, h2, h3, h4, h5⟩, h6, h7, h8, h9, h10, h11, h12⟩
def iniB (K : PySem.W.Frag) (x : Str) (fs : List Str) : Bool :=
  decide (PySem.W.findIn K (.ref (He.ga K x)) "__init__" = some (some (.ref (He.ma K (He.ga K x) "__init__")))) && (decide (PySem.W.typeIn K (.ref (He.ma K (He.ga K x) "__init__")) = some (.type "function")) && fs.all fun n => decide (PySem.W.findIn K (.ref (He.ga K x)) n = some none))
theorem put_old {H : Hp} {C a dx : Addr} {fs gs : List (Str × V)} (ne : dx ≠ a) : upd (withX H C a dx fs) dx (exd dx gs) = withX H C a dx gs := by
  funext b
  show upd (upd (upd H dx _) a _) dx _ b = upd (upd H dx _) a _ b
  by_cases hd : b = dx
  · rw [hd, upd_same, upd_ne ne, upd_same]
  · rw [upd_ne hd]
    by_cases ha : b = a
    · rw [ha, upd_same, upd_same]
    · rw [upd_ne ha, upd_ne ha, upd_ne hd, upd_ne hd]
section
variable {P : Program} {w : World} {K : PySem.W.Frag} {mg : Str → Option Value} {base : Heap} {f C : Addr} {fd : FuncData}
theorem sc_BadLetters : FnScope ["self", "letters"] ["self", "letters"] (defScope (inClass (top 2) 0)) := ⟨rfl, rfl, rfl, by decide +kernel, rfl, by decide +kernel, by decide +kernel⟩
theorem ok_BadLetters (F : Fun K "__init__" "BadLetters.__init__" (inClass (top 2) 0) f fd) (T : OexC K C) (no : ∀ n ∈ (["letters"] : List Str), PySem.W.findIn K (.ref C) n = some none) : FnOk P w K mg base CX0 1 f fd ["self", "letters"] (spX C ["letters"]) := by
  refine F.ok sc_BadLetters (fun vs H Q E h => ?_) (fun cdv A outer s H vs Q E hr h => ?_)
  · obtain ⟨a, ys, rfl, hl, _⟩ := h
    exact congrArg Nat.succ hl
  · obtain ⟨a, ys, rfl, hl, ha, k⟩ := h
    match ys, hl with
    | [y0], _ =>
      refine ⟨_, pss_one (ps_ost (pv 0) (pv 1)), ?_⟩
      refine ⟨y0, rfl, .ref a, rfl, a, C, rfl, T, (no _ (by simp)), .inl ⟨ha, fun dx nd ne => ?_⟩⟩
      exact k dx nd ne
theorem xr_BadLetters (F : Fun K "__init__" "BadLetters.__init__" (inClass (top 2) 0) f fd) (cl : XCl K C) (gC : mg "BadLetters" = some (.ref C)) (iC : PySem.W.findIn K (.ref C) "__init__" = some (some (.ref f)))
    (tI : PySem.W.typeIn K (.ref f) = some (.type "function")) (no : ∀ n ∈ (["letters"] : List Str), PySem.W.findIn K (.ref C) n = some none) : XR P w K mg base "BadLetters" C ["letters"] :=
  ⟨cl, gC, no, f, fd, iC, tI, ok_BadLetters F cl.T no, Fun.binds F fun _ _ _ _ _ _ us hl => match us, hl with | [_, _], _ => rfl⟩
theorem sc_TooMany : FnScope ["self", "what", "many", "most"] ["self", "what", "many", "most"] (defScope (inClass (top 3) 0)) := ⟨rfl, rfl, rfl, by decide +kernel, rfl, by decide +kernel, by decide +kernel⟩
theorem ok_TooMany (F : Fun K "__init__" "TooMany.__init__" (inClass (top 3) 0) f fd) (T : OexC K C) (no : ∀ n ∈ (["what", "many", "most"] : List Str), PySem.W.findIn K (.ref C) n = some none) : FnOk P w K mg base CX0 1 f fd ["self", "what", "many", "most"] (spX C ["what", "many", "most"]) := by
  refine F.ok sc_TooMany (fun vs H Q E h => ?_) (fun cdv A outer s H vs Q E hr h => ?_)
  · obtain ⟨a, ys, rfl, hl, _⟩ := h
    exact congrArg Nat.succ hl
  · obtain ⟨a, ys, rfl, hl, ha, k⟩ := h
    match ys, hl with
    | [y0, y1, y2], _ =>
      refine ⟨_, pss_cons (ps_ost (pv 0) (pv 1)) (pss_cons (ps_ost (pv 0) (pv 2)) (pss_one (ps_ost (pv 0) (pv 3)))), ?_⟩
      refine ⟨y0, rfl, .ref a, rfl, a, C, rfl, T, (no _ (by simp)), .inl ⟨ha, fun dx nd ne => ?_⟩⟩
      refine ⟨y1, rfl, .ref a, rfl, a, C, rfl, T, (no _ (by simp)), .inr ⟨dx, _, upd_same, (upd_ne ne).trans upd_same, by simp, ?_⟩⟩
      rw [put_old ne]
      refine ⟨y2, rfl, .ref a, rfl, a, C, rfl, T, (no _ (by simp)), .inr ⟨dx, _, upd_same, (upd_ne ne).trans upd_same, by simp, ?_⟩⟩
      rw [put_old ne]
      exact k dx nd ne
theorem xr_TooMany (F : Fun K "__init__" "TooMany.__init__" (inClass (top 3) 0) f fd) (cl : XCl K C) (gC : mg "TooMany" = some (.ref C)) (iC : PySem.W.findIn K (.ref C) "__init__" = some (some (.ref f)))
    (tI : PySem.W.typeIn K (.ref f) = some (.type "function")) (no : ∀ n ∈ (["what", "many", "most"] : List Str), PySem.W.findIn K (.ref C) n = some none) : XR P w K mg base "TooMany" C ["what", "many", "most"] :=
  ⟨cl, gC, no, f, fd, iC, tI, ok_TooMany F cl.T no, Fun.binds F fun _ _ _ _ _ _ us hl => match us, hl with | [_, _, _, _], _ => rfl⟩
theorem sc_BadRow : FnScope ["self", "number"] ["self", "number"] (defScope (inClass (top 4) 0)) := ⟨rfl, rfl, rfl, by decide +kernel, rfl, by decide +kernel, by decide +kernel⟩
theorem ok_BadRow (F : Fun K "__init__" "BadRow.__init__" (inClass (top 4) 0) f fd) (T : OexC K C) (no : ∀ n ∈ (["number"] : List Str), PySem.W.findIn K (.ref C) n = some none) : FnOk P w K mg base CX0 1 f fd ["self", "number"] (spX C ["number"]) := by
  refine F.ok sc_BadRow (fun vs H Q E h => ?_) (fun cdv A outer s H vs Q E hr h => ?_)
  · obtain ⟨a, ys, rfl, hl, _⟩ := h
    exact congrArg Nat.succ hl
  · obtain ⟨a, ys, rfl, hl, ha, k⟩ := h
    match ys, hl with
    | [y0], _ =>
      refine ⟨_, pss_one (ps_ost (pv 0) (pv 1)), ?_⟩
      refine ⟨y0, rfl, .ref a, rfl, a, C, rfl, T, (no _ (by simp)), .inl ⟨ha, fun dx nd ne => ?_⟩⟩
      exact k dx nd ne
theorem xr_BadRow (F : Fun K "__init__" "BadRow.__init__" (inClass (top 4) 0) f fd) (cl : XCl K C) (gC : mg "BadRow" = some (.ref C)) (iC : PySem.W.findIn K (.ref C) "__init__" = some (some (.ref f)))
    (tI : PySem.W.typeIn K (.ref f) = some (.type "function")) (no : ∀ n ∈ (["number"] : List Str), PySem.W.findIn K (.ref C) n = some none) : XR P w K mg base "BadRow" C ["number"] :=
  ⟨cl, gC, no, f, fd, iC, tI, ok_BadRow F cl.T no, Fun.binds F fun _ _ _ _ _ _ us hl => match us, hl with | [_, _], _ => rfl⟩
theorem sc_Lone : FnScope ["self", "place"] ["self", "place"] (defScope (inClass (top 5) 0)) := ⟨rfl, rfl, rfl, by decide +kernel, rfl, by decide +kernel, by decide +kernel⟩
theorem ok_Lone (F : Fun K "__init__" "Lone.__init__" (inClass (top 5) 0) f fd) (T : OexC K C) (no : ∀ n ∈ (["place"] : List Str), PySem.W.findIn K (.ref C) n = some none) : FnOk P w K mg base CX0 1 f fd ["self", "place"] (spX C ["place"]) := by
  refine F.ok sc_Lone (fun vs H Q E h => ?_) (fun cdv A outer s H vs Q E hr h => ?_)
  · obtain ⟨a, ys, rfl, hl, _⟩ := h
    exact congrArg Nat.succ hl
  · obtain ⟨a, ys, rfl, hl, ha, k⟩ := h
    match ys, hl with
    | [y0], _ =>
      refine ⟨_, pss_one (ps_ost (pv 0) (pv 1)), ?_⟩
      refine ⟨y0, rfl, .ref a, rfl, a, C, rfl, T, (no _ (by simp)), .inl ⟨ha, fun dx nd ne => ?_⟩⟩
      exact k dx nd ne
theorem xr_Lone (F : Fun K "__init__" "Lone.__init__" (inClass (top 5) 0) f fd) (cl : XCl K C) (gC : mg "Lone" = some (.ref C)) (iC : PySem.W.findIn K (.ref C) "__init__" = some (some (.ref f)))
    (tI : PySem.W.typeIn K (.ref f) = some (.type "function")) (no : ∀ n ∈ (["place"] : List Str), PySem.W.findIn K (.ref C) n = some none) : XR P w K mg base "Lone" C ["place"] :=
  ⟨cl, gC, no, f, fd, iC, tI, ok_Lone F cl.T no, Fun.binds F fun _ _ _ _ _ _ us hl => match us, hl with | [_, _], _ => rfl⟩
end
def exs28 (K : PySem.W.Frag) : List Bool := [(K.lookup sysModules).isSome,
  (xB K (He.ga K "BadLetters") && iniB K "BadLetters" [("letters" : Str)]),
  (xB K (He.ga K "TooMany") && iniB K "TooMany" [("what" : Str), ("many" : Str), ("most" : Str)]),
  (xB K (He.ga K "BadRow") && iniB K "BadRow" [("number" : Str)]),
  (xB K (He.ga K "Lone") && iniB K "Lone" [("place" : Str)])]
def ex28 (K : PySem.W.Frag) : Bool := (exs28 K).all id
def fa28 : List He.Fa := [.glo "is_letters", .glo "check_letters", .glo "is_word", .glo "check_places", .glo "is_row", .glo "table_of", .glo "letters_below", .glo "shared", .glo "cells", .glo "cell_at", .glo "_law_pen_of", .glo "_law_draw", .glo "_law_pick", .glo "_law_word_of", .glo "_law_words", .glo "_law_tree_made", .glo "_law_letters_of", .glo "_law_spots_drawn", .glo "_law_cells", .glo "law", .glo "in_order", .glo "TreesError", .glo "Tree", .glo "BadLetters", .glo "TooMany", .glo "BadRow", .glo "Lone", .free "isinstance", .free "str", .free "len", .free "set", .free "all", .free "tuple", .free "list", .free "bool", .free "enumerate", .free "max", .free "sorted", .free "repr", .free "int", .free "abs", .free "range", .free "min", .free "any", .str "ALPHABET" alpha, .int "LONGEST_WORD" 200, .int "MOST_PLACES" 2000, .cls "Tree", .noat "Tree" "_below", .noat "Tree" "_table", .noat "Tree" "letters", .noat "Tree" "rows", .noat "Tree" "size", .noat "Tree" "height", .meth "Tree" "has", .meth "Tree" "row", .meth "Tree" "below", .meth "Tree" "words", .mkr "Tree"]
def dDef (x : Str) (st : Stmt) : He.DefD := ⟨(x, none), x, x, defArgs st, defBody st, defScope st, [], []⟩
def dMet (x m q : Str) (st : Stmt) : He.DefD := ⟨(x, some m), m, q, defArgs st, defBody st, defScope st, [], []⟩
def fn28 : List He.DefD := [dDef "is_letters" (top 12), dDef "check_letters" (top 13), dDef "is_word" (top 14), dDef "check_places" (top 16), dDef "is_row" (top 18), dDef "table_of" (top 19), dDef "letters_below" (top 20), dDef "shared" (top 21), dDef "cells" (top 26), dDef "cell_at" (top 27), dDef "_law_pen_of" (top 29), dDef "_law_draw" (top 30), dDef "_law_pick" (top 31), dDef "_law_word_of" (top 32), dDef "_law_words" (top 33), dDef "_law_tree_made" (top 34), dDef "_law_letters_of" (top 35), dDef "_law_spots_drawn" (top 36), dDef "_law_cells" (top 37), dDef "law" (top 38), dDef "in_order" (top 17), dMet "BadLetters" "__init__" "BadLetters.__init__" (inClass (top 2) 0), dMet "TooMany" "__init__" "TooMany.__init__" (inClass (top 3) 0), dMet "BadRow" "__init__" "BadRow.__init__" (inClass (top 4) 0), dMet "Lone" "__init__" "Lone.__init__" (inClass (top 5) 0), dMet "Tree" "__init__" "Tree.__init__" (inClass (top 24) 0), dMet "Tree" "has" "Tree.has" (inClass (top 24) 3), dMet "Tree" "row" "Tree.row" (inClass (top 24) 4), dMet "Tree" "below" "Tree.below" (inClass (top 24) 5), dMet "Tree" "words" "Tree.words" (inClass (top 24) 6)]
def tf28 : List He.Defn := [("in_order", none)]
/-! ### the Hook -/
def KF (g : Addr → Option Obj) : PySem.W.Frag := He.frT g (sysModules :: He.asD g 5)
def obsK (g : Addr → Option Obj) : He.AlX := (He.obsT fa28 fn28 [] (KF g), ex28 (KF g) && He.tabsB g tf28 (KF g))
abbrev SaysK (w : World) (h : Heap) (K : PySem.W.Frag) : Prop := He.SaysX fa28 fn28 [] tf28 ex28 w h K
theorem saysK {w : World} {h : Heap} (e : obsK h.get? = He.valX fn28 [] w) : SaysK w h (KF h.get?) := by
  obtain ⟨m1, m2⟩ := He.ba (show (ex28 (KF h.get?) && He.tabsB h.get? tf28 (KF h.get?)) = true from congrArg Prod.snd e)
  have at_ : ∀ p ∈ tf28, PySem.W.codeHdIn (KF h.get?) (He.cT (KF h.get?) p).1 (He.cT (KF h.get?) p).2 = true ∧ ∃ o, h.get? (He.cT (KF h.get?) p).2 = some o ∧ He.emptyTab o = true := fun p hp => by
    obtain ⟨a1, a2⟩ := He.ba (List.all_eq_true.mp m2 p hp)
    refine ⟨a1, ?_⟩
    cases z : h.get? (He.cT (KF h.get?) p).2 with
    | none => rw [z] at a2; cases a2
    | some o => rw [z] at a2; exact ⟨o, rfl, a2⟩
  refine ⟨congrArg Prod.fst e, m1, fun p hp => (at_ p hp).1, fun p hp => ?_, fun p hp => ?_⟩
  · obtain ⟨_, o, z, y⟩ := at_ p hp
    exact He.frT_none z y
  · obtain ⟨_, o, z, y⟩ := at_ p hp
    rw [z, He.emptyTab_eq y]
def hkK : PySem.W.Hook where
  α := He.AlX
  obs := fun s => obsK s.heap.get?
  val := fun w => He.valX fn28 [] w
  says := fun w h => ∃ K : PySem.W.Frag, K.In h ∧ SaysK w h K
  of := fun _ _ e => ⟨_, He.frT_in, saysK e⟩
  keeps := fun _ _ _ ⟨K, hK, c⟩ k => ⟨K, PySem.W.Frag.In.keeps hK k, ⟨c.t, c.more, c.hd, c.out, fun p hp => k _ _ (c.empty p hp)⟩⟩
def obK (s : PySem.W.SharedT) : He.AlX := obsK (HandSHeadRun.getT s)
theorem obK_eq (s : PySem.W.SharedT) : obK s = hkK.obs s.abs := by
  have e : HandSHeadRun.getT s = s.abs.heap.get? := funext (HandSHeadRun.getT_eq s)
  show obsK _ = obsK _
  rw [e]
section
variable {P : Program} {w : World} {K : PySem.W.Frag} {mg : Str → Option Value} {base h : Heap}
theorem SaysK.fun_ (c : SaysK w h K) {d : He.DefD} {st : Stmt} (hm : d ∈ fn28) (hp : d.params = defArgs st) (hb : d.body = defBody st) (hs : d.scope = defScope st) (hd : d.dfl = []) : ∃ fd, Fun K d.name d.qual st (He.fAd K d.at_) fd := by
  obtain ⟨fd, F⟩ := c.t.d.defs hm
  obtain ⟨oc, od, dV, kV, doc, pm, an, cdv, ct, osl, e, lk, hcd, hD, _⟩ := F.ex
  have hdv : d.dvs K = [] := by
    unfold He.DefD.dvs
    rw [hd]
    rfl
  have e3 : dV = .none := by
    rcases hD with ⟨_, z⟩ | ⟨z, _⟩
    · exact z
    · exact absurd hdv z
  subst e3
  refine ⟨fd, ⟨oc, od, kV, doc, pm, an, cdv, ct, osl, ?_, lk, hcd⟩, F.kp⟩
  rw [e, hp, hb, hs]
theorem SaysK.funT (c : SaysK w h K) {d : He.DefD} {st : Stmt} (hm : d ∈ fn28) (hp : d.params = defArgs st) (hb : d.body = defBody st) (hs : d.scope = defScope st) (hd : d.dfl = []) : ∃ fd, FunT K d.name d.qual st (He.fAd K d.at_) fd (He.cT K d.at_).1 := by
  obtain ⟨fd, F⟩ := c.fun_ hm hp hb hs hd
  obtain ⟨oc, od, kV, doc, pm, an, cdv, ct, osl, e, lk, hcd⟩ := F.ex
  obtain ⟨cc, rfl⟩ := He.codeIn_ref hcd
  have z : He.codeOf K d.at_ = cc := He.codeOf_eq lk (by rw [e])
  refine ⟨fd, ⟨oc, od, kV, doc, pm, an, ct, osl, ?_, lk, ?_⟩, F.kp⟩
  · show fd = _
    rw [e]
    show _ = PySem.W.fnOf _ _ _ _ _ _ _ _ _ _ (Value.ref (He.codeOf K d.at_)) _
    rw [z]
  · show PySem.W.codeIn K (.ref (He.codeOf K d.at_)) _ = true
    rw [z]
    exact hcd
theorem SaysK.is (c : SaysK w h K) {b : Bool} (i : Nat) (e : (exs28 K)[i]? = some b) : b = true := by
  have m : (exs28 K).all id = true := c.more
  exact List.all_eq_true.mp m b (List.mem_of_getElem? e)
theorem SaysK.fact (c : SaysK w h K) (i : Nat) {f : He.Fa} (e : fa28[i]? = some f) : f.ok K = true := c.t.d.facts (List.mem_of_getElem? e)
theorem SaysK.glo (c : SaysK w h K) (Kb : K.In base) (hm : base.Ns mainGlobals mg) (i : Nat) {x : Str} (e : fa28[i]? = some (.glo x)) : mg x = some (.ref (He.ga K x)) := He.glo_ok Kb hm (c.fact i e)
theorem SaysK.free (c : SaysK w h K) (Kb : K.In base) (hm : base.Ns mainGlobals mg) (i : Nat) {x : Str} (e : fa28[i]? = some (.free x)) : mg x = none := He.free_ok Kb hm (c.fact i e)
def tabsK (K : PySem.W.Frag) : List (Addr × Addr) := tf28.map fun p => He.cT K p
def TK (K : PySem.W.Frag) : List (Addr × Str) := [((He.cT K ("in_order", none)).2, ("in_order" : Str) ++ ".<locals>." ++ "<lambda>")]
theorem law_all (c : SaysK w h K) (Kb : K.In base) (hm : base.Ns mainGlobals mg) (TB : ∀ p ∈ tabsK K, TabB base mg p.1 p.2) : ∃ fd, Binds K fd ["script"] [] ∧ FnG P w K mg base CX0 9 (He.ga K "law") fd ["script"] (spLaw K (TK K)) := by
  obtain ⟨v_is_letters_d, v_is_letters_F⟩ := c.fun_ (d := dDef "is_letters" (top 12)) (st := top 12) (List.mem_of_getElem? (i := 0) rfl) rfl rfl rfl rfl
  have v_is_letters_b : Binds K v_is_letters_d ["letters"] [] := Fun.binds v_is_letters_F fun _ _ _ _ _ _ us hl => match us, hl with | [_], _ => rfl
  have v_is_letters_g := c.glo Kb hm 0 (x := "is_letters") rfl
  obtain ⟨v_check_letters_d, v_check_letters_F⟩ := c.fun_ (d := dDef "check_letters" (top 13)) (st := top 13) (List.mem_of_getElem? (i := 1) rfl) rfl rfl rfl rfl
  have v_check_letters_b : Binds K v_check_letters_d ["letters"] [] := Fun.binds v_check_letters_F fun _ _ _ _ _ _ us hl => match us, hl with | [_], _ => rfl
  have v_check_letters_g := c.glo Kb hm 1 (x := "check_letters") rfl
  obtain ⟨v_is_word_d, v_is_word_F⟩ := c.fun_ (d := dDef "is_word" (top 14)) (st := top 14) (List.mem_of_getElem? (i := 2) rfl) rfl rfl rfl rfl
  have v_is_word_b : Binds K v_is_word_d ["letters", "word"] [] := Fun.binds v_is_word_F fun _ _ _ _ _ _ us hl => match us, hl with | [_, _], _ => rfl
  have v_is_word_g := c.glo Kb hm 2 (x := "is_word") rfl
  obtain ⟨v_check_places_d, v_check_places_F⟩ := c.fun_ (d := dDef "check_places" (top 16)) (st := top 16) (List.mem_of_getElem? (i := 3) rfl) rfl rfl rfl rfl
  have v_check_places_b : Binds K v_check_places_d ["many"] [] := Fun.binds v_check_places_F fun _ _ _ _ _ _ us hl => match us, hl with | [_], _ => rfl
  have v_check_places_g := c.glo Kb hm 3 (x := "check_places") rfl
  obtain ⟨v_is_row_d, v_is_row_F⟩ := c.fun_ (d := dDef "is_row" (top 18)) (st := top 18) (List.mem_of_getElem? (i := 4) rfl) rfl rfl rfl rfl
  have v_is_row_b : Binds K v_is_row_d ["letters", "row"] [] := Fun.binds v_is_row_F fun _ _ _ _ _ _ us hl => match us, hl with | [_, _], _ => rfl
  have v_is_row_g := c.glo Kb hm 4 (x := "is_row") rfl
  obtain ⟨v_table_of_d, v_table_of_F⟩ := c.fun_ (d := dDef "table_of" (top 19)) (st := top 19) (List.mem_of_getElem? (i := 5) rfl) rfl rfl rfl rfl
  have v_table_of_b : Binds K v_table_of_d ["letters", "rows"] [] := Fun.binds v_table_of_F fun _ _ _ _ _ _ us hl => match us, hl with | [_, _], _ => rfl
  have v_table_of_g := c.glo Kb hm 5 (x := "table_of") rfl
  obtain ⟨v_letters_below_d, v_letters_below_F⟩ := c.fun_ (d := dDef "letters_below" (top 20)) (st := top 20) (List.mem_of_getElem? (i := 6) rfl) rfl rfl rfl rfl
  have v_letters_below_b : Binds K v_letters_below_d ["places"] [] := Fun.binds v_letters_below_F fun _ _ _ _ _ _ us hl => match us, hl with | [_], _ => rfl
  have v_letters_below_g := c.glo Kb hm 6 (x := "letters_below") rfl
  obtain ⟨v_shared_d, v_shared_F⟩ := c.fun_ (d := dDef "shared" (top 21)) (st := top 21) (List.mem_of_getElem? (i := 7) rfl) rfl rfl rfl rfl
  have v_shared_b : Binds K v_shared_d ["one", "other"] [] := Fun.binds v_shared_F fun _ _ _ _ _ _ us hl => match us, hl with | [_, _], _ => rfl
  have v_shared_g := c.glo Kb hm 7 (x := "shared") rfl
  obtain ⟨v_cells_d, v_cells_F⟩ := c.fun_ (d := dDef "cells" (top 26)) (st := top 26) (List.mem_of_getElem? (i := 8) rfl) rfl rfl rfl rfl
  have v_cells_b : Binds K v_cells_d ["tree", "word"] [] := Fun.binds v_cells_F fun _ _ _ _ _ _ us hl => match us, hl with | [_, _], _ => rfl
  have v_cells_g := c.glo Kb hm 8 (x := "cells") rfl
  obtain ⟨v_cell_at_d, v_cell_at_F⟩ := c.fun_ (d := dDef "cell_at" (top 27)) (st := top 27) (List.mem_of_getElem? (i := 9) rfl) rfl rfl rfl rfl
  have v_cell_at_b : Binds K v_cell_at_d ["tree", "word", "length", "words"] [] := Fun.binds v_cell_at_F fun _ _ _ _ _ _ us hl => match us, hl with | [_, _, _, _], _ => rfl
  have v_cell_at_g := c.glo Kb hm 9 (x := "cell_at") rfl
  obtain ⟨v_law_pen_of_d, v_law_pen_of_F⟩ := c.fun_ (d := dDef "_law_pen_of" (top 29)) (st := top 29) (List.mem_of_getElem? (i := 10) rfl) rfl rfl rfl rfl
  have v_law_pen_of_b : Binds K v_law_pen_of_d ["script"] [] := Fun.binds v_law_pen_of_F fun _ _ _ _ _ _ us hl => match us, hl with | [_], _ => rfl
  have v_law_pen_of_g := c.glo Kb hm 10 (x := "_law_pen_of") rfl
  obtain ⟨v_law_draw_d, v_law_draw_F⟩ := c.fun_ (d := dDef "_law_draw" (top 30)) (st := top 30) (List.mem_of_getElem? (i := 11) rfl) rfl rfl rfl rfl
  have v_law_draw_b : Binds K v_law_draw_d ["pen", "many"] [] := Fun.binds v_law_draw_F fun _ _ _ _ _ _ us hl => match us, hl with | [_, _], _ => rfl
  have v_law_draw_g := c.glo Kb hm 11 (x := "_law_draw") rfl
  obtain ⟨v_law_pick_d, v_law_pick_F⟩ := c.fun_ (d := dDef "_law_pick" (top 31)) (st := top 31) (List.mem_of_getElem? (i := 12) rfl) rfl rfl rfl rfl
  have v_law_pick_b : Binds K v_law_pick_d ["pen", "menu"] [] := Fun.binds v_law_pick_F fun _ _ _ _ _ _ us hl => match us, hl with | [_, _], _ => rfl
  have v_law_pick_g := c.glo Kb hm 12 (x := "_law_pick") rfl
  obtain ⟨v_law_word_of_d, v_law_word_of_F⟩ := c.fun_ (d := dDef "_law_word_of" (top 32)) (st := top 32) (List.mem_of_getElem? (i := 13) rfl) rfl rfl rfl rfl
  have v_law_word_of_b : Binds K v_law_word_of_d ["pen", "letters", "size"] [] := Fun.binds v_law_word_of_F fun _ _ _ _ _ _ us hl => match us, hl with | [_, _, _], _ => rfl
  have v_law_word_of_g := c.glo Kb hm 13 (x := "_law_word_of") rfl
  obtain ⟨v_law_words_d, v_law_words_F⟩ := c.fun_ (d := dDef "_law_words" (top 33)) (st := top 33) (List.mem_of_getElem? (i := 14) rfl) rfl rfl rfl rfl
  have v_law_words_b : Binds K v_law_words_d ["spots"] [] := Fun.binds v_law_words_F fun _ _ _ _ _ _ us hl => match us, hl with | [_], _ => rfl
  have v_law_words_g := c.glo Kb hm 14 (x := "_law_words") rfl
  obtain ⟨v_law_tree_made_d, v_law_tree_made_F⟩ := c.fun_ (d := dDef "_law_tree_made" (top 34)) (st := top 34) (List.mem_of_getElem? (i := 15) rfl) rfl rfl rfl rfl
  have v_law_tree_made_b : Binds K v_law_tree_made_d ["letters", "spots"] [] := Fun.binds v_law_tree_made_F fun _ _ _ _ _ _ us hl => match us, hl with | [_, _], _ => rfl
  have v_law_tree_made_g := c.glo Kb hm 15 (x := "_law_tree_made") rfl
  obtain ⟨v_law_letters_of_d, v_law_letters_of_F⟩ := c.fun_ (d := dDef "_law_letters_of" (top 35)) (st := top 35) (List.mem_of_getElem? (i := 16) rfl) rfl rfl rfl rfl
  have v_law_letters_of_b : Binds K v_law_letters_of_d ["pen", "many"] [] := Fun.binds v_law_letters_of_F fun _ _ _ _ _ _ us hl => match us, hl with | [_, _], _ => rfl
  have v_law_letters_of_g := c.glo Kb hm 16 (x := "_law_letters_of") rfl
  obtain ⟨v_law_spots_drawn_d, v_law_spots_drawn_F⟩ := c.fun_ (d := dDef "_law_spots_drawn" (top 36)) (st := top 36) (List.mem_of_getElem? (i := 17) rfl) rfl rfl rfl rfl
  have v_law_spots_drawn_b : Binds K v_law_spots_drawn_d ["pen", "letters", "most"] [] := Fun.binds v_law_spots_drawn_F fun _ _ _ _ _ _ us hl => match us, hl with | [_, _, _], _ => rfl
  have v_law_spots_drawn_g := c.glo Kb hm 17 (x := "_law_spots_drawn") rfl
  obtain ⟨v_law_cells_d, v_law_cells_F⟩ := c.fun_ (d := dDef "_law_cells" (top 37)) (st := top 37) (List.mem_of_getElem? (i := 18) rfl) rfl rfl rfl rfl
  have v_law_cells_b : Binds K v_law_cells_d ["spots", "word"] [] := Fun.binds v_law_cells_F fun _ _ _ _ _ _ us hl => match us, hl with | [_, _], _ => rfl
  have v_law_cells_g := c.glo Kb hm 18 (x := "_law_cells") rfl
  obtain ⟨v_law_d, v_law_F⟩ := c.fun_ (d := dDef "law" (top 38)) (st := top 38) (List.mem_of_getElem? (i := 19) rfl) rfl rfl rfl rfl
  have v_law_b : Binds K v_law_d ["script"] [] := Fun.binds v_law_F fun _ _ _ _ _ _ us hl => match us, hl with | [_], _ => rfl
  have v_law_g := c.glo Kb hm 19 (x := "law") rfl
  obtain ⟨v_in_order_d, v_in_order_F⟩ := c.funT (d := dDef "in_order" (top 17)) (st := top 17) (List.mem_of_getElem? (i := 20) rfl) rfl rfl rfl rfl
  have v_in_order_b : Binds K v_in_order_d ["letters", "words"] [] := FunT.bindsT v_in_order_F fun _ _ _ _ _ _ us hl => match us, hl with | [_, _], _ => rfl
  have v_in_order_g := c.glo Kb hm 20 (x := "in_order") rfl
  obtain ⟨x_BadLetters_d, x_BadLetters_F⟩ := c.fun_ (d := dMet "BadLetters" "__init__" "BadLetters.__init__" (inClass (top 2) 0)) (st := inClass (top 2) 0) (List.mem_of_getElem? (i := 21) rfl) rfl rfl rfl rfl
  have x_BadLetters_g := c.glo Kb hm 23 (x := "BadLetters") rfl
  obtain ⟨x_BadLetters_1, x_BadLetters_2⟩ := He.ba (c.is 1 rfl)
  unfold iniB at x_BadLetters_2
  obtain ⟨x_BadLetters_3, x_BadLetters_4⟩ := He.ba x_BadLetters_2
  obtain ⟨x_BadLetters_5, x_BadLetters_6⟩ := He.ba x_BadLetters_4
  have x_BadLetters_X : XR P w K mg base "BadLetters" (He.ga K "BadLetters") ["letters"] := xr_BadLetters x_BadLetters_F (xB_ok x_BadLetters_1) x_BadLetters_g (of_decide_eq_true x_BadLetters_3) (of_decide_eq_true x_BadLetters_5) fun n hn => of_decide_eq_true (List.all_eq_true.mp x_BadLetters_6 n hn)
  obtain ⟨x_TooMany_d, x_TooMany_F⟩ := c.fun_ (d := dMet "TooMany" "__init__" "TooMany.__init__" (inClass (top 3) 0)) (st := inClass (top 3) 0) (List.mem_of_getElem? (i := 22) rfl) rfl rfl rfl rfl
  have x_TooMany_g := c.glo Kb hm 24 (x := "TooMany") rfl
  obtain ⟨x_TooMany_1, x_TooMany_2⟩ := He.ba (c.is 2 rfl)
  unfold iniB at x_TooMany_2
  obtain ⟨x_TooMany_3, x_TooMany_4⟩ := He.ba x_TooMany_2
  obtain ⟨x_TooMany_5, x_TooMany_6⟩ := He.ba x_TooMany_4
  have x_TooMany_X : XR P w K mg base "TooMany" (He.ga K "TooMany") ["what", "many", "most"] := xr_TooMany x_TooMany_F (xB_ok x_TooMany_1) x_TooMany_g (of_decide_eq_true x_TooMany_3) (of_decide_eq_true x_TooMany_5) fun n hn => of_decide_eq_true (List.all_eq_true.mp x_TooMany_6 n hn)
  obtain ⟨x_BadRow_d, x_BadRow_F⟩ := c.fun_ (d := dMet "BadRow" "__init__" "BadRow.__init__" (inClass (top 4) 0)) (st := inClass (top 4) 0) (List.mem_of_getElem? (i := 23) rfl) rfl rfl rfl rfl
  have x_BadRow_g := c.glo Kb hm 25 (x := "BadRow") rfl
  obtain ⟨x_BadRow_1, x_BadRow_2⟩ := He.ba (c.is 3 rfl)
  unfold iniB at x_BadRow_2
  obtain ⟨x_BadRow_3, x_BadRow_4⟩ := He.ba x_BadRow_2
  obtain ⟨x_BadRow_5, x_BadRow_6⟩ := He.ba x_BadRow_4
  have x_BadRow_X : XR P w K mg base "BadRow" (He.ga K "BadRow") ["number"] := xr_BadRow x_BadRow_F (xB_ok x_BadRow_1) x_BadRow_g (of_decide_eq_true x_BadRow_3) (of_decide_eq_true x_BadRow_5) fun n hn => of_decide_eq_true (List.all_eq_true.mp x_BadRow_6 n hn)
  obtain ⟨x_Lone_d, x_Lone_F⟩ := c.fun_ (d := dMet "Lone" "__init__" "Lone.__init__" (inClass (top 5) 0)) (st := inClass (top 5) 0) (List.mem_of_getElem? (i := 24) rfl) rfl rfl rfl rfl
  have x_Lone_g := c.glo Kb hm 26 (x := "Lone") rfl
  obtain ⟨x_Lone_1, x_Lone_2⟩ := He.ba (c.is 4 rfl)
  unfold iniB at x_Lone_2
  obtain ⟨x_Lone_3, x_Lone_4⟩ := He.ba x_Lone_2
  obtain ⟨x_Lone_5, x_Lone_6⟩ := He.ba x_Lone_4
  have x_Lone_X : XR P w K mg base "Lone" (He.ga K "Lone") ["place"] := xr_Lone x_Lone_F (xB_ok x_Lone_1) x_Lone_g (of_decide_eq_true x_Lone_3) (of_decide_eq_true x_Lone_5) fun n hn => of_decide_eq_true (List.all_eq_true.mp x_Lone_6 n hn)
  obtain ⟨m_Tree_init_d, m_Tree_init_F⟩ := c.fun_ (d := dMet "Tree" "__init__" "Tree.__init__" (inClass (top 24) 0)) (st := inClass (top 24) 0) (List.mem_of_getElem? (i := 25) rfl) rfl rfl rfl rfl
  have m_Tree_init_b : Binds K m_Tree_init_d ["self", "letters", "rows"] [] := Fun.binds m_Tree_init_F fun _ _ _ _ _ _ us hl => match us, hl with | [_, _, _], _ => rfl
  obtain ⟨m_Tree_has_d, m_Tree_has_F⟩ := c.fun_ (d := dMet "Tree" "has" "Tree.has" (inClass (top 24) 3)) (st := inClass (top 24) 3) (List.mem_of_getElem? (i := 26) rfl) rfl rfl rfl rfl
  have m_Tree_has_b : Binds K m_Tree_has_d ["self", "place"] [] := Fun.binds m_Tree_has_F fun _ _ _ _ _ _ us hl => match us, hl with | [_, _], _ => rfl
  obtain ⟨m_Tree_row_d, m_Tree_row_F⟩ := c.fun_ (d := dMet "Tree" "row" "Tree.row" (inClass (top 24) 4)) (st := inClass (top 24) 4) (List.mem_of_getElem? (i := 27) rfl) rfl rfl rfl rfl
  have m_Tree_row_b : Binds K m_Tree_row_d ["self", "place"] [] := Fun.binds m_Tree_row_F fun _ _ _ _ _ _ us hl => match us, hl with | [_, _], _ => rfl
  obtain ⟨m_Tree_below_d, m_Tree_below_F⟩ := c.fun_ (d := dMet "Tree" "below" "Tree.below" (inClass (top 24) 5)) (st := inClass (top 24) 5) (List.mem_of_getElem? (i := 28) rfl) rfl rfl rfl rfl
  have m_Tree_below_b : Binds K m_Tree_below_d ["self", "place"] [] := Fun.binds m_Tree_below_F fun _ _ _ _ _ _ us hl => match us, hl with | [_, _], _ => rfl
  obtain ⟨m_Tree_words_d, m_Tree_words_F⟩ := c.fun_ (d := dMet "Tree" "words" "Tree.words" (inClass (top 24) 6)) (st := inClass (top 24) 6) (List.mem_of_getElem? (i := 29) rfl) rfl rfl rfl rfl
  have m_Tree_words_b : Binds K m_Tree_words_d ["self"] [] := Fun.binds m_Tree_words_F fun _ _ _ _ _ _ us hl => match us, hl with | [_], _ => rfl
  have f_isinstance := c.free Kb hm 27 (x := "isinstance") rfl
  have f_str := c.free Kb hm 28 (x := "str") rfl
  have f_len := c.free Kb hm 29 (x := "len") rfl
  have f_set := c.free Kb hm 30 (x := "set") rfl
  have f_all := c.free Kb hm 31 (x := "all") rfl
  have f_tuple := c.free Kb hm 32 (x := "tuple") rfl
  have f_list := c.free Kb hm 33 (x := "list") rfl
  have f_bool := c.free Kb hm 34 (x := "bool") rfl
  have f_enumerate := c.free Kb hm 35 (x := "enumerate") rfl
  have f_max := c.free Kb hm 36 (x := "max") rfl
  have f_sorted := c.free Kb hm 37 (x := "sorted") rfl
  have f_repr := c.free Kb hm 38 (x := "repr") rfl
  have f_int := c.free Kb hm 39 (x := "int") rfl
  have f_abs := c.free Kb hm 40 (x := "abs") rfl
  have f_range := c.free Kb hm 41 (x := "range") rfl
  have f_min := c.free Kb hm 42 (x := "min") rfl
  have f_any := c.free Kb hm 43 (x := "any") rfl
  have g_TreesError := c.glo Kb hm 21 (x := "TreesError") rfl
  have g_Tree := c.glo Kb hm 22 (x := "Tree") rfl
  have g_BadLetters := c.glo Kb hm 23 (x := "BadLetters") rfl
  have g_TooMany := c.glo Kb hm 24 (x := "TooMany") rfl
  have g_BadRow := c.glo Kb hm 25 (x := "BadRow") rfl
  have g_Lone := c.glo Kb hm 26 (x := "Lone") rfl
  have s_ALPHABET := He.str_ok Kb hm (c.fact 44 (f := .str "ALPHABET" alpha) rfl)
  have i_LONGEST_WORD := He.int_ok Kb hm (c.fact 45 (f := .int "LONGEST_WORD" 200) rfl)
  have i_MOST_PLACES := He.int_ok Kb hm (c.fact 46 (f := .int "MOST_PLACES" 2000) rfl)
  have c_Tree := He.cls_ok (c.fact 47 (f := .cls "Tree") rfl)
  have n_Tree__below := He.noat_ok (c.fact 48 (f := .noat "Tree" "_below") rfl)
  have n_Tree__table := He.noat_ok (c.fact 49 (f := .noat "Tree" "_table") rfl)
  have n_Tree_letters := He.noat_ok (c.fact 50 (f := .noat "Tree" "letters") rfl)
  have n_Tree_rows := He.noat_ok (c.fact 51 (f := .noat "Tree" "rows") rfl)
  have n_Tree_size := He.noat_ok (c.fact 52 (f := .noat "Tree" "size") rfl)
  have n_Tree_height := He.noat_ok (c.fact 53 (f := .noat "Tree" "height") rfl)
  have t_Tree_has := He.meth_ok (c.fact 54 (f := .meth "Tree" "has") rfl)
  have t_Tree_row := He.meth_ok (c.fact 55 (f := .meth "Tree" "row") rfl)
  have t_Tree_below := He.meth_ok (c.fact 56 (f := .meth "Tree" "below") rfl)
  have t_Tree_words := He.meth_ok (c.fact 57 (f := .meth "Tree" "words") rfl)
  have k_Tree := He.mkr_ok (c.fact 58 (f := .mkr "Tree") rfl)
  have sys : ∃ o, K.lookup sysModules = some o := Option.isSome_iff_exists.mp (c.is 0 rfl)
  obtain ⟨tA, gA⟩ := s_ALPHABET
  obtain ⟨tW, gW⟩ := i_LONGEST_WORD
  obtain ⟨tM, gM⟩ := i_MOST_PLACES
  have R : TreeC K (He.ga K "Tree") := ⟨c_Tree, n_Tree__table, n_Tree__below, n_Tree_rows⟩
  have no : ∀ g ∈ (["_below", "_table", "letters", "rows", "size", "height"] : List Str), NoAttr K (He.ga K "Tree") g := fun g hg => by
    simp only [List.mem_cons, List.mem_nil_iff, or_false] at hg
    rcases hg with rfl | rfl | rfl | rfl | rfl | rfl
    · exact n_Tree__below
    · exact n_Tree__table
    · exact n_Tree_letters
    · exact n_Tree_rows
    · exact n_Tree_size
    · exact n_Tree_height
  have tb := TB (He.cT K ("in_order", none)) (List.mem_map.mpr ⟨("in_order", none), .head _, rfl⟩)
  have GL := ok_letters (P := P) (w := w) (base := base) v_is_letters_F f_isinstance f_str f_len f_set f_all gA
  have GCL := ok_checkL v_check_letters_F x_BadLetters_X v_is_letters_g v_is_letters_F.kp GL v_is_letters_b
  have GW := ok_word (P := P) (w := w) (base := base) v_is_word_F f_isinstance f_str f_len f_all gW
  have GCP := ok_checkP v_check_places_F x_TooMany_X gM
  have GO := ok_order (P := P) (w := w) (T := TK K) v_in_order_F f_enumerate f_sorted gA tb (.head _) (fun p hp _ => by
      obtain rfl : p = ((He.cT K ("in_order", none)).2, ("in_order" : Str) ++ ".<locals>." ++ "<lambda>") := by simpa [TK] using hp
      rfl)
  have GR := ok_row v_is_row_F f_isinstance f_tuple f_list f_bool f_len v_is_word_g v_is_word_F.kp GW v_is_word_b
  have GT := ok_table v_table_of_F x_BadRow_X f_enumerate f_tuple v_is_row_g v_is_row_F.kp GR v_is_row_b
  have GB := ok_below v_letters_below_F x_Lone_X
  have GI := ok_init (C := ⟨He.ga K "BadLetters", He.ga K "TooMany", He.ga K "BadRow", He.ga K "Lone"⟩) (T := TK K) m_Tree_init_F c_Tree no f_len f_list f_tuple f_max v_check_letters_g v_check_letters_F.kp GCL v_check_letters_b v_check_places_g v_check_places_F.kp GCP v_check_places_b v_table_of_g v_table_of_F.kp GT v_table_of_b v_in_order_g v_in_order_F.kp GO v_in_order_b v_letters_below_g v_letters_below_F.kp GB v_letters_below_b
  have GH := ok_has (P := P) (w := w) (base := base) m_Tree_has_F R f_isinstance f_str
  have GRM := ok_rowM m_Tree_row_F R t_Tree_has GH m_Tree_has_b
  have GBM := ok_bel m_Tree_below_F R t_Tree_has GH m_Tree_has_b
  have GWM := ok_wordsM (P := P) (w := w) (base := base) m_Tree_words_F R f_tuple
  have GS := ok_shared (P := P) (w := w) (base := base) v_shared_F f_min f_len f_range
  have GCA := ok_cellat v_cell_at_F R f_min f_len t_Tree_has GH m_Tree_has_b t_Tree_row GRM m_Tree_row_b t_Tree_below GBM m_Tree_below_b
  have GC := ok_cells v_cells_F R f_tuple f_range f_len t_Tree_words GWM m_Tree_words_b v_shared_g v_shared_F.kp GS v_shared_b v_cell_at_g v_cell_at_F.kp GCA v_cell_at_b
  have GPen := ok_pen (P := P) (w := w) (base := base) v_law_pen_of_F f_list
  have GD := ok_draw (P := P) (w := w) (base := base) v_law_draw_F f_int f_len f_abs
  have GPi := ok_pick v_law_pick_F f_len v_law_draw_g v_law_draw_F.kp GD v_law_draw_b
  have GWo := ok_wordof v_law_word_of_F f_range v_law_pick_g v_law_pick_F.kp GPi v_law_pick_b
  have GLe := ok_letters_of v_law_letters_of_F f_range f_list f_len v_law_draw_g v_law_draw_F.kp GD v_law_draw_b
  have GSp := ok_spots v_law_spots_drawn_F f_range f_len v_law_draw_g v_law_draw_F.kp GD v_law_draw_b v_law_word_of_g v_law_word_of_F.kp GWo v_law_word_of_b
  have GLW := ok_lwords (P := P) (w := w) (base := base) v_law_words_F f_sorted
  have GM := ok_made v_law_tree_made_F f_sorted g_Tree k_Tree GI m_Tree_init_b
  have GLC := ok_lcells v_law_cells_F f_range f_len f_min f_any f_tuple v_law_words_g v_law_words_F.kp GLW v_law_words_b
  exact ⟨v_law_d, v_law_b, ok_law (T := TK K) v_law_F R f_range f_sorted f_repr f_len sys v_law_pen_of_g v_law_pen_of_F.kp GPen v_law_pen_of_b v_law_draw_g v_law_draw_F.kp GD v_law_draw_b v_law_letters_of_g v_law_letters_of_F.kp GLe v_law_letters_of_b v_law_spots_drawn_g v_law_spots_drawn_F.kp GSp v_law_spots_drawn_b v_law_tree_made_g v_law_tree_made_F.kp GM v_law_tree_made_b v_law_pick_g v_law_pick_F.kp GPi v_law_pick_b v_law_word_of_g v_law_word_of_F.kp GWo v_law_word_of_b v_law_cells_g v_law_cells_F.kp GLC v_law_cells_b v_cells_g v_cells_F.kp GC v_cells_b⟩
end
end SK
namespace SK
open PySem PySem.Spec PyProof.Rows L2 LamX NdefX
abbrev RR : PySem.W.OpenRow := PySem.W.OpenLaw.row PySem.Challenge.rw_lettertrees_k28_cells_of_ways
def namesK : List Str := [("TreesError" : Str), ("BadLetters" : Str), ("TooMany" : Str), ("BadRow" : Str), ("Lone" : Str), ("NoPlace" : Str), ("BadWord" : Str), ("ALPHABET" : Str), ("LONGEST_WORD" : Str), ("MOST_PLACES" : Str), ("is_letters" : Str), ("check_letters" : Str), ("is_word" : Str), ("check_words" : Str), ("check_places" : Str), ("in_order" : Str), ("is_row" : Str), ("table_of" : Str), ("letters_below" : Str), ("shared" : Str), ("number_of_beginnings" : Str), ("marks_of" : Str), ("Tree" : Str), ("cells" : Str), ("cell_at" : Str), ("_law_pen_of" : Str), ("_law_draw" : Str), ("_law_pick" : Str), ("_law_word_of" : Str), ("_law_words" : Str), ("_law_tree_made" : Str), ("_law_letters_of" : Str), ("_law_spots_drawn" : Str), ("_law_cells" : Str)]
theorem runK (w : World) : HandSHeadRun.RunEq RR (PySem.W.view RR.prog [38]) hkK obK 9000 namesK w := by
  intro os
  kernel_rfl
end SK
open PySem PySem.W PySem.Calls PyProof.Rows
theorem PySem.Challenge.cw_lettertrees_k28_cells_of_ways_holds : PySem.Challenge.rw_lettertrees_k28_cells_of_ways.Holds := by
  w_on; o_law
  refine HandSHeadRun.head_any (r := SK.RR) (q := view SK.RR.prog [38]) (H := SK.hkK) (ob := SK.obK) (M := 9000) (loose := SK.namesK) (d := HandSHeadRun.topDef SK.RR.prog 38) (kwd := []) SK.obK_eq
    (by kernel_rfl) (fun s => by kernel_rfl) SK.runK (by kernel_rfl) (by kernel_rfl) (by kernel_rfl) (by rfl) (by first | assumption | decide +kernel) (by decide +kernel) ⟨rfl, rfl, rfl, rfl, rfl, by decide +kernel⟩ ?hw ?hc
  case hw => w_witness2
  case hc =>
    refine Att.attach_call (l := PySem.Challenge.rw_lettertrees_k28_cells_of_ways) (n := 63) rfl (by kernel_rfl) fun w s₀ s₁ mg mb fa o pm cd doc a vs ns G Y ho hd hcd hmg hobj hints hlen hg => ?_
    obtain ⟨K, KX, c⟩ := Y
    have hl : mg ("law" : PySem.Str) = some (.ref (He.ga K "law")) := SK.SaysK.glo c KX G.T.g 19 rfl
    have hmg' : mg ("law" : PySem.Str) = some (.ref fa) := by
      have e : (HandSHeadRun.topDef SK.RR.prog 38).name = ("law" : PySem.Str) := by kernel_rfl
      rw [← e]
      exact hmg
    rw [hmg'] at hl
    have ef : fa = He.ga K "law" := Value.ref.inj (Option.some.inj hl)
    rw [ef]
    have mem : ∀ P ∈ (SK.tabsK K).map (·.2), ∃ p ∈ SK.tf28, (He.cT K p).2 = P := fun P hP => by
      obtain ⟨q, hq, rfl⟩ := List.mem_map.mp hP
      obtain ⟨p, hp, rfl⟩ := List.mem_map.mp hq
      exact ⟨p, hp, rfl⟩
    refine SK.run_lawG (ps := SK.tabsK K) (T := SK.TK K) (K := K) (mg := mg) (mb := mb) (fun base Kb hm TB => SK.law_all c Kb hm TB) ⟨rfl, by decide, by decide⟩ (fun H a ns h1 h2 h3 => ⟨a, ns, rfl, h1, h2, h3, fun _ => rfl⟩) ?_ KX G.T.g G.T.b G.T.builtins G.T.nolimit hg (fun P hP => ?_) (fun P hP => ?_) (fun p hp => ?_) G.T.bmain hobj hints hlen
    · intro p hp
      simp only [SK.TK, List.mem_cons, List.mem_nil_iff, or_false] at hp
      subst hp
      exact List.mem_map.mpr ⟨_, List.mem_map.mpr ⟨("in_order", none), .head _, rfl⟩, rfl⟩
    · obtain ⟨p, hp, rfl⟩ := mem P hP
      exact c.empty p hp
    · obtain ⟨p, hp, rfl⟩ := mem P hP
      exact c.out p hp
    · obtain ⟨q, hq, rfl⟩ := List.mem_map.mp hp
      exact codeHd_of_K KX (c.hd q hq)
