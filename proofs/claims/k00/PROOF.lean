import PyProof.Rows.All
import Wide.All
import OpenK.AllK
import Wide.FinOn
import HandS.ForSpec
import HandS.ExcInit
import KE.KExcIs
import HandS.IsInst
import HandS.ExcValue
import HandS.Dict
import HandS.Comp
import HandS.Style
import HandS.WordsDict
import HandS.HeadHook1
import HandS.HeadHook2
import HandS.Ends
import HandS.ExcBuiltin
import KE.KStateDown
import HandS.Defaults
import HandS.Head0
import HandS.Head1
import HandS.Head2
import HandS.HeadEnd
import PySem.Challenge.RW_lettertrees_k00_errors
set_option Elab.async false
set_option linter.all false
set_option maxRecDepth 100000
set_option maxHeartbeats 0
/-! ### calls of an own exception class with keywords: the boot's __new__ takes any, the own __init__ gets them -/
namespace K0
open PySem PySem.W PySem.Calls PySem.HandSPX
section
variable {M : Model} {A : Around} {E : Value → Shared → Prop} {h : Heap} {g : Array GenState} {d : Drawn} {t : Nat} {os : OsState}
variable {nm q : Str} {C N : Addr} {bs bm bmB : List Value} {hdct : Bool} {sn : List Str} {sub : List Value} {ab : Bool} {col : Option Bool} {dd : Option Addr}
variable {k0 k1 k2 k3 k5 : Option Value} {B newId initId : String}

theorem kw_check_new (F : ExcBaseFacts B newId initId bmB) (hT : ∀ X : String, bm.contains (.type X) = bmB.contains (.type X)) {rest : List Value} {kw : List (Str × Value)} {Q : Unit → Shared → Prop}
    (hC : h.get? C = some (excClassObj nm q C N bs bm hdct sn sub ab col dd k0 k1 k2 k3 k5 newId)) (hq : Q () ⟨h, g, d, t, os⟩) :
    wpAny M A (checkBuiltinCall newId ⟨.ref C :: rest, kw⟩) Q E ⟨h, g, d, t, os⟩ := by
  have hB : (Value.ref C :: bm).contains (.type B) = true := by
    rw [List.contains_cons, hT, F.hasB, Bool.or_true]
  have hs := F.noStar
  simp only [checkBuiltinCall, F.newKind, F.newSplit, F.newRow]
  repeat
    first
    | refine wpAny_loadPart_at hC ?_
    | (refine wpAny_isSubtype_exc hC ?_
       rw [hB])
    | refine wpAny_staticBase_exc hC ?_
    | refine wpAny_madeBy_exc hC ?_
    | simp only [bne_self_eq_false, Bool.false_eq_true, if_false]
    | wp_step
  exact hq
end
section
variable {prog : Program} {w : World} {A : Around} {E : Value → Shared → Prop} {R : Result → Shared → Prop} {h : Heap} {g : Array GenState} {d : Drawn} {t : Nat} {os : OsState}
variable {nm q : Str} {C N : Addr} {bs bm bmB : List Value} {hdct : Bool} {sn : List Str} {sub : List Value} {ab : Bool} {col : Option Bool} {dd : Option Addr}
variable {k0 k1 k2 k3 k5 : Option Value} {B newId initId : String}

/-- the heap with a new exception of the class at C, its args behind it -/
abbrev twoMore (h : Heap) (C : Addr) (rest : List Value) : Heap := (h.push (W.kdv_tup rest)).push (excO C h.objs.size)

theorem kw_new (F : ExcBaseFacts B newId initId bmB) (hT : ∀ X : String, bm.contains (.type X) = bmB.contains (.type X)) {rest : List Value} {kw : List (Str × Value)}
    (hC : h.get? C = some (excClassObj nm q C N bs bm hdct sn sub ab col dd k0 k1 k2 k3 k5 newId))
    (hq : R (.ok (.ret (.ref (h.objs.size + 1)))) ⟨twoMore h C rest, g, d, t, os⟩) (hz : rest.length ≤ sizeLine) :
    codeAny (model prog w) A (.builtin newId ⟨.ref C :: rest, kw⟩) R ⟨h, g, d, t, os⟩ := by
  have e0 := F.ends
  have cB : (Value.ref C :: bm).contains (.type B) = true := by
    rw [List.contains_cons, hT, F.hasB, Bool.or_true]
  have cA : (Value.ref C :: bm).contains (.type "AttributeError") = false := by
    rw [List.contains_cons, hT, F.noAttr] <;> rfl
  have cN : (Value.ref C :: bm).contains (.type "NameError") = false := by
    rw [List.contains_cons, hT, F.noName] <;> rfl
  refine codeAny_builtinAt F.entry ?_
  unfold Builtin.«BaseException.__new__»
  refine wpAt_bind ?_
  show wpAt _ _ _ (stack >>= _) _ _ _
  refine wpAt_bind (wpAt_stack fun p below => wpAt_of_wpAny ?_)
  wp_walk
  refine wpAt_of_wpAny ?_
  rw [F.owner]
  repeat
    first
    | with_reducible refine wpAny_madeHere_exc F.canon hC ?_
    | with_reducible refine wpAny_loadPart_at hC ?_
    | (with_reducible refine wpAny_isSubtype_exc hC ?_
       first | rw [cB] | rw [cA] | rw [cN])
    | wp_step
  show R _ _
  rw [Heap.size_push]
  exact hq

theorem kw_typeCall (F : ExcBaseFacts B newId initId bmB) (hT : ∀ X : String, bm.contains (.type X) = bmB.contains (.type X)) {rest : List Value} {kw : List (Str × Value)} {fI : Addr} {Q : Fin → Shared → Prop}
    (hC : h.get? C = some (excClassObj nm q C N bs bm hdct sn sub ab col dd k0 k1 k2 k3 k5 newId))
    (hi : W.Looks (model prog w) h (typeLookup (.ref C) "__init__") (some (.ref fI))) (hb : ∀ self, W.Looks (model prog w) h (bindSpecial (.ref fI) self) (.ref fI, [self])) (hz : rest.length ≤ sizeLine)
    (hq : codeAny (model prog w) A (.call (.ref fI) ⟨.ref (h.objs.size + 1) :: rest, kw⟩)
      (fun r s' => match r with | .ok (.ret v) => v = .none ∧ Q (.done (.ret (.ref (h.objs.size + 1)))) s' | .ok _ => False | .error e => E e s') ⟨twoMore h C rest, g, d, t, os⟩) :
    wpAny (model prog w) A (Builtin.«type.__call__» ⟨.ref C :: rest, kw⟩) Q E ⟨h, g, d, t, os⟩ := by
  repeat
    first
    | with_reducible refine wpAny_loadPart_at hC ?_
    | with_reducible refine wpAny_madeBy_exc hC ?_
    | wp_step
  refine codeAny_call_builtin_code (Code.quiet_builtin _ F.quiet) (kw_check_new F hT hC ?_)
  refine kw_new F hT hC ?_ hz
  show wpAny _ _ _ _ _ _
  have k : ∀ b o, h.get? b = some o → (twoMore h C rest).get? b = some o := fun b o e => Heap.get?_push_of_some _ (Heap.get?_push_of_some _ e)
  have hC1 := k _ _ hC
  have hx : (twoMore h C rest).get? (h.objs.size + 1) = some (excO C h.objs.size) := by heap_get
  have cC : (Value.ref C :: bm).contains (.ref C) = true := by simp
  have i1 := hi.keeps k
  have b1 := (hb (.ref (h.objs.size + 1))).keeps k
  unfold isInstance
  repeat
    first
    | with_reducible refine wpAny_loadPart_at hx ?_
    | (with_reducible refine wpAny_isSubtype_exc hC1 ?_
       rw [cC])
    | wp_step
  show wpAny _ _ (typeLookup (.ref C) _) _ _ _
  refine i1.at ?_
  refine wpAny_holding (wpAny_bind (b1.at ?_))
  refine wpAny_bind (wpAny_call (codeAny_mono hq fun r s' z => ?_))
  cases r with
  | error e => exact z
  | ok f =>
    cases f with
    | ret v =>
      obtain ⟨rfl, z⟩ := z
      first
      | exact wpAny_pure (wpAny_pure z)
      | (wp_walk
         exact z)
    | next => exact z.elim
    | brk => exact z.elim
    | cont => exact z.elim

theorem kw_checkCall {M : Model} {rest : List Value} {kw : List (Str × Value)} {Q : Unit → Shared → Prop} (hC : h.get? C = some (excClassObj nm q C N bs bm hdct sn sub ab col dd k0 k1 k2 k3 k5 newId))
    (hq : Q () ⟨h, g, d, t, os⟩) : wpAny M A (checkBuiltinCall "type.__call__" ⟨.ref C :: rest, kw⟩) Q E ⟨h, g, d, t, os⟩ := by
  have e3 := tc_sub
  have ty : (⟨h, g, d, t, os⟩ : Shared).TypeIs (.ref C) "type" := ⟨_, hC, rfl⟩
  simp only [checkBuiltinCall, tc_kind, tc_split]
  repeat (any_goals (first
    | assumption
    | with_reducible refine wpAny_loadPart_at hC ?_
    | with_reducible refine wpAny_onRaise ?_
    | with_reducible refine wpAny_map ?_
    | wp_step))

theorem kw_call (F : ExcBaseFacts B newId initId bmB) (hT : ∀ X : String, bm.contains (.type X) = bmB.contains (.type X)) {rest : List Value} {kw : List (Str × Value)} {fI : Addr}
    (hC : h.get? C = some (excClassObj nm q C N bs bm hdct sn sub ab col dd k0 k1 k2 k3 k5 newId))
    (hi : W.Looks (model prog w) h (typeLookup (.ref C) "__init__") (some (.ref fI))) (hb : ∀ self, W.Looks (model prog w) h (bindSpecial (.ref fI) self) (.ref fI, [self])) (hz : rest.length ≤ sizeLine)
    (hq : codeAny (model prog w) (A.under (.builtin "type.__call__" ⟨.ref C :: rest, kw⟩)) (.call (.ref fI) ⟨.ref (h.objs.size + 1) :: rest, kw⟩) (W.InitBack (h.objs.size + 1) R) ⟨twoMore h C rest, g, d, t, os⟩) :
    codeAny (model prog w) A (.call (.ref C) ⟨rest, kw⟩) R ⟨h, g, d, t, os⟩ := by
  have f1 := tc_lookup
  have f2 := tc_bind (.ref C)
  have ty : (⟨h, g, d, t, os⟩ : Shared).TypeIs (.ref C) "type" := ⟨_, hC, rfl⟩
  refine codeAny_of_tree ?_
  show wpAny _ _ (callAny (.ref C) _) _ _ _
  repeat (any_goals (first
    | assumption
    | with_reducible refine wpAny_loadPart_at hC ?_
    | wp_step))
  refine ⟨rfl, ?_⟩
  refine codeAny_call_builtin_at (Code.quiet_builtin _ (by decide +kernel)) entry_typeCall (kw_checkCall hC (kw_typeCall F hT hC hi hb hz ?_))
  refine codeAny_mono hq fun r s' z => ?_
  cases r with
  | error e => exact z
  | ok f => cases f <;> exact z
end
end K0
namespace K0
open PySem PySem.Spec PyProof.Rows L2
abbrev St := L2.St
section
variable {X : Cx} {pins : List (Addr × Obj)} {σ : St} {H H' : Hp} {s : Shared}
/-- things told by what is true of their one object may be forgotten -/
theorem forget (I : Inv X pins σ H' s) (sub : ∀ b o, H b = some o → H' b = some o) (ext : ∀ b o, H' b = some o → H b = some o ∨ ∃ φ, o = HO.ext φ) : Inv X pins σ H s := by
  have fr : ∀ b, H' b = none → H b = none := fun b n => by
    cases q : H b with
    | none => rfl
    | some o =>
      rw [sub b o q] at n
      cases n
  have back : ∀ b o, H' b = some o → (∀ φ, o ≠ HO.ext φ) → H b = some o := fun b o q n => by
    rcases ext b o q with z | ⟨φ, z⟩
    · exact z
    · exact absurd z (n φ)
  refine ⟨I.ok, I.os, I.bare, ⟨I.base.keep, I.base.slot, fun b o e n hx => fr b (I.base.free b o e n hx), I.base.there, fun b xs q => ?_, fun b o u q => ?_, fun b ps q => ?_⟩, I.loc, I.cell, fr _ I.free, fun x c e => fr c (I.freeC x c e), fun p hp => ?_, fun b o q => ?_, I.len⟩
  · exact back b _ (I.base.tups b xs q) (fun φ z => nomatch z)
  · exact back b _ (I.base.frzs b o u q) (fun φ z => nomatch z)
  · obtain ⟨m, z⟩ := I.base.tbls b ps q
    exact ⟨m, back b _ z (fun φ z => nomatch z)⟩
  · obtain ⟨h1, h2, h3, h4, h5⟩ := I.pin p hp
    exact ⟨h1, fr _ h2, h3, h4, h5⟩
  · exact (I.hok b o (sub b o q)).stay (fun c v _ z => z) (fun c z => back c _ z (fun φ z => nomatch z)) fun c xs z => back c _ z (fun φ z => nomatch z)
end

/-! ### an exception of an own class with its own __init__ -/
structure XCl (K : PySem.W.Frag) (C : Addr) : Prop where
  T : OexC K C
  ga : PySem.W.findIn K (.ref C) "__getattribute__" = some (some (.builtin "BaseException.__getattribute__"))
  gg : PySem.W.findIn K (.ref C) "__getattr__" = some none
  hd : PySem.W.hasDictIn K C = true
  ha : PySem.W.findIn K (.ref C) "__class__" = some (some (.builtin "object.__class__"))
  hn : PySem.W.specialIn K (.builtin "object.__class__") "__get__" = some (some (.builtin "getset_descriptor.__get__"))
  ht : PySem.W.takesIn K (.builtin "object.__class__") = some true
  hm : PySem.W.mroIn K C (.type "object") = some true
/-- the heap with an exception of C at a, its dict of the fields fs at dx -/
abbrev withX (H : Hp) (C a dx : Addr) (fs : List (Str × V)) : Hp := upd (upd H dx (exd dx fs)) a (exo a C (some dx))
/-- what such an __init__ does: the fields fs get the arguments -/
def spX (C : Addr) (fs : List Str) : Sp := fun vs H Q _ => ∃ (a : Addr) (ys : List V), vs = .ref a :: ys ∧ ys.length = fs.length ∧ H a = some (exo a C none) ∧
  ∀ dx, H dx = none → dx ≠ a → Q .non (withX H C a dx (fs.zip ys).reverse)
theorem withX_sub {H : Hp} {C a dx : Addr} {fs : List (Str × V)} (ha : H a = none) (hd : H dx = none) : ∀ b o, H b = some o → withX H C a dx fs b = some o := fun b o e => by
  show upd (upd H dx _) a _ b = some o
  rw [upd_ne (ne_of_none e ha), upd_ne (ne_of_none e hd)]
  exact e
theorem withX_ext {H : Hp} {C a dx : Addr} {fs : List (Str × V)} : ∀ b o, withX H C a dx fs b = some o → H b = some o ∨ ∃ φ, o = HO.ext φ := fun b o e => by
  have e' : upd (upd H dx (exd dx fs)) a (exo a C (some dx)) b = some o := e
  by_cases hb : b = a
  · subst hb
    rw [upd_same] at e'
    exact .inr ⟨_, (Option.some.inj e').symm⟩
  · rw [upd_ne hb] at e'
    by_cases hd : b = dx
    · subst hd
      rw [upd_same] at e'
      exact .inr ⟨_, (Option.some.inj e').symm⟩
    · rw [upd_ne hd] at e'
      exact .inl e'
section
variable {X : Cx} {k : Nat} {f C : Addr} {fd : FuncData} {ps : List Str} {sp : Sp}
theorem run_mx {pins : List (Addr × Obj)} {σ : St} {H : Hp} {s : Shared} {Q : VK} {us args : List Value} {kw : List (Str × Value)} {vs : List V} (T : OexC X.K C) (iC : PySem.W.findIn X.K (.ref C) "__init__" = some (some (.ref f)))
    (tI : PySem.W.typeIn X.K (.ref f) = some (.type "function")) (F : FnOk X.prog X.w X.K X.mg X.base CX0 k f fd ps sp) (hr : Room (k + 1) X.A)
    (hb : ∀ (s : Shared) (self : Value), X.K.In s.heap → BindsTo s fd ⟨self :: us, kw⟩ (ps.zip (self :: args))) (I : Inv X pins σ H s) (hz : us.length ≤ sizeLine) (r : Vals vs args)
    (h : ∀ a, H a = none → sp (.ref a :: vs) (upd H a (exo a C none)) (fun v H2 => v = .non ∧ Q (.ref a) H2) E0) :
    wpAny (model X.prog X.w) X.A (call (.ref C) us kw) (EP X pins σ Q) X.xe s := by
  obtain ⟨nm, q, N, bs, bm, sn, sub, ab, col, dd, k0, k1, k2, k3, k5, hC, hbm⟩ := T.cls
  obtain ⟨hp, g, dr, tk, os⟩ := s
  have up : hp.objs.size ≤ hp.objs.size + 1 := Nat.le_succ _
  have hq := h (hp.objs.size + 1) (I.hok.fresh up)
  have keep : ∀ b o, hp.get? b = some o → (twoMore hp C us).get? b = some o := fun b o e => Heap.get?_push_of_some _ (Heap.get?_push_of_some _ e)
  have there : (twoMore hp C us).get? (hp.objs.size + 1) = some (PySem.HandSPX.excO C hp.objs.size) := by heap_get
  have I2 : Inv X pins σ (upd H (hp.objs.size + 1) (exo (hp.objs.size + 1) C none)) ⟨twoMore hp C us, g, dr, tk, os⟩ := I.laid (t' := tk) keep up (exo_ok there)
  have r2 : Vals (V.ref (hp.objs.size + 1) :: vs) (Value.ref (hp.objs.size + 1) :: args) := .cons rfl r
  refine wpAny_call (kw_call PySem.F.excBase_ValueError (fun Y => PySem.HandSPX.refsVE_contains Y bm hbm) (I.kIn _ _ hC) (PySem.W.looks_findIn I.kIn iC) (fun self => PySem.W.bind_fn I.kIn self tI) hz
    (codeAny_mono (F.run _ X.stack _ _ ⟨Value.ref (hp.objs.size + 1) :: us, kw⟩ _ _ _ E0 (hr.make C us kw) (I2.env0.make C us kw) (hb _ _ I2.kIn) r2 hq) fun r s' hq' => ?_))
  cases r with
  | error er => exact hq'.elim
  | ok fl =>
    cases fl with
    | ret u =>
      obtain ⟨v, H3, I3, rv, ev, q3⟩ := I2.after hq'
      subst ev
      exact ⟨rv, ⟨V.ref (hp.objs.size + 1), H3, I3, rfl, q3⟩⟩
    | next => exact False.elim hq'
    | brk => exact False.elim hq'
    | cont => exact False.elim hq'
/-- the class made, its fields kept: as a value -/
theorem run_mv {fs : List Str} {pins : List (Addr × Obj)} {σ : St} {H : Hp} {s : Shared} {Q : VK} {us args : List Value} {kw : List (Str × Value)} {vs : List V} (T : OexC X.K C) (iC : PySem.W.findIn X.K (.ref C) "__init__" = some (some (.ref f)))
    (tI : PySem.W.typeIn X.K (.ref f) = some (.type "function")) (F : FnOk X.prog X.w X.K X.mg X.base CX0 k f fd ps (spX C fs)) (hr : Room (k + 1) X.A)
    (hb : ∀ (s : Shared) (self : Value), X.K.In s.heap → BindsTo s fd ⟨self :: us, kw⟩ (ps.zip (self :: args))) (I : Inv X pins σ H s) (hz : us.length ≤ sizeLine) (r : Vals vs args) (hl : vs.length = fs.length)
    (h : ∀ a dx, H a = none → H dx = none → dx ≠ a → Q (.ref a) (withX H C a dx (fs.zip vs).reverse)) :
    wpAny (model X.prog X.w) X.A (call (.ref C) us kw) (EP X pins σ Q) X.xe s := by
  refine run_mx T iC tI F hr hb I hz r fun a na => ⟨a, vs, rfl, hl, upd_same, fun dx nd ne => ⟨rfl, ?_⟩⟩
  have nd' : H dx = none := by
    rw [upd_ne ne] at nd
    exact nd
  have e : withX (upd H a (exo a C none)) C a dx (fs.zip vs).reverse = withX H C a dx (fs.zip vs).reverse := by
    funext b
    show upd (upd (upd H a _) dx _) a _ b = upd (upd H dx _) a _ b
    by_cases hb : b = a
    · rw [hb, upd_same, upd_same]
    · rw [upd_ne hb, upd_ne hb]
      by_cases hd : b = dx
      · rw [hd, upd_same, upd_same]
      · rw [upd_ne hd, upd_ne hd, upd_ne hb]
  rw [e]
  exact h a dx na nd' ne
end
end K0
namespace K0
open PySem PySem.Spec PyProof.Rows L2
section
variable {X : Cx} {k : Nat} {f C : Addr} {fd : FuncData} {ps : List Str} {fs : List Str} {x n : Str} {e : Expr} {es : List Expr} {ta : TA} {te : TE} {p pos pos' : Pos} {kws : List Keyword}
/-- what the top says of such a class and its __init__ -/
structure XMk (X : Cx) (x : Str) (C : Addr) (fs : List Str) : Prop where
  cl : XCl X.K C
  gC : X.mg x = some (.ref C)
  ini : ∃ f fd k, PySem.W.findIn X.K (.ref C) "__init__" = some (some (.ref f)) ∧ PySem.W.typeIn X.K (.ref f) = some (.type "function") ∧ FnOk X.prog X.w X.K X.mg X.base CX0 k f fd (("self" : Str) :: fs) (spX C fs) ∧ Room (k + 1) X.A ∧
    (∀ (s : Shared) (self : Value) (us : List Value), us.length = fs.length → BindsTo s fd ⟨self :: us, []⟩ ((("self" : Str) :: fs).zip (self :: us))) ∧
    (∀ (s : Shared) (self : Value) (us : List Value), us.length = fs.length → BindsTo s fd ⟨[self], fs.zip us⟩ ((("self" : Str) :: fs).zip (self :: us)))
/-- C(e, ..) : whatever is asked of the arguments and the heap there, the new exception stands behind it -/
structure PX (X : Cx) (e : Expr) (C : Addr) (fs : List Str) (ta : TA) : Prop where
  run : ∀ (pins : List (Addr × Obj)) (s : Shared) (σ : St) (H : Hp) (P : List V → Hp → Prop), Inv X pins σ H s → (ta σ H fun vs H1 => vs.length = fs.length ∧ vs.length ≤ 1000 ∧ P vs H1) →
    wpAny (model X.prog X.w) X.A (eval e X.env) (fun u s1 => ∃ (vs : List V) (H1 : Hp) (a dx : Addr), u = .ref a ∧ H1 a = none ∧ H1 dx = none ∧ dx ≠ a ∧ Inv X pins σ (withX H1 C a dx (fs.zip vs).reverse) s1 ∧ P vs H1) X.xe s
theorem us_small {vs : List V} {us : List Value} (r : Vals vs us) (h : vs.length ≤ 1000) : us.length ≤ sizeLine := by
  rw [← Paired.length r, sizeLine_eq]
  omega
theorem px_pos (M : XMk X x C fs) (hg : Gl X x) (ha : PA X (e :: es) ta) (hdb : (x == ("__debug__" : Str)) = false := by decide)
    (he : starEach (e :: es) X.env = (false, eval e X.env) :: starEach es X.env := by rfl) (hpl : (backTo pos (starEach es X.env)).any (·.1) = false := by rfl) :
    PX X (.Call (.Name x p) (e :: es) [] pos) C fs ta := by
  refine ⟨fun pins s σ H P I h => ?_⟩
  obtain ⟨f, fd, k, iC, tI, F, hr, b1, _⟩ := M.ini
  refine wpAny_Call_Name_kw (ld_glob I hg M.gC ?_ hdb)
  refine PySem.W.callWith_K (h₀ := X.base) I.ok.mod.kin M.cl.T.kC (thn (ha.run pos pins s σ H _ I h) fun us s1 ⟨vs, H1, I1, r, hl, hz, q⟩ => ⟨I1.kIn, ?_⟩) he hpl
  refine thn (run_mv (fs := fs) (Q := fun v H2 => ∃ a dx, v = .ref a ∧ H1 a = none ∧ H1 dx = none ∧ dx ≠ a ∧ H2 = withX H1 C a dx (fs.zip vs).reverse) M.cl.T iC tI F hr (fun s self _ => b1 s self us (r.length.symm.trans hl)) I1 (us_small r hz) r hl
    fun a dx na nd ne => ⟨a, dx, rfl, na, nd, ne, rfl⟩) fun u s2 ⟨v, H2, I2, rv, a, dx, ev, na, nd, ne, eH⟩ => ?_
  subst ev eH
  exact ⟨vs, H1, a, dx, rv, na, nd, ne, I2, q⟩
theorem px_kw (M : XMk X x C fs) (hg : Gl X x) (hkw : PK X kws ta) (hall : (backToKw pos (keywordEach kws X.env)).all (·.1.isSome) = true := by rfl) (hks : (backToKw pos (keywordEach kws X.env)).filterMap (·.1) = fs := by rfl)
    (hdb : (x == ("__debug__" : Str)) = false := by decide) (hpl : ((backTo pos (starEach [] X.env)).any (·.1) || (backToKw pos (keywordEach kws X.env)).any (·.1.isNone)) = false := by rfl) :
    PX X (.Call (.Name x p) [] kws pos) C fs ta := by
  refine ⟨fun pins s σ H P I h => ?_⟩
  obtain ⟨f, fd, k, iC, tI, F, hr, _, b2⟩ := M.ini
  refine wpAny_Call_Name_kw (ld_glob I hg M.gC ?_ hdb)
  refine PySem.W.callWith_KW0 (h₀ := X.base) I.ok.mod.kin M.cl.T.kC hall (thn (hkw.run pos pins s σ H _ I h) fun us s1 ⟨vs, H1, I1, r, hl, hz, q⟩ => ⟨I1.kIn, ?_⟩) hpl
  rw [hks]
  refine thn (run_mv (fs := fs) (us := []) (Q := fun v H2 => ∃ a dx, v = .ref a ∧ H1 a = none ∧ H1 dx = none ∧ dx ≠ a ∧ H2 = withX H1 C a dx (fs.zip vs).reverse) M.cl.T iC tI F hr (fun s self _ => b2 s self us (r.length.symm.trans hl)) I1 (Nat.zero_le _) r hl
    fun a dx na nd ne => ⟨a, dx, rfl, na, nd, ne, rfl⟩) fun u s2 ⟨v, H2, I2, rv, a, dx, ev, na, nd, ne, eH⟩ => ?_
  subst ev eH
  exact ⟨vs, H1, a, dx, rv, na, nd, ne, I2, q⟩
/-- C(e, ..) as a value -/
def tMx (C : Addr) (fs : List Str) (ta : TA) : TE := fun σ H Q => ta σ H fun vs H1 => vs.length = fs.length ∧ vs.length ≤ 1000 ∧ ∀ a dx, H1 a = none → H1 dx = none → dx ≠ a → Q (.ref a) (withX H1 C a dx (fs.zip vs).reverse)
theorem pe_mx (h : PX X e C fs ta) : PE X e (tMx C fs ta) := by
  refine ⟨fun pins s σ H Q I h0 => thn (h.run pins s σ H _ I h0) fun u s1 hh => ?_⟩
  obtain ⟨vs, H1, a, dx, rfl, na, nd, ne, I1, q⟩ := hh
  exact ⟨.ref a, _, I1, rfl, q a dx na nd ne⟩
/-- C(e, ..).n: the exception itself is let go -/
def tFx (fs : List Str) (n : Str) (ta : TA) : TE := fun σ H Q => ta σ H fun vs H1 => vs.length = fs.length ∧ vs.length ≤ 1000 ∧ ∃ v, (fs.zip vs).reverse.lookup n = some v ∧ Q v H1
theorem pe_fx (cl : XCl X.K C) (hno : PySem.W.findIn X.K (.ref C) n = some none) (h : PX X e C fs ta) (hb : attributeBase e n X.env (eval e X.env) = eval e X.env := by rfl) : PE X (.Attribute e n pos) (tFx fs n ta) := by
  refine ⟨fun pins s σ H Q I h0 => attr_of hb (thn (h.run pins s σ H _ I h0) fun u s1 hh => ?_)⟩
  obtain ⟨vs, H1, a, dx, rfl, na, nd, ne, I1, v, l, q⟩ := hh
  have ea : withX H1 C a dx (fs.zip vs).reverse a = some (exo a C (some dx)) := upd_same
  have ed : withX H1 C a dx (fs.zip vs).reverse dx = some (exd dx (fs.zip vs).reverse) := (upd_ne ne).trans upd_same
  obtain ⟨t1, ho⟩ := exo_at I1.hok ea
  obtain ⟨mA, hns, rel⟩ := exd_at I1.hok ed
  obtain ⟨od, hd, hl⟩ := lookIn_ns hns
  obtain ⟨u, hu, ru⟩ := RelO.some_of (v := v) (o := mA n) (by rw [← l]; exact rel n)
  have J : PySem.W.InstAt s1.heap a _ C (some od) := ⟨ho, rfl, rfl, hd⟩
  exact PySem.HandSPX.exc_get I1.kIn J cl.ga cl.gg cl.T.exC (PySem.W.findObj_own cl.hd hno rfl (by rw [hl, hu])) (handed_of ru) ⟨v, H1, (forget I1 (withX_sub na nd) withX_ext).tok _, ru, q⟩
/-! ### C(), a class without an own __init__ -/
theorem pe_m0 {newId initId B : String} {bmB : List Value} (F : ExcBaseFacts B newId initId bmB) (q : PySem.W.excIn X.K C bmB newId = true) (gC : X.mg x = some (.ref C)) (kC : PySem.W.keepIn X.K (.ref C) = true) (hg : Gl X x) (hdb : (x == ("__debug__" : Str)) = false := by decide) :
    PE X (.Call (.Name x p) [] [] pos) (fun _ H Q => ∀ a, H a = none → Q (.ref a) (upd H a (exo a C none))) := by
  refine ⟨fun pins s σ H Q I h => ?_⟩
  refine wpAny_Call_Name_kw (ld_glob I hg gC ?_ hdb)
  refine PySem.W.callWith_K0 I.kIn kC ?_
  show wpAny _ _ (call (.ref C) []) _ _ _
  obtain ⟨bm, N, nm, qn, bs, hdct, sn, sub, ab, col, dd, k0, k1, k2, k3, k5, mN, hC, hN, hni, T⟩ := exc_obj I.kIn q
  refine wpAny_call_exc_subT F T hC hN hni (fun h' a hm => ?_) (Nat.zero_le _)
  have hn : H a = none := I.hok.gone hm.new
  obtain ⟨t, ht, _, _⟩ := hm.there
  exact ⟨.ref a, upd H a (exo a C none), I.laidN hm.keeps hm.new hn (exo_ok ht), rfl, h a hn⟩
/-! ### isinstance(e, c), e such an exception -/
def rIsx (K : PySem.W.Frag) : List V → Hp → VK → Prop := fun xs H Q => ∃ (a D : Addr) (c : V) (u : Value) (b : Bool), xs = [.ref a, c] ∧ ClsV c u ∧ XCl K D ∧ (H a = some (exo a D none) ∨ ∃ dx gs, H a = some (exo a D (some dx)) ∧ H dx = some (exd dx gs)) ∧
  PySem.W.kitOne K (.ref D) u = some b ∧ Q (.bl b) H
theorem call_isx : CallR X (.builtin "isinstance") (rIsx X.K) := by
  intro pins s σ H xs us Q I r h
  obtain ⟨a, D, c, u, b, rfl, k, cl, ha, e, q⟩ := h
  obtain ⟨u1, u2, rfl, r1, r2⟩ := vals2 r
  obtain rfl : u1 = Value.ref a := r1
  have e2 := k.eq r2
  subst e2
  have hc : (PySem.W.clsIn X.K D).isSome = true := by
    obtain ⟨cd, hcd, _⟩ := PySem.W.any_some cl.hd
    rw [hcd]
    rfl
  have J : ∃ ox od, PySem.W.InstAt s.heap a ox D od := by
    rcases ha with ha | ⟨dx, gs, ha, hd⟩
    · obtain ⟨t1, ho⟩ := exo_at I.hok ha
      exact ⟨_, none, ho, rfl, rfl, trivial⟩
    · obtain ⟨t1, ho⟩ := exo_at I.hok ha
      obtain ⟨mA, hns, rel⟩ := exd_at I.hok hd
      obtain ⟨od, hd, hl⟩ := lookIn_ns hns
      exact ⟨_, some od, ho, rfl, rfl, hd⟩
  obtain ⟨ox, od, J⟩ := J
  exact PySem.W.kia_one (PySem.W.kitx_exc (ox := ox) (od := od) hc cl.ga cl.gg cl.T.exC cl.ha cl.hn cl.ht cl.hm) I.kIn J e (fun z => nomatch z) fun tk => ⟨.bl b, H, I.tok tk, rfl, q⟩
end
/-! ### repr of data with empty dicts -/
mutual
inductive De (K : PySem.W.Frag) (H : Hp) : V → PyData → Prop
  | non : De K H .non .none
  | bl (b : Bool) : De K H (.bl b) (.bool b)
  | int (i : Int) : De K H (.int i) (.int i)
  | str (x : Str) : De K H (.str x) (.str x)
  | lst {a : Addr} {xs : List V} {ds : List PyData} : H a = some (.lst xs) → DeAll K H xs ds → De K H (.ref a) (.list ds)
  | tup {a : Addr} {xs : List V} {ds : List PyData} : H a = some (.tup xs) → DeAll K H xs ds → De K H (.ref a) (.tuple ds)
  | dic {a : Addr} : H a = some (.dK []) → De K H (.ref a) (.dict [])
inductive DeAll (K : PySem.W.Frag) (H : Hp) : List V → List PyData → Prop
  | nil : DeAll K H [] []
  | cons {v : V} {vs : List V} {d : PyData} {ds : List PyData} : De K H v d → DeAll K H vs ds → DeAll K H (v :: vs) (d :: ds)
end
section
variable {X : Cx} {pins : List (Addr × Obj)} {σ : St} {H : Hp} {s : Shared}
theorem off {a : Addr} {o : HO} (hs : H sysModules = none) (h : H a = some o) : sysModules ≠ a := fun e => by
  rw [← e, hs] at h
  cases h
mutual
theorem de_reads (I : Inv X pins σ H s) (hs : H sysModules = none) : ∀ (d : PyData) (v : V) (u : Value), De X.K H v d → RelV v u → ∃ as, Reads s.heap u d as ∧ sysModules ∉ as
  | .none, _, _, h, r => by
    cases h
    obtain rfl : _ = Value.none := r
    exact ⟨_, Reads.none, by simp⟩
  | .bool b, _, _, h, r => by
    cases h
    obtain rfl : _ = Value.bool b := r
    exact ⟨_, Reads.bool b, by simp⟩
  | .int i, _, _, h, r => by
    cases h
    obtain ⟨t, rfl⟩ := r
    exact ⟨_, Reads.int i t, by simp⟩
  | .str x, _, _, h, r => by
    cases h
    obtain ⟨t, rfl⟩ := r
    exact ⟨_, Reads.str x t, by simp⟩
  | .list ds, _, _, h, r => by
    cases h with
    | @lst a xs _ ha hd =>
      obtain rfl : _ = Value.ref a := r
      obtain ⟨_, its, n, rv, ho⟩ := (show ObjOk X.prog X.w H s.heap a (.lst xs) from I.hok a _ ha)
      obtain ⟨as, hr, hn⟩ := de_all I hs ds xs its hd rv
      refine ⟨_, Reads.list ho rfl rfl hr, fun z => ?_⟩
      rcases List.mem_cons.mp z with z | z
      · exact off hs ha z
      · exact hn z
  | .tuple ds, _, _, h, r => by
    cases h with
    | @tup a xs _ ha hd =>
      obtain rfl : _ = Value.ref a := r
      obtain ⟨_, its, rv, o, ho, hc, n, hd2⟩ := (show ObjOk X.prog X.w H s.heap a (.tup xs) from I.hok a _ ha)
      obtain ⟨as, hr, hn⟩ := de_all I hs ds xs its hd rv
      exact ⟨_, Reads.tuple ho hc hd2 hr, hn⟩
  | .dict _, _, _, h, r => by
    cases h with
    | @dic a ha =>
      obtain rfl : _ = Value.ref a := r
      obtain ⟨_, _, vs, rv, o, es, ep, ho, hx, hd, _, hp, _⟩ := (show ObjOk X.prog X.w H s.heap a (.dK []) from I.hok a _ ha)
      cases rv
      have e0 : es.toList = [] := by
        have z := hp.length
        exact List.eq_nil_of_length_eq_zero z
      refine ⟨_, Reads.dict (as := []) (bs := []) ho hx.1 hd (by rw [e0]; exact ReadsAll.nil) (by rw [e0]; exact ReadsAll.nil), fun z => ?_⟩
      simp at z
      exact off hs ha z
theorem de_all (I : Inv X pins σ H s) (hs : H sysModules = none) : ∀ (ds : List PyData) (vs : List V) (us : List Value), DeAll X.K H vs ds → Vals vs us → ∃ as, ReadsAll s.heap us ds as ∧ sysModules ∉ as
  | [], _, _, h, r => by
    cases h
    cases r
    exact ⟨_, ReadsAll.nil, by simp⟩
  | d :: ds, _, _, h, r => by
    cases h with
    | cons h1 h2 =>
      cases r with
      | cons r1 r2 =>
        obtain ⟨as, q1, n1⟩ := de_reads I hs d _ _ h1 r1
        obtain ⟨bs, q2, n2⟩ := de_all I hs ds _ _ h2 r2
        exact ⟨_, ReadsAll.cons q1 q2, fun z => (List.mem_append.mp z).elim n1 n2⟩
end
end
section
variable {X : Cx}
/-- repr(xs), xs a list of data -/
def rRep (K : PySem.W.Frag) : List V → Hp → VK → Prop := fun xs H Q => ∃ (a : Addr) (d : PyData), xs = [.ref a] ∧ De K H (.ref a) d ∧ d.showable = true ∧ d.depth ≤ 8 ∧ d.shown.length ≤ sizeLine ∧ Q (.str d.shown) H
theorem call_rep (hg : X.A.guards = some []) (hu : X.A.units + 64 < cLine) (hsys : ∃ o, X.K.lookup sysModules = some o) : CallR X (.builtin "repr") (rRep X.K) := by
  intro pins s σ H xs us Q I r h
  obtain ⟨a, d, rfl, hd, hsh, hdp, hz, q⟩ := h
  obtain ⟨oS, hoS⟩ := hsys
  have hs : H sysModules = none := (I.bs _ _ (I.ok.mod.kin _ _ hoS)).2
  obtain ⟨u, rfl, ru⟩ := vals1 r
  obtain rfl : u = Value.ref a := ru
  obtain ⟨as, hr, hn⟩ := de_reads I hs d _ _ hd rfl
  exact repr_of_reads' hr hsh (fun _ => hn) hg (by omega) (fun _ _ z => z) (fun h' t tk hk => ⟨.str d.shown, H, I.kept hk, ⟨t, rfl⟩, q⟩) hz
end
end K0
namespace K0
open PySem PySem.Spec PyProof.Rows L2
def top (i : Nat) : Stmt := PySem.Challenge.pw_lettertrees_k00_errors.main.body.getD i (.Pass ⟨0, 0, 0, 0⟩)
/-! ### the classes' __init__ -/
theorem put_old {H : Hp} {C a dx : Addr} {fs gs : List (Str × V)} (ne : dx ≠ a) : upd (withX H C a dx fs) dx (exd dx gs) = withX H C a dx gs := by
  funext b
  show upd (upd (upd H dx _) a _) dx _ b = upd (upd H dx _) a _ b
  by_cases hd : b = dx
  · rw [hd, upd_same, upd_ne ne, upd_same]
  · rw [upd_ne hd]
    by_cases ha : b = a
    · rw [ha, upd_same, upd_same]
    · rw [upd_ne ha, upd_ne ha, upd_ne hd, upd_ne hd]
/-- what the walk asks of a class: its facts, its name, its __init__ -/
structure XDef (P : Program) (w : World) (K : PySem.W.Frag) (mg : Str → Option Value) (base : Heap) (x : Str) (C : Addr) (fs : List Str) : Prop where
  cl : XCl K C
  gC : mg x = some (.ref C)
  no : ∀ n ∈ fs, PySem.W.findIn K (.ref C) n = some none
  ini : ∃ f fd, PySem.W.findIn K (.ref C) "__init__" = some (some (.ref f)) ∧ PySem.W.typeIn K (.ref f) = some (.type "function") ∧ FnOk P w K mg base CX0 1 f fd (("self" : Str) :: fs) (spX C fs) ∧
    (∀ (s : Shared) (self : Value) (us : List Value), us.length = fs.length → BindsTo s fd ⟨self :: us, []⟩ ((("self" : Str) :: fs).zip (self :: us))) ∧
    (∀ (s : Shared) (self : Value) (us : List Value), us.length = fs.length → BindsTo s fd ⟨[self], fs.zip us⟩ ((("self" : Str) :: fs).zip (self :: us)))
theorem XDef.mk' {X : Cx} {x : Str} {C : Addr} {fs : List Str} (D : XDef X.prog X.w X.K X.mg X.base x C fs) (hr : Room 2 X.A) : XMk X x C fs := by
  obtain ⟨cl, gC, no, f, fd, h1, h2, h3, h4, h5⟩ := D
  exact ⟨cl, gC, f, fd, 1, h1, h2, h3, hr, h4, h5⟩
section
variable {P : Program} {w : World} {K : PySem.W.Frag} {mg : Str → Option Value} {base : Heap} {f C : Addr} {fd : FuncData}
theorem sc_BadLetters : FnScope ["self", "letters"] ["self", "letters"] (defScope (inClass (top 2) 0)) := ⟨rfl, rfl, rfl, by decide +kernel, rfl, by decide +kernel, by decide +kernel⟩
theorem ok_BadLetters (F : Fun K "__init__" "BadLetters.__init__" (inClass (top 2) 0) f fd) (T : OexC K C) (no : ∀ n ∈ (["letters"] : List Str), PySem.W.findIn K (.ref C) n = some none) : FnOk P w K mg base CX0 1 f fd ["self", "letters"] (spX C ["letters"]) := by
  refine F.ok sc_BadLetters (fun vs H Q E h => ?_) (fun cdv A outer s H vs Q E hr h => ?_)
  · obtain ⟨a, ys, rfl, hl, _⟩ := h
    exact congrArg Nat.succ hl
  · obtain ⟨a, ys, rfl, hl, ha, k⟩ := h
    match ys, hl with
    | [y0], _ =>
      refine ⟨_, pss_one (ps_ost (pv 0) (pv 1)), ?_⟩
      refine ⟨y0, rfl, .ref a, rfl, a, C, rfl, T, (no _ (by simp)), .inl ⟨ha, fun dx nd ne => ?_⟩⟩
      exact k dx nd ne
theorem def_BadLetters (F : Fun K "__init__" "BadLetters.__init__" (inClass (top 2) 0) f fd) (cl : XCl K C) (gC : mg "BadLetters" = some (.ref C)) (iC : PySem.W.findIn K (.ref C) "__init__" = some (some (.ref f)))
    (tI : PySem.W.typeIn K (.ref f) = some (.type "function")) (no : ∀ n ∈ (["letters"] : List Str), PySem.W.findIn K (.ref C) n = some none) : XDef P w K mg base "BadLetters" C ["letters"] := by
  refine ⟨cl, gC, no, f, fd, iC, tI, ok_BadLetters F cl.T no, fun s self us hl => ?_, fun s self us hl => ?_⟩
  all_goals
    obtain ⟨oc, od, kV, doc, pm, an, cdv, ct, osl, rfl, lk, hcd⟩ := F.ex
    match us, hl with
    | [_], _ => exact .of_eq rfl
theorem sc_TooMany : FnScope ["self", "what", "many", "most"] ["self", "what", "many", "most"] (defScope (inClass (top 3) 0)) := ⟨rfl, rfl, rfl, by decide +kernel, rfl, by decide +kernel, by decide +kernel⟩
theorem ok_TooMany (F : Fun K "__init__" "TooMany.__init__" (inClass (top 3) 0) f fd) (T : OexC K C) (no : ∀ n ∈ (["what", "many", "most"] : List Str), PySem.W.findIn K (.ref C) n = some none) : FnOk P w K mg base CX0 1 f fd ["self", "what", "many", "most"] (spX C ["what", "many", "most"]) := by
  refine F.ok sc_TooMany (fun vs H Q E h => ?_) (fun cdv A outer s H vs Q E hr h => ?_)
  · obtain ⟨a, ys, rfl, hl, _⟩ := h
    exact congrArg Nat.succ hl
  · obtain ⟨a, ys, rfl, hl, ha, k⟩ := h
    match ys, hl with
    | [y0, y1, y2], _ =>
      refine ⟨_, pss_cons (ps_ost (pv 0) (pv 1)) (pss_cons (ps_ost (pv 0) (pv 2)) (pss_one (ps_ost (pv 0) (pv 3)))), ?_⟩
      refine ⟨y0, rfl, .ref a, rfl, a, C, rfl, T, (no _ (by simp)), .inl ⟨ha, fun dx nd ne => ?_⟩⟩
      refine ⟨y1, rfl, .ref a, rfl, a, C, rfl, T, (no _ (by simp)), .inr ⟨dx, _, upd_same, (upd_ne ne).trans upd_same, by simp, ?_⟩⟩
      rw [put_old ne]
      refine ⟨y2, rfl, .ref a, rfl, a, C, rfl, T, (no _ (by simp)), .inr ⟨dx, _, upd_same, (upd_ne ne).trans upd_same, by simp, ?_⟩⟩
      rw [put_old ne]
      exact k dx nd ne
theorem def_TooMany (F : Fun K "__init__" "TooMany.__init__" (inClass (top 3) 0) f fd) (cl : XCl K C) (gC : mg "TooMany" = some (.ref C)) (iC : PySem.W.findIn K (.ref C) "__init__" = some (some (.ref f)))
    (tI : PySem.W.typeIn K (.ref f) = some (.type "function")) (no : ∀ n ∈ (["what", "many", "most"] : List Str), PySem.W.findIn K (.ref C) n = some none) : XDef P w K mg base "TooMany" C ["what", "many", "most"] := by
  refine ⟨cl, gC, no, f, fd, iC, tI, ok_TooMany F cl.T no, fun s self us hl => ?_, fun s self us hl => ?_⟩
  all_goals
    obtain ⟨oc, od, kV, doc, pm, an, cdv, ct, osl, rfl, lk, hcd⟩ := F.ex
    match us, hl with
    | [_, _, _], _ => exact .of_eq rfl
theorem sc_BadRow : FnScope ["self", "number"] ["self", "number"] (defScope (inClass (top 4) 0)) := ⟨rfl, rfl, rfl, by decide +kernel, rfl, by decide +kernel, by decide +kernel⟩
theorem ok_BadRow (F : Fun K "__init__" "BadRow.__init__" (inClass (top 4) 0) f fd) (T : OexC K C) (no : ∀ n ∈ (["number"] : List Str), PySem.W.findIn K (.ref C) n = some none) : FnOk P w K mg base CX0 1 f fd ["self", "number"] (spX C ["number"]) := by
  refine F.ok sc_BadRow (fun vs H Q E h => ?_) (fun cdv A outer s H vs Q E hr h => ?_)
  · obtain ⟨a, ys, rfl, hl, _⟩ := h
    exact congrArg Nat.succ hl
  · obtain ⟨a, ys, rfl, hl, ha, k⟩ := h
    match ys, hl with
    | [y0], _ =>
      refine ⟨_, pss_one (ps_ost (pv 0) (pv 1)), ?_⟩
      refine ⟨y0, rfl, .ref a, rfl, a, C, rfl, T, (no _ (by simp)), .inl ⟨ha, fun dx nd ne => ?_⟩⟩
      exact k dx nd ne
theorem def_BadRow (F : Fun K "__init__" "BadRow.__init__" (inClass (top 4) 0) f fd) (cl : XCl K C) (gC : mg "BadRow" = some (.ref C)) (iC : PySem.W.findIn K (.ref C) "__init__" = some (some (.ref f)))
    (tI : PySem.W.typeIn K (.ref f) = some (.type "function")) (no : ∀ n ∈ (["number"] : List Str), PySem.W.findIn K (.ref C) n = some none) : XDef P w K mg base "BadRow" C ["number"] := by
  refine ⟨cl, gC, no, f, fd, iC, tI, ok_BadRow F cl.T no, fun s self us hl => ?_, fun s self us hl => ?_⟩
  all_goals
    obtain ⟨oc, od, kV, doc, pm, an, cdv, ct, osl, rfl, lk, hcd⟩ := F.ex
    match us, hl with
    | [_], _ => exact .of_eq rfl
theorem sc_Lone : FnScope ["self", "place"] ["self", "place"] (defScope (inClass (top 5) 0)) := ⟨rfl, rfl, rfl, by decide +kernel, rfl, by decide +kernel, by decide +kernel⟩
theorem ok_Lone (F : Fun K "__init__" "Lone.__init__" (inClass (top 5) 0) f fd) (T : OexC K C) (no : ∀ n ∈ (["place"] : List Str), PySem.W.findIn K (.ref C) n = some none) : FnOk P w K mg base CX0 1 f fd ["self", "place"] (spX C ["place"]) := by
  refine F.ok sc_Lone (fun vs H Q E h => ?_) (fun cdv A outer s H vs Q E hr h => ?_)
  · obtain ⟨a, ys, rfl, hl, _⟩ := h
    exact congrArg Nat.succ hl
  · obtain ⟨a, ys, rfl, hl, ha, k⟩ := h
    match ys, hl with
    | [y0], _ =>
      refine ⟨_, pss_one (ps_ost (pv 0) (pv 1)), ?_⟩
      refine ⟨y0, rfl, .ref a, rfl, a, C, rfl, T, (no _ (by simp)), .inl ⟨ha, fun dx nd ne => ?_⟩⟩
      exact k dx nd ne
theorem def_Lone (F : Fun K "__init__" "Lone.__init__" (inClass (top 5) 0) f fd) (cl : XCl K C) (gC : mg "Lone" = some (.ref C)) (iC : PySem.W.findIn K (.ref C) "__init__" = some (some (.ref f)))
    (tI : PySem.W.typeIn K (.ref f) = some (.type "function")) (no : ∀ n ∈ (["place"] : List Str), PySem.W.findIn K (.ref C) n = some none) : XDef P w K mg base "Lone" C ["place"] := by
  refine ⟨cl, gC, no, f, fd, iC, tI, ok_Lone F cl.T no, fun s self us hl => ?_, fun s self us hl => ?_⟩
  all_goals
    obtain ⟨oc, od, kV, doc, pm, an, cdv, ct, osl, rfl, lk, hcd⟩ := F.ex
    match us, hl with
    | [_], _ => exact .of_eq rfl
theorem sc_NoPlace : FnScope ["self", "place"] ["self", "place"] (defScope (inClass (top 6) 0)) := ⟨rfl, rfl, rfl, by decide +kernel, rfl, by decide +kernel, by decide +kernel⟩
theorem ok_NoPlace (F : Fun K "__init__" "NoPlace.__init__" (inClass (top 6) 0) f fd) (T : OexC K C) (no : ∀ n ∈ (["place"] : List Str), PySem.W.findIn K (.ref C) n = some none) : FnOk P w K mg base CX0 1 f fd ["self", "place"] (spX C ["place"]) := by
  refine F.ok sc_NoPlace (fun vs H Q E h => ?_) (fun cdv A outer s H vs Q E hr h => ?_)
  · obtain ⟨a, ys, rfl, hl, _⟩ := h
    exact congrArg Nat.succ hl
  · obtain ⟨a, ys, rfl, hl, ha, k⟩ := h
    match ys, hl with
    | [y0], _ =>
      refine ⟨_, pss_one (ps_ost (pv 0) (pv 1)), ?_⟩
      refine ⟨y0, rfl, .ref a, rfl, a, C, rfl, T, (no _ (by simp)), .inl ⟨ha, fun dx nd ne => ?_⟩⟩
      exact k dx nd ne
theorem def_NoPlace (F : Fun K "__init__" "NoPlace.__init__" (inClass (top 6) 0) f fd) (cl : XCl K C) (gC : mg "NoPlace" = some (.ref C)) (iC : PySem.W.findIn K (.ref C) "__init__" = some (some (.ref f)))
    (tI : PySem.W.typeIn K (.ref f) = some (.type "function")) (no : ∀ n ∈ (["place"] : List Str), PySem.W.findIn K (.ref C) n = some none) : XDef P w K mg base "NoPlace" C ["place"] := by
  refine ⟨cl, gC, no, f, fd, iC, tI, ok_NoPlace F cl.T no, fun s self us hl => ?_, fun s self us hl => ?_⟩
  all_goals
    obtain ⟨oc, od, kV, doc, pm, an, cdv, ct, osl, rfl, lk, hcd⟩ := F.ex
    match us, hl with
    | [_], _ => exact .of_eq rfl
theorem sc_BadKind : FnScope ["self", "side", "number"] ["self", "side", "number"] (defScope (inClass (top 7) 0)) := ⟨rfl, rfl, rfl, by decide +kernel, rfl, by decide +kernel, by decide +kernel⟩
theorem ok_BadKind (F : Fun K "__init__" "BadKind.__init__" (inClass (top 7) 0) f fd) (T : OexC K C) (no : ∀ n ∈ (["side", "number"] : List Str), PySem.W.findIn K (.ref C) n = some none) : FnOk P w K mg base CX0 1 f fd ["self", "side", "number"] (spX C ["side", "number"]) := by
  refine F.ok sc_BadKind (fun vs H Q E h => ?_) (fun cdv A outer s H vs Q E hr h => ?_)
  · obtain ⟨a, ys, rfl, hl, _⟩ := h
    exact congrArg Nat.succ hl
  · obtain ⟨a, ys, rfl, hl, ha, k⟩ := h
    match ys, hl with
    | [y0, y1], _ =>
      refine ⟨_, pss_cons (ps_ost (pv 0) (pv 1)) (pss_one (ps_ost (pv 0) (pv 2))), ?_⟩
      refine ⟨y0, rfl, .ref a, rfl, a, C, rfl, T, (no _ (by simp)), .inl ⟨ha, fun dx nd ne => ?_⟩⟩
      refine ⟨y1, rfl, .ref a, rfl, a, C, rfl, T, (no _ (by simp)), .inr ⟨dx, _, upd_same, (upd_ne ne).trans upd_same, by simp, ?_⟩⟩
      rw [put_old ne]
      exact k dx nd ne
theorem def_BadKind (F : Fun K "__init__" "BadKind.__init__" (inClass (top 7) 0) f fd) (cl : XCl K C) (gC : mg "BadKind" = some (.ref C)) (iC : PySem.W.findIn K (.ref C) "__init__" = some (some (.ref f)))
    (tI : PySem.W.typeIn K (.ref f) = some (.type "function")) (no : ∀ n ∈ (["side", "number"] : List Str), PySem.W.findIn K (.ref C) n = some none) : XDef P w K mg base "BadKind" C ["side", "number"] := by
  refine ⟨cl, gC, no, f, fd, iC, tI, ok_BadKind F cl.T no, fun s self us hl => ?_, fun s self us hl => ?_⟩
  all_goals
    obtain ⟨oc, od, kV, doc, pm, an, cdv, ct, osl, rfl, lk, hcd⟩ := F.ex
    match us, hl with
    | [_, _], _ => exact .of_eq rfl
theorem sc_BadName : FnScope ["self", "name"] ["self", "name"] (defScope (inClass (top 8) 0)) := ⟨rfl, rfl, rfl, by decide +kernel, rfl, by decide +kernel, by decide +kernel⟩
theorem ok_BadName (F : Fun K "__init__" "BadName.__init__" (inClass (top 8) 0) f fd) (T : OexC K C) (no : ∀ n ∈ (["name"] : List Str), PySem.W.findIn K (.ref C) n = some none) : FnOk P w K mg base CX0 1 f fd ["self", "name"] (spX C ["name"]) := by
  refine F.ok sc_BadName (fun vs H Q E h => ?_) (fun cdv A outer s H vs Q E hr h => ?_)
  · obtain ⟨a, ys, rfl, hl, _⟩ := h
    exact congrArg Nat.succ hl
  · obtain ⟨a, ys, rfl, hl, ha, k⟩ := h
    match ys, hl with
    | [y0], _ =>
      refine ⟨_, pss_one (ps_ost (pv 0) (pv 1)), ?_⟩
      refine ⟨y0, rfl, .ref a, rfl, a, C, rfl, T, (no _ (by simp)), .inl ⟨ha, fun dx nd ne => ?_⟩⟩
      exact k dx nd ne
theorem def_BadName (F : Fun K "__init__" "BadName.__init__" (inClass (top 8) 0) f fd) (cl : XCl K C) (gC : mg "BadName" = some (.ref C)) (iC : PySem.W.findIn K (.ref C) "__init__" = some (some (.ref f)))
    (tI : PySem.W.typeIn K (.ref f) = some (.type "function")) (no : ∀ n ∈ (["name"] : List Str), PySem.W.findIn K (.ref C) n = some none) : XDef P w K mg base "BadName" C ["name"] := by
  refine ⟨cl, gC, no, f, fd, iC, tI, ok_BadName F cl.T no, fun s self us hl => ?_, fun s self us hl => ?_⟩
  all_goals
    obtain ⟨oc, od, kV, doc, pm, an, cdv, ct, osl, rfl, lk, hcd⟩ := F.ex
    match us, hl with
    | [_], _ => exact .of_eq rfl
theorem sc_BadWord : FnScope ["self", "number"] ["self", "number"] (defScope (inClass (top 9) 0)) := ⟨rfl, rfl, rfl, by decide +kernel, rfl, by decide +kernel, by decide +kernel⟩
theorem ok_BadWord (F : Fun K "__init__" "BadWord.__init__" (inClass (top 9) 0) f fd) (T : OexC K C) (no : ∀ n ∈ (["number"] : List Str), PySem.W.findIn K (.ref C) n = some none) : FnOk P w K mg base CX0 1 f fd ["self", "number"] (spX C ["number"]) := by
  refine F.ok sc_BadWord (fun vs H Q E h => ?_) (fun cdv A outer s H vs Q E hr h => ?_)
  · obtain ⟨a, ys, rfl, hl, _⟩ := h
    exact congrArg Nat.succ hl
  · obtain ⟨a, ys, rfl, hl, ha, k⟩ := h
    match ys, hl with
    | [y0], _ =>
      refine ⟨_, pss_one (ps_ost (pv 0) (pv 1)), ?_⟩
      refine ⟨y0, rfl, .ref a, rfl, a, C, rfl, T, (no _ (by simp)), .inl ⟨ha, fun dx nd ne => ?_⟩⟩
      exact k dx nd ne
theorem def_BadWord (F : Fun K "__init__" "BadWord.__init__" (inClass (top 9) 0) f fd) (cl : XCl K C) (gC : mg "BadWord" = some (.ref C)) (iC : PySem.W.findIn K (.ref C) "__init__" = some (some (.ref f)))
    (tI : PySem.W.typeIn K (.ref f) = some (.type "function")) (no : ∀ n ∈ (["number"] : List Str), PySem.W.findIn K (.ref C) n = some none) : XDef P w K mg base "BadWord" C ["number"] := by
  refine ⟨cl, gC, no, f, fd, iC, tI, ok_BadWord F cl.T no, fun s self us hl => ?_, fun s self us hl => ?_⟩
  all_goals
    obtain ⟨oc, od, kV, doc, pm, an, cdv, ct, osl, rfl, lk, hcd⟩ := F.ex
    match us, hl with
    | [_], _ => exact .of_eq rfl
theorem sc_BadSize : FnScope ["self", "size"] ["self", "size"] (defScope (inClass (top 11) 0)) := ⟨rfl, rfl, rfl, by decide +kernel, rfl, by decide +kernel, by decide +kernel⟩
theorem ok_BadSize (F : Fun K "__init__" "BadSize.__init__" (inClass (top 11) 0) f fd) (T : OexC K C) (no : ∀ n ∈ (["size"] : List Str), PySem.W.findIn K (.ref C) n = some none) : FnOk P w K mg base CX0 1 f fd ["self", "size"] (spX C ["size"]) := by
  refine F.ok sc_BadSize (fun vs H Q E h => ?_) (fun cdv A outer s H vs Q E hr h => ?_)
  · obtain ⟨a, ys, rfl, hl, _⟩ := h
    exact congrArg Nat.succ hl
  · obtain ⟨a, ys, rfl, hl, ha, k⟩ := h
    match ys, hl with
    | [y0], _ =>
      refine ⟨_, pss_one (ps_ost (pv 0) (pv 1)), ?_⟩
      refine ⟨y0, rfl, .ref a, rfl, a, C, rfl, T, (no _ (by simp)), .inl ⟨ha, fun dx nd ne => ?_⟩⟩
      exact k dx nd ne
theorem def_BadSize (F : Fun K "__init__" "BadSize.__init__" (inClass (top 11) 0) f fd) (cl : XCl K C) (gC : mg "BadSize" = some (.ref C)) (iC : PySem.W.findIn K (.ref C) "__init__" = some (some (.ref f)))
    (tI : PySem.W.typeIn K (.ref f) = some (.type "function")) (no : ∀ n ∈ (["size"] : List Str), PySem.W.findIn K (.ref C) n = some none) : XDef P w K mg base "BadSize" C ["size"] := by
  refine ⟨cl, gC, no, f, fd, iC, tI, ok_BadSize F cl.T no, fun s self us hl => ?_, fun s self us hl => ?_⟩
  all_goals
    obtain ⟨oc, od, kV, doc, pm, an, cdv, ct, osl, rfl, lk, hcd⟩ := F.ex
    match us, hl with
    | [_], _ => exact .of_eq rfl
theorem sc_BadWish : FnScope ["self", "name"] ["self", "name"] (defScope (inClass (top 12) 0)) := ⟨rfl, rfl, rfl, by decide +kernel, rfl, by decide +kernel, by decide +kernel⟩
theorem ok_BadWish (F : Fun K "__init__" "BadWish.__init__" (inClass (top 12) 0) f fd) (T : OexC K C) (no : ∀ n ∈ (["name"] : List Str), PySem.W.findIn K (.ref C) n = some none) : FnOk P w K mg base CX0 1 f fd ["self", "name"] (spX C ["name"]) := by
  refine F.ok sc_BadWish (fun vs H Q E h => ?_) (fun cdv A outer s H vs Q E hr h => ?_)
  · obtain ⟨a, ys, rfl, hl, _⟩ := h
    exact congrArg Nat.succ hl
  · obtain ⟨a, ys, rfl, hl, ha, k⟩ := h
    match ys, hl with
    | [y0], _ =>
      refine ⟨_, pss_one (ps_ost (pv 0) (pv 1)), ?_⟩
      refine ⟨y0, rfl, .ref a, rfl, a, C, rfl, T, (no _ (by simp)), .inl ⟨ha, fun dx nd ne => ?_⟩⟩
      exact k dx nd ne
theorem def_BadWish (F : Fun K "__init__" "BadWish.__init__" (inClass (top 12) 0) f fd) (cl : XCl K C) (gC : mg "BadWish" = some (.ref C)) (iC : PySem.W.findIn K (.ref C) "__init__" = some (some (.ref f)))
    (tI : PySem.W.typeIn K (.ref f) = some (.type "function")) (no : ∀ n ∈ (["name"] : List Str), PySem.W.findIn K (.ref C) n = some none) : XDef P w K mg base "BadWish" C ["name"] := by
  refine ⟨cl, gC, no, f, fd, iC, tI, ok_BadWish F cl.T no, fun s self us hl => ?_, fun s self us hl => ?_⟩
  all_goals
    obtain ⟨oc, od, kV, doc, pm, an, cdv, ct, osl, rfl, lk, hcd⟩ := F.ex
    match us, hl with
    | [_], _ => exact .of_eq rfl
theorem sc_BadRule : FnScope ["self", "name"] ["self", "name"] (defScope (inClass (top 13) 0)) := ⟨rfl, rfl, rfl, by decide +kernel, rfl, by decide +kernel, by decide +kernel⟩
theorem ok_BadRule (F : Fun K "__init__" "BadRule.__init__" (inClass (top 13) 0) f fd) (T : OexC K C) (no : ∀ n ∈ (["name"] : List Str), PySem.W.findIn K (.ref C) n = some none) : FnOk P w K mg base CX0 1 f fd ["self", "name"] (spX C ["name"]) := by
  refine F.ok sc_BadRule (fun vs H Q E h => ?_) (fun cdv A outer s H vs Q E hr h => ?_)
  · obtain ⟨a, ys, rfl, hl, _⟩ := h
    exact congrArg Nat.succ hl
  · obtain ⟨a, ys, rfl, hl, ha, k⟩ := h
    match ys, hl with
    | [y0], _ =>
      refine ⟨_, pss_one (ps_ost (pv 0) (pv 1)), ?_⟩
      refine ⟨y0, rfl, .ref a, rfl, a, C, rfl, T, (no _ (by simp)), .inl ⟨ha, fun dx nd ne => ?_⟩⟩
      exact k dx nd ne
theorem def_BadRule (F : Fun K "__init__" "BadRule.__init__" (inClass (top 13) 0) f fd) (cl : XCl K C) (gC : mg "BadRule" = some (.ref C)) (iC : PySem.W.findIn K (.ref C) "__init__" = some (some (.ref f)))
    (tI : PySem.W.typeIn K (.ref f) = some (.type "function")) (no : ∀ n ∈ (["name"] : List Str), PySem.W.findIn K (.ref C) n = some none) : XDef P w K mg base "BadRule" C ["name"] := by
  refine ⟨cl, gC, no, f, fd, iC, tI, ok_BadRule F cl.T no, fun s self us hl => ?_, fun s self us hl => ?_⟩
  all_goals
    obtain ⟨oc, od, kV, doc, pm, an, cdv, ct, osl, rfl, lk, hcd⟩ := F.ex
    match us, hl with
    | [_], _ => exact .of_eq rfl
theorem sc_Ring : FnScope ["self", "name"] ["self", "name"] (defScope (inClass (top 14) 0)) := ⟨rfl, rfl, rfl, by decide +kernel, rfl, by decide +kernel, by decide +kernel⟩
theorem ok_Ring (F : Fun K "__init__" "Ring.__init__" (inClass (top 14) 0) f fd) (T : OexC K C) (no : ∀ n ∈ (["name"] : List Str), PySem.W.findIn K (.ref C) n = some none) : FnOk P w K mg base CX0 1 f fd ["self", "name"] (spX C ["name"]) := by
  refine F.ok sc_Ring (fun vs H Q E h => ?_) (fun cdv A outer s H vs Q E hr h => ?_)
  · obtain ⟨a, ys, rfl, hl, _⟩ := h
    exact congrArg Nat.succ hl
  · obtain ⟨a, ys, rfl, hl, ha, k⟩ := h
    match ys, hl with
    | [y0], _ =>
      refine ⟨_, pss_one (ps_ost (pv 0) (pv 1)), ?_⟩
      refine ⟨y0, rfl, .ref a, rfl, a, C, rfl, T, (no _ (by simp)), .inl ⟨ha, fun dx nd ne => ?_⟩⟩
      exact k dx nd ne
theorem def_Ring (F : Fun K "__init__" "Ring.__init__" (inClass (top 14) 0) f fd) (cl : XCl K C) (gC : mg "Ring" = some (.ref C)) (iC : PySem.W.findIn K (.ref C) "__init__" = some (some (.ref f)))
    (tI : PySem.W.typeIn K (.ref f) = some (.type "function")) (no : ∀ n ∈ (["name"] : List Str), PySem.W.findIn K (.ref C) n = some none) : XDef P w K mg base "Ring" C ["name"] := by
  refine ⟨cl, gC, no, f, fd, iC, tI, ok_Ring F cl.T no, fun s self us hl => ?_, fun s self us hl => ?_⟩
  all_goals
    obtain ⟨oc, od, kV, doc, pm, an, cdv, ct, osl, rfl, lk, hcd⟩ := F.ex
    match us, hl with
    | [_], _ => exact .of_eq rfl
theorem sc_NoRule : FnScope ["self", "root"] ["self", "root"] (defScope (inClass (top 15) 0)) := ⟨rfl, rfl, rfl, by decide +kernel, rfl, by decide +kernel, by decide +kernel⟩
theorem ok_NoRule (F : Fun K "__init__" "NoRule.__init__" (inClass (top 15) 0) f fd) (T : OexC K C) (no : ∀ n ∈ (["root"] : List Str), PySem.W.findIn K (.ref C) n = some none) : FnOk P w K mg base CX0 1 f fd ["self", "root"] (spX C ["root"]) := by
  refine F.ok sc_NoRule (fun vs H Q E h => ?_) (fun cdv A outer s H vs Q E hr h => ?_)
  · obtain ⟨a, ys, rfl, hl, _⟩ := h
    exact congrArg Nat.succ hl
  · obtain ⟨a, ys, rfl, hl, ha, k⟩ := h
    match ys, hl with
    | [y0], _ =>
      refine ⟨_, pss_one (ps_ost (pv 0) (pv 1)), ?_⟩
      refine ⟨y0, rfl, .ref a, rfl, a, C, rfl, T, (no _ (by simp)), .inl ⟨ha, fun dx nd ne => ?_⟩⟩
      exact k dx nd ne
theorem def_NoRule (F : Fun K "__init__" "NoRule.__init__" (inClass (top 15) 0) f fd) (cl : XCl K C) (gC : mg "NoRule" = some (.ref C)) (iC : PySem.W.findIn K (.ref C) "__init__" = some (some (.ref f)))
    (tI : PySem.W.typeIn K (.ref f) = some (.type "function")) (no : ∀ n ∈ (["root"] : List Str), PySem.W.findIn K (.ref C) n = some none) : XDef P w K mg base "NoRule" C ["root"] := by
  refine ⟨cl, gC, no, f, fd, iC, tI, ok_NoRule F cl.T no, fun s self us hl => ?_, fun s self us hl => ?_⟩
  all_goals
    obtain ⟨oc, od, kV, doc, pm, an, cdv, ct, osl, rfl, lk, hcd⟩ := F.ex
    match us, hl with
    | [_], _ => exact .of_eq rfl
theorem sc_BadRank : FnScope ["self", "number"] ["self", "number"] (defScope (inClass (top 16) 0)) := ⟨rfl, rfl, rfl, by decide +kernel, rfl, by decide +kernel, by decide +kernel⟩
theorem ok_BadRank (F : Fun K "__init__" "BadRank.__init__" (inClass (top 16) 0) f fd) (T : OexC K C) (no : ∀ n ∈ (["number"] : List Str), PySem.W.findIn K (.ref C) n = some none) : FnOk P w K mg base CX0 1 f fd ["self", "number"] (spX C ["number"]) := by
  refine F.ok sc_BadRank (fun vs H Q E h => ?_) (fun cdv A outer s H vs Q E hr h => ?_)
  · obtain ⟨a, ys, rfl, hl, _⟩ := h
    exact congrArg Nat.succ hl
  · obtain ⟨a, ys, rfl, hl, ha, k⟩ := h
    match ys, hl with
    | [y0], _ =>
      refine ⟨_, pss_one (ps_ost (pv 0) (pv 1)), ?_⟩
      refine ⟨y0, rfl, .ref a, rfl, a, C, rfl, T, (no _ (by simp)), .inl ⟨ha, fun dx nd ne => ?_⟩⟩
      exact k dx nd ne
theorem def_BadRank (F : Fun K "__init__" "BadRank.__init__" (inClass (top 16) 0) f fd) (cl : XCl K C) (gC : mg "BadRank" = some (.ref C)) (iC : PySem.W.findIn K (.ref C) "__init__" = some (some (.ref f)))
    (tI : PySem.W.typeIn K (.ref f) = some (.type "function")) (no : ∀ n ∈ (["number"] : List Str), PySem.W.findIn K (.ref C) n = some none) : XDef P w K mg base "BadRank" C ["number"] := by
  refine ⟨cl, gC, no, f, fd, iC, tI, ok_BadRank F cl.T no, fun s self us hl => ?_, fun s self us hl => ?_⟩
  all_goals
    obtain ⟨oc, od, kV, doc, pm, an, cdv, ct, osl, rfl, lk, hcd⟩ := F.ex
    match us, hl with
    | [_], _ => exact .of_eq rfl
theorem sc_BadStatement : FnScope ["self", "block", "number"] ["self", "block", "number"] (defScope (inClass (top 17) 0)) := ⟨rfl, rfl, rfl, by decide +kernel, rfl, by decide +kernel, by decide +kernel⟩
theorem ok_BadStatement (F : Fun K "__init__" "BadStatement.__init__" (inClass (top 17) 0) f fd) (T : OexC K C) (no : ∀ n ∈ (["block", "number"] : List Str), PySem.W.findIn K (.ref C) n = some none) : FnOk P w K mg base CX0 1 f fd ["self", "block", "number"] (spX C ["block", "number"]) := by
  refine F.ok sc_BadStatement (fun vs H Q E h => ?_) (fun cdv A outer s H vs Q E hr h => ?_)
  · obtain ⟨a, ys, rfl, hl, _⟩ := h
    exact congrArg Nat.succ hl
  · obtain ⟨a, ys, rfl, hl, ha, k⟩ := h
    match ys, hl with
    | [y0, y1], _ =>
      refine ⟨_, pss_cons (ps_ost (pv 0) (pv 1)) (pss_one (ps_ost (pv 0) (pv 2))), ?_⟩
      refine ⟨y0, rfl, .ref a, rfl, a, C, rfl, T, (no _ (by simp)), .inl ⟨ha, fun dx nd ne => ?_⟩⟩
      refine ⟨y1, rfl, .ref a, rfl, a, C, rfl, T, (no _ (by simp)), .inr ⟨dx, _, upd_same, (upd_ne ne).trans upd_same, by simp, ?_⟩⟩
      rw [put_old ne]
      exact k dx nd ne
theorem def_BadStatement (F : Fun K "__init__" "BadStatement.__init__" (inClass (top 17) 0) f fd) (cl : XCl K C) (gC : mg "BadStatement" = some (.ref C)) (iC : PySem.W.findIn K (.ref C) "__init__" = some (some (.ref f)))
    (tI : PySem.W.typeIn K (.ref f) = some (.type "function")) (no : ∀ n ∈ (["block", "number"] : List Str), PySem.W.findIn K (.ref C) n = some none) : XDef P w K mg base "BadStatement" C ["block", "number"] := by
  refine ⟨cl, gC, no, f, fd, iC, tI, ok_BadStatement F cl.T no, fun s self us hl => ?_, fun s self us hl => ?_⟩
  all_goals
    obtain ⟨oc, od, kV, doc, pm, an, cdv, ct, osl, rfl, lk, hcd⟩ := F.ex
    match us, hl with
    | [_, _], _ => exact .of_eq rfl
theorem sc_BadText : FnScope ["self", "line"] ["self", "line"] (defScope (inClass (top 18) 0)) := ⟨rfl, rfl, rfl, by decide +kernel, rfl, by decide +kernel, by decide +kernel⟩
theorem ok_BadText (F : Fun K "__init__" "BadText.__init__" (inClass (top 18) 0) f fd) (T : OexC K C) (no : ∀ n ∈ (["line"] : List Str), PySem.W.findIn K (.ref C) n = some none) : FnOk P w K mg base CX0 1 f fd ["self", "line"] (spX C ["line"]) := by
  refine F.ok sc_BadText (fun vs H Q E h => ?_) (fun cdv A outer s H vs Q E hr h => ?_)
  · obtain ⟨a, ys, rfl, hl, _⟩ := h
    exact congrArg Nat.succ hl
  · obtain ⟨a, ys, rfl, hl, ha, k⟩ := h
    match ys, hl with
    | [y0], _ =>
      refine ⟨_, pss_one (ps_ost (pv 0) (pv 1)), ?_⟩
      refine ⟨y0, rfl, .ref a, rfl, a, C, rfl, T, (no _ (by simp)), .inl ⟨ha, fun dx nd ne => ?_⟩⟩
      exact k dx nd ne
theorem def_BadText (F : Fun K "__init__" "BadText.__init__" (inClass (top 18) 0) f fd) (cl : XCl K C) (gC : mg "BadText" = some (.ref C)) (iC : PySem.W.findIn K (.ref C) "__init__" = some (some (.ref f)))
    (tI : PySem.W.typeIn K (.ref f) = some (.type "function")) (no : ∀ n ∈ (["line"] : List Str), PySem.W.findIn K (.ref C) n = some none) : XDef P w K mg base "BadText" C ["line"] := by
  refine ⟨cl, gC, no, f, fd, iC, tI, ok_BadText F cl.T no, fun s self us hl => ?_, fun s self us hl => ?_⟩
  all_goals
    obtain ⟨oc, od, kV, doc, pm, an, cdv, ct, osl, rfl, lk, hcd⟩ := F.ex
    match us, hl with
    | [_], _ => exact .of_eq rfl
theorem sc_BadOrder : FnScope ["self", "number"] ["self", "number"] (defScope (inClass (top 19) 0)) := ⟨rfl, rfl, rfl, by decide +kernel, rfl, by decide +kernel, by decide +kernel⟩
theorem ok_BadOrder (F : Fun K "__init__" "BadOrder.__init__" (inClass (top 19) 0) f fd) (T : OexC K C) (no : ∀ n ∈ (["number"] : List Str), PySem.W.findIn K (.ref C) n = some none) : FnOk P w K mg base CX0 1 f fd ["self", "number"] (spX C ["number"]) := by
  refine F.ok sc_BadOrder (fun vs H Q E h => ?_) (fun cdv A outer s H vs Q E hr h => ?_)
  · obtain ⟨a, ys, rfl, hl, _⟩ := h
    exact congrArg Nat.succ hl
  · obtain ⟨a, ys, rfl, hl, ha, k⟩ := h
    match ys, hl with
    | [y0], _ =>
      refine ⟨_, pss_one (ps_ost (pv 0) (pv 1)), ?_⟩
      refine ⟨y0, rfl, .ref a, rfl, a, C, rfl, T, (no _ (by simp)), .inl ⟨ha, fun dx nd ne => ?_⟩⟩
      exact k dx nd ne
theorem def_BadOrder (F : Fun K "__init__" "BadOrder.__init__" (inClass (top 19) 0) f fd) (cl : XCl K C) (gC : mg "BadOrder" = some (.ref C)) (iC : PySem.W.findIn K (.ref C) "__init__" = some (some (.ref f)))
    (tI : PySem.W.typeIn K (.ref f) = some (.type "function")) (no : ∀ n ∈ (["number"] : List Str), PySem.W.findIn K (.ref C) n = some none) : XDef P w K mg base "BadOrder" C ["number"] := by
  refine ⟨cl, gC, no, f, fd, iC, tI, ok_BadOrder F cl.T no, fun s self us hl => ?_, fun s self us hl => ?_⟩
  all_goals
    obtain ⟨oc, od, kV, doc, pm, an, cdv, ct, osl, rfl, lk, hcd⟩ := F.ex
    match us, hl with
    | [_], _ => exact .of_eq rfl
theorem sc_BadLock : FnScope ["self", "order"] ["self", "order"] (defScope (inClass (top 20) 0)) := ⟨rfl, rfl, rfl, by decide +kernel, rfl, by decide +kernel, by decide +kernel⟩
theorem ok_BadLock (F : Fun K "__init__" "BadLock.__init__" (inClass (top 20) 0) f fd) (T : OexC K C) (no : ∀ n ∈ (["order"] : List Str), PySem.W.findIn K (.ref C) n = some none) : FnOk P w K mg base CX0 1 f fd ["self", "order"] (spX C ["order"]) := by
  refine F.ok sc_BadLock (fun vs H Q E h => ?_) (fun cdv A outer s H vs Q E hr h => ?_)
  · obtain ⟨a, ys, rfl, hl, _⟩ := h
    exact congrArg Nat.succ hl
  · obtain ⟨a, ys, rfl, hl, ha, k⟩ := h
    match ys, hl with
    | [y0], _ =>
      refine ⟨_, pss_one (ps_ost (pv 0) (pv 1)), ?_⟩
      refine ⟨y0, rfl, .ref a, rfl, a, C, rfl, T, (no _ (by simp)), .inl ⟨ha, fun dx nd ne => ?_⟩⟩
      exact k dx nd ne
theorem def_BadLock (F : Fun K "__init__" "BadLock.__init__" (inClass (top 20) 0) f fd) (cl : XCl K C) (gC : mg "BadLock" = some (.ref C)) (iC : PySem.W.findIn K (.ref C) "__init__" = some (some (.ref f)))
    (tI : PySem.W.typeIn K (.ref f) = some (.type "function")) (no : ∀ n ∈ (["order"] : List Str), PySem.W.findIn K (.ref C) n = some none) : XDef P w K mg base "BadLock" C ["order"] := by
  refine ⟨cl, gC, no, f, fd, iC, tI, ok_BadLock F cl.T no, fun s self us hl => ?_, fun s self us hl => ?_⟩
  all_goals
    obtain ⟨oc, od, kV, doc, pm, an, cdv, ct, osl, rfl, lk, hcd⟩ := F.ex
    match us, hl with
    | [_], _ => exact .of_eq rfl
end
end K0
namespace K0
open PySem PySem.Spec PyProof.Rows L2
/-! ### the pen: a dict of the cells, the number of those that were opened, what is left of a large one -/
def pen (l : Addr) (k lf : Int) : List (Key × V) := [(Sum.inr "cells", V.ref l), (Sum.inr "opened", V.int k), (Sum.inr "left", V.int lf)]
theorem pen_cells (l : Addr) (k lf : Int) : valV (pen l k lf) (Sum.inr "cells") = some (.ref l) := by kernel_rfl
theorem pen_opened (l : Addr) (k lf : Int) : valV (pen l k lf) (Sum.inr "opened") = some (.int k) := by kernel_rfl
theorem pen_left (l : Addr) (k lf : Int) : valV (pen l k lf) (Sum.inr "left") = some (.int lf) := by kernel_rfl
theorem pen_put_opened (l : Addr) (k lf j : Int) : putK (pen l k lf) (Sum.inr "opened") (.int j) = pen l j lf := by kernel_rfl
theorem pen_put_left (l : Addr) (k lf j : Int) : putK (pen l k lf) (Sum.inr "left") (.int j) = pen l k j := by kernel_rfl
theorem pen_merge (l : Addr) (k lf : Int) : mergeK [] (pen l k lf) = pen l k lf := by kernel_rfl
structure PenAt (H : Hp) (p l : Addr) (ns : List Int) (k lf : Int) : Prop where
  dc : H p = some (.dK (pen l k lf))
  ls : H l = some (.lst (ns.map V.int))
/-- all but p is as it was -/
def SameBut (p : Addr) (H H' : Hp) : Prop := ∀ b o, b ≠ p → H b = some o → H' b = some o
theorem SameBut.trans {p : Addr} {H H1 H2 : Hp} (a : SameBut p H H1) (b : SameBut p H1 H2) : SameBut p H H2 := fun c o n h => b c o n (a c o n h)
theorem SameBut.of {p : Addr} {H H' : Hp} (a : Same H H') : SameBut p H H' := fun c o _ h => a c o h
theorem cut63 {ns : List Int} (h : ns.length ≤ 63) : cutV (ns.map V.int) none (some 63) = ns.map V.int := by
  unfold cutV
  rw [HT.sIx_none, show ((63 : Int)) = ((63 : Nat) : Int) from rfl, HT.sIx_nat, List.drop_zero, List.length_map, Nat.min_eq_right h, Nat.sub_zero, List.take_of_length_le (by rw [List.length_map]; exact Nat.le_refl _)]
def spPen (K : PySem.W.Frag) : Sp := fun vs H Q _ => ∃ (a : Addr) (ns : List Int), vs = [.ref a] ∧ SqL K H a (ns.map V.int) ∧ ns.length ≤ 63 ∧ ∀ (H' : Hp) (p l : Addr), Same H H' → PenAt H' p l ns 0 0 → Q (.ref p) H'
section
variable {P : Program} {w : World} {K : PySem.W.Frag} {mg : Str → Option Value} {base : Heap} {f : Addr} {fd : FuncData}
theorem scPen : FnScope ["script"] ["script"] (defScope (top 24)) := ⟨rfl, rfl, rfl, by decide +kernel, rfl, by decide +kernel, by decide +kernel⟩
theorem ok_pen (F : Fun K "_law_pen" "_law_pen" (top 24) f fd) (gL : mg "list" = none) : FnOk P w K mg base CX0 1 f fd ["script"] (spPen K) := by
  refine F.ok scPen (fun vs H Q E h => ?_) (fun cdv A outer s H vs Q E hr h => ?_)
  · obtain ⟨a, ns, rfl, _⟩ := h
    rfl
  · obtain ⟨a, ns, rfl, hS, hn, k⟩ := h
    refine ⟨_, pss_one (ps_ret (pe_disp (pps_cons pe_str (pe_callTy call_list_of (by rfl) gL PyProof.Rows.boot_list (pa_cons (pe_slice sl_list (pv 0) po_none (po_some pe_int)) pa_nil)) (pps_cons pe_str pe_int (pps_cons pe_str pe_int pps_nil))) rfl rfl (by simp) (by decide))), ?_⟩
    intro p hp
    refine ⟨_, rfl, 63, rfl, a, ns.map V.int, rfl, ?_, fun q hq => ?_⟩
    · exact Same.seq (fun b o e => by rw [upd_ne (ne_of_none e hp)]; exact e) hS
    rw [cut63 hn]
    refine ⟨q, ns.map V.int, rfl, .inl (.inl (.inl upd_same)), fun l hl => ?_⟩
    have npq : p ≠ q := ne_of_none (H := upd H p (.dK [])) upd_same hq
    have npl : p ≠ l := ne_of_none (H := upd (upd H p (.dK [])) q (.lst (ns.map V.int))) (by rw [upd_ne npq, upd_same]) hl
    refine ⟨by rw [upd_ne npl, upd_ne npq, upd_same], pen l 0 0, rfl, (by show 3 ≤ 15; decide), ?_⟩
    rw [pen_merge]
    refine k _ p l (fun b o e => ?_) ⟨upd_same, ?_⟩
    · have n1 : b ≠ p := ne_of_none e hp
      have e1 : upd H p (.dK []) b = some o := by rw [upd_ne n1]; exact e
      have n2 : b ≠ q := ne_of_none e1 hq
      have e2 : upd (upd H p (.dK [])) q (.lst (ns.map V.int)) b = some o := by rw [upd_ne n2]; exact e1
      have n3 : b ≠ l := ne_of_none e2 hl
      rw [upd_ne n1, upd_ne n3]
      exact e2
    · rw [upd_ne npl.symm, upd_same]
theorem dp_ints {K : PySem.W.Frag} {H : Hp} : ∀ ns : List Int, DpAll K H (ns.map V.int) (ns.map PyData.int)
  | [] => .nil
  | n :: r => .cons (.int n) (dp_ints r)
theorem lay_ints : ∀ ns : List Int, PyData.canLayAll0 (ns.map PyData.int) = true
  | [] => by simp [PyData.canLayAll0]
  | n :: r => by
    have h := lay_ints r
    simp only [List.map_cons, PyData.canLayAll0, PyData.canLay0, h, Bool.and_self]
theorem depth_ints : ∀ ns : List Int, PyData.depthAll (ns.map PyData.int) ≤ 1
  | [] => by simp [PyData.depthAll]
  | n :: r => by
    have h := depth_ints r
    simp only [List.map_cons, PyData.depthAll, PyData.depth]
    omega
theorem shaped_ints (ns : List Int) : SeqAt.shaped (.list (ns.map PyData.int)) = true := by
  have h1 := lay_ints ns
  have h2 := depth_ints ns
  unfold SeqAt.shaped
  rw [Bool.and_eq_true, decide_eq_true_eq]
  refine ⟨by simp only [PyData.canLay0, h1], ?_⟩
  simp only [PyData.depth]
  omega
theorem eqv_nil (ns : List Int) : PyData.eqv (.list (ns.map PyData.int)) (.list []) = ns.isEmpty := by
  cases ns with
  | nil => simp [PyData.eqv, PyData.eqvAll]
  | cons n r => simp [PyData.eqv, PyData.eqvAll]
theorem upd_but {p : Addr} {o : HO} (H : Hp) : SameBut p H (upd H p o) := fun c u n h => by
  rw [upd_ne n]
  exact h
theorem upd_new {p : Addr} {o : HO} {H : Hp} (n : H p = none) : Same H (upd H p o) := fun c u h => by
  rw [upd_ne (ne_of_none h n)]
  exact h
/-- _law_draw: a number below the base; the pen's numbers may change -/
def spDraw : Sp := fun vs H Q _ => ∃ (p l : Addr) (ns : List Int) (k lf b : Int), vs = [.ref p, .int b] ∧ PenAt H p l ns k lf ∧ ns.length ≤ 63 ∧ 0 ≤ k ∧ k ≤ 1000 ∧ 0 ≤ lf ∧ 0 < b ∧ b ≤ 1000 ∧
  ∀ (H' : Hp) (k' lf' d : Int), k' ≤ k + 1 → 0 ≤ k' → 0 ≤ lf' → 0 ≤ d → d < b → SameBut p H H' → PenAt H' p l ns k' lf' → Q (.int d) H'
theorem scD : FnScope ["pen", "base", "digit", "k", "told_cells", "cell", "mix"] ["pen", "base"] (defScope (top 25)) := ⟨rfl, rfl, rfl, by decide +kernel, rfl, by decide +kernel, by decide +kernel⟩
theorem ok_draw (F : Fun K "_law_draw" "_law_draw" (top 25) f fd) (gI : mg "int" = none) (gN : mg "len" = none) (gA : mg "abs" = none) : FnOk P w K mg base CX0 1 f fd ["pen", "base"] spDraw := by
  refine F.ok scD (fun vs H Q E h => ?_) (fun cdv A outer s H vs Q E hr h => ?_)
  · obtain ⟨p, l, ns, k, lf, b, rfl, _⟩ := h
    rfl
  · obtain ⟨p, l, ns, k, lf, b, rfl, ⟨hd, hl⟩, hn, hk0, hk1, hf, hb0, hb1, kk⟩ := h
    have hu := hu_of hr
    have hu64 := hr.units
    refine ⟨_, pss_cons (ps_if (pt_cmpR op_gt (pe_dget hu (pv 0) pe_str (fun _ _ => rfl)) pe_int (nomark _)) (pss_cons (ps_set (i := 2) scD.nd rfl (Or.inl rfl) (pe_op op_mod (pe_callTy call_int1 (by rfl) gI PyProof.Rows.boot_int (pa_cons (pe_dget hu (pv 0) pe_str (fun _ _ => rfl)) pa_nil)) (pv 1))) (pss_cons (ps_dput hu (pv 0) pe_str (pe_op op_fdiv (pe_dget hu (pv 0) pe_str (fun _ _ => rfl)) (pv 1)) rfl) (pss_one (ps_ret (pv 2))))) pss_nil) (pss_cons (ps_par (i := 3) (j := 4) rfl scD.nd rfl rfl (by decide) rfl rfl (pa_cons (pe_dget hu (pv 0) pe_str (fun _ _ => rfl)) (pa_cons (pe_dget hu (pv 0) pe_str (fun _ _ => rfl)) pa_nil)) rfl) (pss_cons (ps_dput hu (pv 0) pe_str (pe_op op_add (pv 3) pe_int) rfl) (pss_cons (ps_if (pt_cmpR (op_eqD hu64) (pv 4) (pe_lst pa_nil) (nomark _)) (pss_one (ps_ret (pe_op op_mod (pe_callTy call_int1 (by rfl) gI PyProof.Rows.boot_int (pa_cons (pe_op op_add (pe_op op_mul pe_int (pv 3)) pe_int) pa_nil)) (pv 1)))) pss_nil) (pss_cons (ps_set (i := 5) scD.nd rfl (Or.inl rfl) (pe_ix ix_list (pv 4) (pe_op op_mod (pe_callTy call_int1 (by rfl) gI PyProof.Rows.boot_int (pa_cons (pv 3) pa_nil)) (pe_callB call_len_seq (by rfl) gN PySem.boot_len (pa_cons (pv 4) pa_nil))) (fun _ _ => rfl))) (pss_cons (ps_if ((pw_and (pt_cmpR op_lt (pv 3) (pe_callB call_len_seq (by rfl) gN PySem.boot_len (pa_cons (pv 4) pa_nil)) (nomark _)) (pw_and1 (pt_cmpR op_ge (pe_callB call_abs (by rfl) gA PyProof.Rows.boot_abs (pa_cons (pv 5) pa_nil)) (pe_op op_pow pe_int pe_int) (nomark _)))).pt) (pss_cons (ps_dput hu (pv 0) pe_str (pe_op op_fdiv (pe_op op_sub (pe_callB call_abs (by rfl) gA PyProof.Rows.boot_abs (pa_cons (pv 5) pa_nil)) (pe_op op_pow pe_int pe_int)) (pv 1)) rfl) (pss_one (ps_ret (pe_op op_mod (pe_callTy call_int1 (by rfl) gI PyProof.Rows.boot_int (pa_cons (pe_op op_sub (pe_callB call_abs (by rfl) gA PyProof.Rows.boot_abs (pa_cons (pv 5) pa_nil)) (pe_op op_pow pe_int pe_int)) pa_nil)) (pv 1))))) pss_nil) (pss_cons (ps_set (i := 6) scD.nd rfl (Or.inl rfl) (pe_op op_mod (pe_callTy call_int1 (by rfl) gI PyProof.Rows.boot_int (pa_cons (pe_op op_add (pe_op op_add (pe_op op_add (pe_op op_mul (pe_op op_mod (pe_callTy call_int1 (by rfl) gI PyProof.Rows.boot_int (pa_cons (pv 5) pa_nil)) pe_int) pe_int) (pe_op op_mul (pe_op op_mul pe_int (pv 3)) (pv 3))) (pe_op op_mul pe_int (pv 3))) pe_int) pa_nil)) pe_int)) (pss_cons (ps_set (i := 6) scD.nd rfl (Or.inl rfl) (pe_op op_mod (pe_callTy call_int1 (by rfl) gI PyProof.Rows.boot_int (pa_cons (pe_op op_add (pe_op op_add (pe_op op_mul (pv 6) (pv 6)) (pe_op op_mul pe_int (pv 6))) (pe_op op_mul pe_int (pv 3))) pa_nil)) pe_int)) (pss_one (ps_ret (pe_op op_mod (pe_callTy call_int1 (by rfl) gI PyProof.Rows.boot_int (pa_cons (pe_op op_fdiv (pe_op op_mod (pe_callTy call_int1 (by rfl) gI PyProof.Rows.boot_int (pa_cons (pe_op op_mul (pv 6) (pe_op op_add (pv 6) pe_int)) pa_nil)) pe_int) pe_int) pa_nil)) (pv 1))))))))))), ?_⟩
    have npl : p ≠ l := ne_of hd hl (by intro z; cases z)
    have gL : DGet H p (.str "left") (some (.int lf)) := by
      have z := DGet.k (k := Sum.inr "left") hd
      rw [pen_left] at z
      exact z
    have gO : DGet H p (.str "opened") (some (.int k)) := by
      have z := DGet.k (k := Sum.inr "opened") hd
      rw [pen_opened] at z
      exact z
    have gC : DGet H p (.str "cells") (some (.ref l)) := by
      have z := DGet.k (k := Sum.inr "cells") hd
      rw [pen_cells] at z
      exact z
    refine ⟨V.ref p, rfl, p, V.int lf, rfl, gL, lf, 0, rfl, rfl, _, rfl, ?_⟩
    refine ite2 (fun c => ?_) (fun c => ?_)
    · have c' : 0 < lf := of_decide_eq_true c
      refine ⟨V.ref p, rfl, p, V.int lf, rfl, gL, .inl ⟨lf, rfl, V.int b, rfl, lf, b, rfl, rfl, hb0, ?_⟩⟩
      refine ⟨V.ref p, rfl, p, V.int lf, rfl, gL, V.int b, rfl, lf, b, rfl, rfl, ⟨hb0, by omega⟩, V.ref p, rfl, p, _, rfl, DPut.k (k := Sum.inr "left") hd (by show 3 < sizeLine; decide), V.int (lf % b), rfl, ?_⟩
      rw [pen_put_left]
      exact kk _ k (lf / b) (lf % b) (by omega) hk0 (Int.ediv_nonneg hf (Int.le_of_lt hb0)) (Int.emod_nonneg _ (by omega)) (Int.emod_lt_of_pos _ hb0) (upd_but H) ⟨upd_same, by rw [upd_ne npl.symm]; exact hl⟩
    · refine ⟨V.ref p, rfl, p, V.int k, rfl, gO, V.ref p, rfl, p, V.ref l, rfl, gC, V.int k, V.ref l, rfl, ?_⟩
      refine ⟨V.int k, rfl, k, 1, rfl, rfl, V.ref p, rfl, p, _, rfl, DPut.k (k := Sum.inr "opened") hd (by show 3 < sizeLine; decide), ?_⟩
      rw [pen_put_opened]
      have s1 : SameBut p H (upd H p (.dK (pen l (k + 1) lf))) := upd_but H
      have hd1 : upd H p (.dK (pen l (k + 1) lf)) p = some (.dK (pen l (k + 1) lf)) := upd_same
      have hl1 : upd H p (.dK (pen l (k + 1) lf)) l = some (.lst (ns.map V.int)) := by
        rw [upd_ne npl.symm]
        exact hl
      generalize upd H p (.dK (pen l (k + 1) lf)) = H1 at s1 hd1 hl1
      refine ⟨V.ref l, rfl, Nat.zero_le _, fun q hq => ?_⟩
      have s2 : SameBut p H (upd H1 q (.lst [])) := s1.trans (.of (upd_new hq))
      have hd2 : upd H1 q (.lst []) p = some (.dK (pen l (k + 1) lf)) := upd_new hq _ _ hd1
      have hl2 : upd H1 q (.lst []) l = some (.lst (ns.map V.int)) := upd_new hq _ _ hl1
      have hq2 : upd H1 q (.lst []) q = some (.lst []) := upd_same
      generalize upd H1 q (.lst []) = H2 at s2 hd2 hl2 hq2
      have S2 : SqL K H2 l (ns.map V.int) := .inl (.inl hl2)
      refine ⟨.list (ns.map PyData.int), .list [], Dp.lst S2 (dp_ints ns), Dp.lst (.inl (.inl hq2)) .nil, shaped_ints ns, (by decide +kernel), _, rfl, ?_⟩
      rw [eqv_nil]
      refine ite2 (fun c2 => ?_) (fun c2 => ?_)
      · refine ⟨V.int k, rfl, 7, k, rfl, rfl, .inl ⟨by decide, by decide⟩, _, 3, rfl, rfl, .inl ⟨_, rfl, V.int b, rfl, _, b, rfl, rfl, hb0, ?_⟩⟩
        exact kk H2 (k + 1) lf _ (Int.le_refl _) (by omega) hf (Int.emod_nonneg _ (by omega)) (Int.emod_lt_of_pos _ hb0) s2 ⟨hd2, hl2⟩
      have hne : 0 < ns.length := by
        cases ns with
        | nil => exact absurd rfl c2
        | cons _ _ => simp
      have hi0 : 0 ≤ k % (ns.length : Int) := Int.emod_nonneg _ (by omega)
      have hi1 : k % (ns.length : Int) < (ns.length : Int) := Int.emod_lt_of_pos _ (by omega)
      obtain ⟨j, hj⟩ : ∃ j : Nat, k % (ns.length : Int) = (j : Int) := ⟨(k % (ns.length : Int)).toNat, (Int.toNat_of_nonneg hi0).symm⟩
      have hjl : j < ns.length := by omega
      obtain ⟨c, hc⟩ : ∃ c, ns[j]? = some c := ⟨_, List.getElem?_eq_getElem hjl⟩
      have hcV : (ns.map V.int)[j]? = some (.int c) := by
        rw [List.getElem?_map, hc]
        all_goals rfl
      have hlen : ((ns.map V.int).length : Int) = (ns.length : Int) := by rw [List.length_map]
      refine ⟨V.ref l, rfl, V.int k, rfl, .inl ⟨k, rfl, V.ref l, rfl, l, ns.map V.int, rfl, .inl S2, k, _, rfl, rfl, (by rw [hlen]; omega), l, ns.map V.int, _, .int c, rfl, rfl, S2, at_of (by rw [hlen]; exact hj) hcV, ?_⟩⟩
      refine ⟨V.int k, rfl, V.ref l, rfl, l, ns.map V.int, rfl, .inl S2, k, _, rfl, rfl, _, rfl, ?_⟩
      refine ite2 (fun c3 => ?_) (fun c3 => iteF ?_)
      refine ⟨V.int c, rfl, c, rfl, 10, 18, rfl, rfl, ⟨by decide, by decide, by decide⟩, _, _, rfl, rfl, _, rfl, ?_⟩
      refine ite2 (fun c4 => ?_) (fun c4 => ?_)
      · have c4' := of_decide_eq_true c4
        refine ⟨V.int c, rfl, c, rfl, 10, 18, rfl, rfl, ⟨by decide, by decide, by decide⟩, _, _, rfl, rfl, V.int b, rfl, _, b, rfl, rfl, ⟨hb0, by omega⟩, V.ref p, rfl, p, _, rfl, DPut.k (k := Sum.inr "left") hd2 (by show 3 < sizeLine; decide), ?_⟩
        rw [pen_put_left]
        refine ⟨V.int c, rfl, c, rfl, 10, 18, rfl, rfl, ⟨by decide, by decide, by decide⟩, _, _, rfl, rfl, .inl ⟨_, rfl, V.int b, rfl, _, b, rfl, rfl, hb0, ?_⟩⟩
        exact kk _ (k + 1) _ _ (Int.le_refl _) (by omega) (Int.ediv_nonneg (by omega) (Int.le_of_lt hb0)) (Int.emod_nonneg _ (by omega)) (Int.emod_lt_of_pos _ hb0) (s2.trans (upd_but H2)) ⟨upd_same, by rw [upd_ne npl.symm]; exact hl2⟩
      all_goals
        refine ⟨V.int c, rfl, .inl ⟨c, rfl, c, 4294965361, rfl, rfl, (by show (0 : Int) < 4294965361; decide), _, 41903, rfl, rfl, .inr ⟨by decide, by decide⟩, ?_⟩⟩
        refine ⟨V.int k, rfl, 27011, k, rfl, rfl, .inl ⟨by decide, by decide⟩, V.int k, rfl, _, k, rfl, rfl, .inr ⟨by omega, by omega⟩, _, _, rfl, rfl, ?_⟩
        refine ⟨V.int k, rfl, 853, k, rfl, rfl, .inl ⟨by decide, by decide⟩, _, _, rfl, rfl, _, 71, rfl, rfl, .inl ⟨_, rfl, _, 4294965383, rfl, rfl, (by show (0 : Int) < 4294965383; decide), ?_⟩⟩
        dsimp only
        have a0 : 0 ≤ (c % 4294965361 * 41903 + 27011 * k * k + 853 * k + 71) % 4294965383 := Int.emod_nonneg _ (by decide)
        have a1 : (c % 4294965361 * 41903 + 27011 * k * k + 853 * k + 71) % 4294965383 < 4294965383 := Int.emod_lt_of_pos _ (by decide)
        generalize (c % 4294965361 * 41903 + 27011 * k * k + 853 * k + 71) % 4294965383 = m at a0 a1
        refine ⟨V.int m, rfl, V.int m, rfl, m, m, rfl, rfl, .inl ⟨by omega, by omega⟩, V.int m, rfl, 40213, m, rfl, rfl, .inl ⟨by decide, by decide⟩, _, _, rfl, rfl, ?_⟩
        refine ⟨V.int k, rfl, 37, k, rfl, rfl, .inl ⟨by decide, by decide⟩, _, _, rfl, rfl, .inl ⟨_, rfl, _, 4294965337, rfl, rfl, (by show (0 : Int) < 4294965337; decide), ?_⟩⟩
        dsimp only
        have b0' : 0 ≤ (m * m + 40213 * m + 37 * k) % 4294965337 := Int.emod_nonneg _ (by decide)
        have b1' : (m * m + 40213 * m + 37 * k) % 4294965337 < 4294965337 := Int.emod_lt_of_pos _ (by decide)
        generalize (m * m + 40213 * m + 37 * k) % 4294965337 = u at b0' b1'
        refine ⟨V.int u, rfl, V.int u, rfl, u, 60317, rfl, rfl, u, _, rfl, rfl, .inl ⟨by omega, by omega⟩, .inl ⟨_, rfl, _, 4294965313, rfl, rfl, (by show (0 : Int) < 4294965313; decide), _, 128, rfl, rfl, ⟨by decide, by decide⟩, .inl ⟨_, rfl, V.int b, rfl, _, b, rfl, rfl, hb0, ?_⟩⟩⟩
        exact kk H2 (k + 1) lf _ (Int.le_refl _) (by omega) hf (Int.emod_nonneg _ (by omega)) (Int.emod_lt_of_pos _ hb0) s2 ⟨hd2, hl2⟩
end
end K0
namespace K0
open PySem PySem.Spec PyProof.Rows L2
/-! ### data that stands but for one address -/
mutual
theorem de_mono {K : PySem.W.Frag} {H H' : Hp} (m : ∀ b o, H b = some o → H' b = some o) : ∀ (d : PyData) (v : V), De K H v d → De K H' v d
  | .none, _, h => by
    cases h
    exact .non
  | .bool b, _, h => by
    cases h
    exact .bl b
  | .int i, _, h => by
    cases h
    exact .int i
  | .str x, _, h => by
    cases h
    exact .str x
  | .list ds, _, h => by
    cases h with
    | lst ha hd => exact .lst (m _ _ ha) (de_monoAll m ds _ hd)
  | .tuple ds, _, h => by
    cases h with
    | tup ha hd => exact .tup (m _ _ ha) (de_monoAll m ds _ hd)
  | .dict _, _, h => by
    cases h with
    | dic ha => exact .dic (m _ _ ha)
theorem de_monoAll {K : PySem.W.Frag} {H H' : Hp} (m : ∀ b o, H b = some o → H' b = some o) : ∀ (ds : List PyData) (vs : List V), DeAll K H vs ds → DeAll K H' vs ds
  | [], _, h => by
    cases h
    exact .nil
  | d :: ds, _, h => by
    cases h with
    | cons h1 h2 => exact .cons (de_mono m d _ h1) (de_monoAll m ds _ h2)
end
def but (p : Addr) (H : Hp) : Hp := fun c => if c = p then none else H c
theorem but_ne {p b : Addr} {H : Hp} (n : b ≠ p) : but p H b = H b := if_neg n
theorem but_some {p b : Addr} {H : Hp} {o : HO} (h : but p H b = some o) : b ≠ p ∧ H b = some o := by
  by_cases e : b = p
  · rw [e] at h
    have z : but p H p = none := if_pos rfl
    rw [z] at h
    cases h
  · rw [but_ne e] at h
    exact ⟨e, h⟩
def DB (K : PySem.W.Frag) (p : Addr) (H : Hp) (v : V) (d : PyData) : Prop := De K (but p H) v d
theorem DB.mono {K : PySem.W.Frag} {p : Addr} {H H' : Hp} {v : V} {d : PyData} (h : DB K p H v d) (s : SameBut p H H') : DB K p H' v d := de_mono (fun b o e => by
  obtain ⟨n, e⟩ := but_some e
  rw [but_ne n]
  exact s b o n e) d v h
theorem DB.de {K : PySem.W.Frag} {p : Addr} {H : Hp} {v : V} {d : PyData} (h : DB K p H v d) : De K H v d := de_mono (fun b o e => (but_some e).2) d v h
/-- small data -/
structure Sm (d : PyData) : Prop where
  sh : d.showable = true
  dp : d.depth ≤ 2
  ln : d.shown.length ≤ 60
theorem sm_big {i : Int} (h0 : 0 ≤ i) (h1 : i < 99) : Sm (.int (10 ^ Int.toNat 9 + i)) := by
  have e : (10 : Int) ^ Int.toNat 9 = 1000000000 := by decide +kernel
  rw [e]
  have b : (1000000000 + i).natAbs < 10 ^ 12 := by
    show (1000000000 + i).natAbs < 1000000000000
    omega
  refine ⟨?_, by simp [PyData.depth], Nat.le_trans (PyData.shown_int_le b) (by decide)⟩
  simp only [PyData.showable, decide_eq_true_eq]
  exact log2_small (Nat.lt_of_lt_of_le b (by decide +kernel))
section
variable {P : Program} {w : World} {K : PySem.W.Frag} {mg : Str → Option Value} {base : Heap} {f fD fP : Addr} {fd fdD fdP : FuncData}
def spPick : Sp := fun vs H Q _ => ∃ (p l a : Addr) (ns : List Int) (k lf : Int) (xs : List V), vs = [.ref p, .ref a] ∧ PenAt H p l ns k lf ∧ ns.length ≤ 63 ∧ 0 ≤ k ∧ k ≤ 1000 ∧ 0 ≤ lf ∧ H a = some (.lst xs) ∧ 0 < xs.length ∧ xs.length ≤ 1000 ∧
  ∀ (H' : Hp) (k' lf' : Int) (v : V), k' ≤ k + 1 → 0 ≤ k' → 0 ≤ lf' → v ∈ xs → SameBut p H H' → PenAt H' p l ns k' lf' → Q v H'
theorem scK : FnScope ["pen", "some"] ["pen", "some"] (defScope (top 26)) := ⟨rfl, rfl, rfl, by decide +kernel, rfl, by decide +kernel, by decide +kernel⟩
theorem ok_pick (F : Fun K "_law_pick" "_law_pick" (top 26) f fd) (gN : mg "len" = none) (gD : mg "_law_draw" = some (.ref fD)) (kD : PySem.W.keepIn K (.ref fD) = true) (GD : FnOk P w K mg base CX0 1 fD fdD ["pen", "base"] spDraw)
    (bD : Binds K fdD ["pen", "base"] []) : FnOk P w K mg base CX0 2 f fd ["pen", "some"] spPick := by
  refine F.ok scK (fun vs H Q E h => ?_) (fun cdv A outer s H vs Q E hr h => ?_)
  · obtain ⟨p, l, a, ns, k, lf, xs, rfl, _⟩ := h
    rfl
  · obtain ⟨p, l, a, ns, k, lf, xs, rfl, hp, hn, hk0, hk1, hf, ha, h0, h1, kk⟩ := h
    refine ⟨_, pss_one (ps_ret (pe_ix ix_list (pv 1) (pe_call GD hr rfl gD kD bD .nil pass0 (pa_cons (pv 0) (pa_cons (pe_callB call_len_seq (by rfl) gN PySem.boot_len (pa_cons (pv 1) pa_nil)) pa_nil))) (fun _ _ => rfl))), ?_⟩
    have nap : a ≠ p := ne_of ha hp.dc (by intro z; cases z)
    refine ⟨V.ref a, rfl, V.ref p, rfl, V.ref a, rfl, a, xs, rfl, .inl (.inl (.inl ha)), p, l, ns, k, lf, _, rfl, hp, hn, hk0, hk1, hf, by omega, by omega, fun H' k' lf' d e1 e2 e3 e4 e5 s5 P5 => ?_⟩
    obtain ⟨j, hj⟩ : ∃ j : Nat, d = (j : Int) := ⟨d.toNat, (Int.toNat_of_nonneg e4).symm⟩
    obtain ⟨v, hv⟩ : ∃ v, xs[j]? = some v := ⟨_, List.getElem?_eq_getElem (by omega)⟩
    exact ⟨a, xs, d, v, rfl, rfl, .inl (.inl (s5 _ _ nap ha)), at_of hj hv, kk H' k' lf' v e1 e2 e3 (List.mem_of_getElem? hv) s5 P5⟩
def spAny (K : PySem.W.Frag) : Sp := fun vs H Q _ => ∃ (p l : Addr) (ns : List Int) (k lf : Int), vs = [.ref p] ∧ PenAt H p l ns k lf ∧ ns.length ≤ 63 ∧ 0 ≤ k ∧ k ≤ 900 ∧ 0 ≤ lf ∧
  ∀ (H' : Hp) (k' lf' : Int) (v : V) (d : PyData), k' ≤ k + 2 → 0 ≤ k' → 0 ≤ lf' → SameBut p H H' → PenAt H' p l ns k' lf' → DB K p H' v d → Sm d → Q v H'
theorem scA : FnScope ["pen"] ["pen"] (defScope (top 27)) := ⟨rfl, rfl, rfl, by decide +kernel, rfl, by decide +kernel, by decide +kernel⟩
theorem ok_any (F : Fun K "_law_any" "_law_any" (top 27) f fd) (gD : mg "_law_draw" = some (.ref fD)) (kD : PySem.W.keepIn K (.ref fD) = true) (GD : FnOk P w K mg base CX0 1 fD fdD ["pen", "base"] spDraw)
    (bD : Binds K fdD ["pen", "base"] []) (gP : mg "_law_pick" = some (.ref fP)) (kP : PySem.W.keepIn K (.ref fP) = true) (GP : FnOk P w K mg base CX0 2 fP fdP ["pen", "some"] spPick)
    (bP : Binds K fdP ["pen", "some"] []) : FnOk P w K mg base CX0 3 f fd ["pen"] (spAny K) := by
  refine F.ok scA (fun vs H Q E h => ?_) (fun cdv A outer s H vs Q E hr h => ?_)
  · obtain ⟨p, l, ns, k, lf, rfl, _⟩ := h
    rfl
  · obtain ⟨p, l, ns, k, lf, rfl, hp, hn, hk0, hk1, hf, kk⟩ := h
    have hr1 : Room 1 _ := hr.mono (by decide)
    refine ⟨_, pss_one (ps_ret (pe_call GP hr rfl gP kP bP .nil pass0 (pa_cons (pv 0) (pa_cons (pe_lst (pa_cons pe_non (pa_cons pe_bl (pa_cons pe_int (pa_cons pe_int (pa_cons (pe_un un_neg pe_int) (pa_cons (pe_op op_pow pe_int pe_int)
      (pa_cons pe_str (pa_cons pe_str (pa_cons (pe_tup pa_nil) (pa_cons (pe_tup (pa_cons pe_int (pa_cons pe_int pa_nil))) (pa_cons (pe_lst (pa_cons pe_int pa_nil)) (pa_cons pe_dnewK
      (pa_cons (pe_op op_add (pe_op op_pow pe_int pe_int) (pe_call GD hr1 rfl gD kD bD .nil pass0 (pa_cons (pv 0) (pa_cons pe_int pa_nil)))) pa_nil)))))))))))))) pa_nil)))), ?_⟩
    refine ⟨V.ref p, rfl, 1, rfl, 10, 30, rfl, rfl, ⟨by decide, by decide, by decide⟩, Nat.zero_le _, fun t1 h1 => ⟨by show 2 ≤ sizeLine; decide, fun t2 h2 => ⟨by show 1 ≤ sizeLine; decide, fun t3 h3 => ?_⟩⟩⟩
    intro t4 h4
    have s4 : Same H (upd (upd (upd (upd H t1 (.tup [])) t2 (.tup [.int 1, .int 2])) t3 (.lst [.int 3])) t4 (.dK [])) := (((upd_new h1).trans (upd_new h2)).trans (upd_new h3)).trans (upd_new h4)
    have a1 : upd (upd (upd (upd H t1 (.tup [])) t2 (.tup [.int 1, .int 2])) t3 (.lst [.int 3])) t4 (.dK []) t1 = some (.tup []) := upd_new h4 _ _ (upd_new h3 _ _ (upd_new h2 _ _ upd_same))
    have a2 : upd (upd (upd (upd H t1 (.tup [])) t2 (.tup [.int 1, .int 2])) t3 (.lst [.int 3])) t4 (.dK []) t2 = some (.tup [.int 1, .int 2]) := upd_new h4 _ _ (upd_new h3 _ _ upd_same)
    have a3 : upd (upd (upd (upd H t1 (.tup [])) t2 (.tup [.int 1, .int 2])) t3 (.lst [.int 3])) t4 (.dK []) t3 = some (.lst [.int 3]) := upd_new h4 _ _ upd_same
    have a4 : upd (upd (upd (upd H t1 (.tup [])) t2 (.tup [.int 1, .int 2])) t3 (.lst [.int 3])) t4 (.dK []) t4 = some (.dK []) := upd_same
    generalize upd (upd (upd (upd H t1 (.tup [])) t2 (.tup [.int 1, .int 2])) t3 (.lst [.int 3])) t4 (.dK []) = H4 at s4 a1 a2 a3 a4
    have p4 : PenAt H4 p l ns k lf := ⟨s4 _ _ hp.dc, s4 _ _ hp.ls⟩
    have n1 : t1 ≠ p := ne_of a1 p4.dc (by intro z; cases z)
    have n2 : t2 ≠ p := ne_of a2 p4.dc (by intro z; cases z)
    have n3 : t3 ≠ p := ne_of a3 p4.dc (by intro z; cases z)
    have n4 : t4 ≠ p := ne_of a4 p4.dc (by intro z; cases z)
    refine ⟨10, 9, rfl, rfl, ⟨by decide, by decide, by decide⟩, V.ref p, rfl, p, l, ns, k, lf, 99, rfl, p4, hn, hk0, by omega, hf, by decide, by decide, fun H5 k5 lf5 d e1 e2 e3 e4 e5 s5 P5 => ?_⟩
    refine ⟨_, _, rfl, rfl, (by show 13 ≤ sizeLine; decide), fun q hq => ?_⟩
    have s6 := SameBut.of (p := p) (upd_new (o := .lst [.non, .bl true, .int 0, .int 5, .int (-1), .int (10 ^ Int.toNat 30), .str "", .str "f", .ref t1, .ref t2, .ref t3, .ref t4, .int (10 ^ Int.toNat 9 + d)]) hq)
    have q6 : upd H5 q (.lst [.non, .bl true, .int 0, .int 5, .int (-1), .int (10 ^ Int.toNat 30), .str "", .str "f", .ref t1, .ref t2, .ref t3, .ref t4, .int (10 ^ Int.toNat 9 + d)]) q = some (.lst [.non, .bl true, .int 0, .int 5, .int (-1), .int (10 ^ Int.toNat 30), .str "", .str "f", .ref t1, .ref t2, .ref t3, .ref t4, .int (10 ^ Int.toNat 9 + d)]) := upd_same
    have P6 : PenAt (upd H5 q (.lst [.non, .bl true, .int 0, .int 5, .int (-1), .int (10 ^ Int.toNat 30), .str "", .str "f", .ref t1, .ref t2, .ref t3, .ref t4, .int (10 ^ Int.toNat 9 + d)])) p l ns k5 lf5 := ⟨upd_new hq _ _ P5.dc, upd_new hq _ _ P5.ls⟩
    refine ⟨p, l, q, ns, k5, lf5, _, rfl, P6, hn, e2, by omega, e3, q6, (by show 0 < 13; decide), (by show 13 ≤ 1000; decide), fun H7 k7 lf7 v f1 f2 f3 hv s7 P7 => ?_⟩
    have s47 : SameBut p H4 H7 := (s5.trans s6).trans s7
    have s07 : SameBut p H H7 := (SameBut.of s4).trans s47
    have at1 : but p H7 t1 = some (.tup []) := by rw [but_ne n1]; exact s47 _ _ n1 a1
    have at2 : but p H7 t2 = some (.tup [.int 1, .int 2]) := by rw [but_ne n2]; exact s47 _ _ n2 a2
    have at3 : but p H7 t3 = some (.lst [.int 3]) := by rw [but_ne n3]; exact s47 _ _ n3 a3
    have at4 : but p H7 t4 = some (.dK []) := by rw [but_ne n4]; exact s47 _ _ n4 a4
    have fin : ∀ (v : V) (d : PyData), De K (but p H7) v d → Sm d → Q v H7 := fun v d h1 h2 => kk H7 k7 lf7 v d (by omega) f2 f3 s07 P7 h1 h2
    simp only [List.mem_cons, List.mem_nil_iff, or_false] at hv
    rcases hv with rfl | rfl | rfl | rfl | rfl | rfl | rfl | rfl | rfl | rfl | rfl | rfl | rfl
    · exact fin _ _ .non ⟨by decide +kernel, by decide +kernel, by decide +kernel⟩
    · exact fin _ _ (.bl true) ⟨by decide +kernel, by decide +kernel, by decide +kernel⟩
    · exact fin _ _ (.int 0) ⟨by decide +kernel, by decide +kernel, by decide +kernel⟩
    · exact fin _ _ (.int 5) ⟨by decide +kernel, by decide +kernel, by decide +kernel⟩
    · exact fin _ _ (.int (-1)) ⟨by decide +kernel, by decide +kernel, by decide +kernel⟩
    · exact fin _ _ (.int (10 ^ Int.toNat 30)) ⟨by decide +kernel, by decide +kernel, by decide +kernel⟩
    · exact fin _ _ (.str "") ⟨by decide +kernel, by decide +kernel, by decide +kernel⟩
    · exact fin _ _ (.str "f") ⟨by decide +kernel, by decide +kernel, by decide +kernel⟩
    · exact fin _ (.tuple []) (.tup at1 .nil) ⟨by decide +kernel, by decide +kernel, by decide +kernel⟩
    · exact fin _ (.tuple [.int 1, .int 2]) (.tup at2 (.cons (.int 1) (.cons (.int 2) .nil))) ⟨by decide +kernel, by decide +kernel, by decide +kernel⟩
    · exact fin _ (.list [.int 3]) (.lst at3 (.cons (.int 3) .nil)) ⟨by decide +kernel, by decide +kernel, by decide +kernel⟩
    · exact fin _ (.dict []) (.dic at4) ⟨by decide +kernel, by decide +kernel, by decide +kernel⟩
    · exact fin _ _ (.int _) (sm_big e4 e5)
end
end K0
namespace K0
open PySem PySem.Spec PyProof.Rows L2
/-! ### lists of fields -/
theorem lk_here {f : Str} {y : V} {fs : List (Str × V)} : ((f, y) :: fs).lookup f = some y := by
  simp [List.lookup]
theorem lk_next {f g : Str} {x y : V} {fs : List (Str × V)} (n : (g == f) = false) (h : fs.lookup g = some x) : ((f, y) :: fs).lookup g = some x := by
  simp only [List.lookup, n]
  exact h
theorem rd_list {ta : TA} {D : Ends} {σ : St} {H : Hp} {i : Nat} {zs : List V} (hz : zs.length ≤ 1000) (hta : ∀ R : List V → Hp → Prop, R zs H → ta σ H R)
    (k : ∀ (p : Addr) (H' : Hp), Same H H' → H' p = some (.lst zs) → D.nx (σ.set i (some (.ref p))) H') : tAsg (tLst ta) (gName i) D σ H :=
  hta _ ⟨Nat.le_of_lt (small1000 hz), fun p hp => k p _ (upd_new hp) upd_same⟩
theorem rd_cat {ta : TA} {D : Ends} {σ : St} {H : Hp} {i : Nat} {l : Addr} {xs zs : List V} (hσ : σ[i]? = some (some (.ref l))) (hl : H l = some (.lst xs)) (hz : xs.length + zs.length ≤ 1000)
    (hta : ∀ R : List V → Hp → Prop, R zs H → ta σ H R) (k : ∀ (p : Addr) (H' : Hp), Same H H' → H' p = some (.lst (xs ++ zs)) → D.nx (σ.set i (some (.ref p))) H') :
    tAsg (tOp rCat (tVar i) (tLst ta)) (gName i) D σ H :=
  ⟨_, hσ, hta _ ⟨Nat.le_of_lt (small1000 (by omega)), fun b hb => ⟨l, b, xs, zs, rfl, rfl, upd_new hb _ _ hl, upd_same, Nat.le_of_lt (small1000 hz), fun p hp => k p _ ((upd_new hb).trans (upd_new hp)) upd_same⟩⟩⟩
/-- the classes with an own __init__ and their fields -/
def tab : List (Str × List Str) := [("BadLetters", ["letters"]), ("TooMany", ["what", "many", "most"]), ("BadRow", ["number"]), ("Lone", ["place"]), ("NoPlace", ["place"]), ("BadKind", ["side", "number"]), ("BadName", ["name"]), ("BadWord", ["number"]), ("BadSize", ["size"]), ("BadWish", ["name"]), ("BadRule", ["name"]), ("Ring", ["name"]), ("NoRule", ["root"]), ("BadRank", ["number"]), ("BadStatement", ["block", "number"]), ("BadText", ["line"]), ("BadOrder", ["number"]), ("BadLock", ["order"])]
def due1 (a b c : V) : List V := [a, a, b, c, a, a, a, a, b, a, a, a, a, a]
def due2 (a b c : V) : List V := [a, a, a, a, b, a, a, a]
def spFields : Sp := fun vs H Q _ => ∃ a b c : V, vs = [a, b, c] ∧ ∀ (H' : Hp) (p : Addr), Same H H' → H' p = some (.lst (due1 a b c ++ due2 a b c)) → Q (.ref p) H'
section
variable {P : Program} {w : World} {K : PySem.W.Frag} {mg : Str → Option Value} {base : Heap} {f : Addr} {fd : FuncData} {cA : Str → Addr}
theorem sc_bp : FnScope ["a", "b", "c", "found"] ["a", "b", "c"] (defScope (top 28)) := ⟨rfl, rfl, rfl, by decide +kernel, rfl, by decide +kernel, by decide +kernel⟩
theorem ok_bp (F : Fun K "_law_by_position" "_law_by_position" (top 28) f fd) (D : ∀ x fs, (x, fs) ∈ tab → XDef P w K mg base x (cA x) fs) : FnOk P w K mg base CX0 3 f fd ["a", "b", "c"] spFields := by
  refine F.ok sc_bp (fun vs H Q E h => ?_) (fun cdv A outer s H vs Q E hr h => ?_)
  · obtain ⟨a, b, c, rfl, _⟩ := h
    rfl
  · obtain ⟨a, b, c, rfl, k⟩ := h
    have DBadLetters := D "BadLetters" ["letters"] (by decide +kernel)
    have DTooMany := D "TooMany" ["what", "many", "most"] (by decide +kernel)
    have DBadRow := D "BadRow" ["number"] (by decide +kernel)
    have DLone := D "Lone" ["place"] (by decide +kernel)
    have DNoPlace := D "NoPlace" ["place"] (by decide +kernel)
    have DBadKind := D "BadKind" ["side", "number"] (by decide +kernel)
    have DBadName := D "BadName" ["name"] (by decide +kernel)
    have DBadWord := D "BadWord" ["number"] (by decide +kernel)
    have DBadSize := D "BadSize" ["size"] (by decide +kernel)
    have DBadWish := D "BadWish" ["name"] (by decide +kernel)
    have DBadRule := D "BadRule" ["name"] (by decide +kernel)
    have DRing := D "Ring" ["name"] (by decide +kernel)
    have DNoRule := D "NoRule" ["root"] (by decide +kernel)
    have DBadRank := D "BadRank" ["number"] (by decide +kernel)
    have DBadStatement := D "BadStatement" ["block", "number"] (by decide +kernel)
    have DBadText := D "BadText" ["line"] (by decide +kernel)
    have DBadOrder := D "BadOrder" ["number"] (by decide +kernel)
    have DBadLock := D "BadLock" ["order"] (by decide +kernel)
    refine ⟨_, pss_cons (ps_set (i := 3) sc_bp.nd rfl (Or.inl rfl) (pe_lst (pa_cons (pe_fx DBadLetters.cl (DBadLetters.no _ (by simp)) (px_pos (DBadLetters.mk' hr) (by rfl) (pa_cons (pv 0) pa_nil))) (pa_cons (pe_fx DTooMany.cl (DTooMany.no _ (by simp)) (px_pos (DTooMany.mk' hr) (by rfl) (pa_cons (pv 0) (pa_cons (pv 1) (pa_cons (pv 2) pa_nil))))) (pa_cons (pe_fx DTooMany.cl (DTooMany.no _ (by simp)) (px_pos (DTooMany.mk' hr) (by rfl) (pa_cons (pv 0) (pa_cons (pv 1) (pa_cons (pv 2) pa_nil))))) pa_nil)))))
      (pss_cons (ps_set (i := 3) sc_bp.nd rfl (Or.inl rfl) (pe_op op_cat (pv 3) (pe_lst (pa_cons (pe_fx DTooMany.cl (DTooMany.no _ (by simp)) (px_pos (DTooMany.mk' hr) (by rfl) (pa_cons (pv 0) (pa_cons (pv 1) (pa_cons (pv 2) pa_nil))))) (pa_cons (pe_fx DBadRow.cl (DBadRow.no _ (by simp)) (px_pos (DBadRow.mk' hr) (by rfl) (pa_cons (pv 0) pa_nil))) (pa_cons (pe_fx DLone.cl (DLone.no _ (by simp)) (px_pos (DLone.mk' hr) (by rfl) (pa_cons (pv 0) pa_nil))) (pa_cons (pe_fx DNoPlace.cl (DNoPlace.no _ (by simp)) (px_pos (DNoPlace.mk' hr) (by rfl) (pa_cons (pv 0) pa_nil))) pa_nil)))))))
      (pss_cons (ps_set (i := 3) sc_bp.nd rfl (Or.inl rfl) (pe_op op_cat (pv 3) (pe_lst (pa_cons (pe_fx DBadKind.cl (DBadKind.no _ (by simp)) (px_pos (DBadKind.mk' hr) (by rfl) (pa_cons (pv 0) (pa_cons (pv 1) pa_nil)))) (pa_cons (pe_fx DBadKind.cl (DBadKind.no _ (by simp)) (px_pos (DBadKind.mk' hr) (by rfl) (pa_cons (pv 0) (pa_cons (pv 1) pa_nil)))) (pa_cons (pe_fx DBadName.cl (DBadName.no _ (by simp)) (px_pos (DBadName.mk' hr) (by rfl) (pa_cons (pv 0) pa_nil))) (pa_cons (pe_fx DBadWord.cl (DBadWord.no _ (by simp)) (px_pos (DBadWord.mk' hr) (by rfl) (pa_cons (pv 0) pa_nil))) pa_nil)))))))
      (pss_cons (ps_set (i := 3) sc_bp.nd rfl (Or.inl rfl) (pe_op op_cat (pv 3) (pe_lst (pa_cons (pe_fx DBadSize.cl (DBadSize.no _ (by simp)) (px_pos (DBadSize.mk' hr) (by rfl) (pa_cons (pv 0) pa_nil))) (pa_cons (pe_fx DBadWish.cl (DBadWish.no _ (by simp)) (px_pos (DBadWish.mk' hr) (by rfl) (pa_cons (pv 0) pa_nil))) (pa_cons (pe_fx DBadRule.cl (DBadRule.no _ (by simp)) (px_pos (DBadRule.mk' hr) (by rfl) (pa_cons (pv 0) pa_nil))) (pa_cons (pe_fx DRing.cl (DRing.no _ (by simp)) (px_pos (DRing.mk' hr) (by rfl) (pa_cons (pv 0) pa_nil))) (pa_cons (pe_fx DNoRule.cl (DNoRule.no _ (by simp)) (px_pos (DNoRule.mk' hr) (by rfl) (pa_cons (pv 0) pa_nil))) pa_nil))))))))
      (pss_cons (ps_set (i := 3) sc_bp.nd rfl (Or.inl rfl) (pe_op op_cat (pv 3) (pe_lst (pa_cons (pe_fx DBadRank.cl (DBadRank.no _ (by simp)) (px_pos (DBadRank.mk' hr) (by rfl) (pa_cons (pv 0) pa_nil))) (pa_cons (pe_fx DBadStatement.cl (DBadStatement.no _ (by simp)) (px_pos (DBadStatement.mk' hr) (by rfl) (pa_cons (pv 0) (pa_cons (pv 1) pa_nil)))) (pa_cons (pe_fx DBadStatement.cl (DBadStatement.no _ (by simp)) (px_pos (DBadStatement.mk' hr) (by rfl) (pa_cons (pv 0) (pa_cons (pv 1) pa_nil)))) pa_nil))))))
      (pss_cons (ps_set (i := 3) sc_bp.nd rfl (Or.inl rfl) (pe_op op_cat (pv 3) (pe_lst (pa_cons (pe_fx DBadText.cl (DBadText.no _ (by simp)) (px_pos (DBadText.mk' hr) (by rfl) (pa_cons (pv 0) pa_nil))) (pa_cons (pe_fx DBadOrder.cl (DBadOrder.no _ (by simp)) (px_pos (DBadOrder.mk' hr) (by rfl) (pa_cons (pv 0) pa_nil))) (pa_cons (pe_fx DBadLock.cl (DBadLock.no _ (by simp)) (px_pos (DBadLock.mk' hr) (by rfl) (pa_cons (pv 0) pa_nil))) pa_nil))))))
      (pss_one (ps_ret (pv 3)))))))), ?_⟩
    refine rd_list (zs := [a, a, b]) (by show 3 ≤ 1000; decide) (fun R h => ⟨a, rfl, rfl, (by show 1 ≤ 1000; decide), a, lk_here, ⟨a, rfl, b, rfl, c, rfl, rfl, (by show 3 ≤ 1000; decide), a, lk_next (by decide +kernel) (lk_next (by decide +kernel) (lk_here)), ⟨a, rfl, b, rfl, c, rfl, rfl, (by show 3 ≤ 1000; decide), b, lk_next (by decide +kernel) (lk_here), h⟩⟩⟩) fun p0 H0 s0 e0 => ?_
    refine rd_cat (zs := [c, a, a, a]) (l := p0) rfl e0 (by show 7 ≤ 1000; decide) (fun R h => ⟨a, rfl, b, rfl, c, rfl, rfl, (by show 3 ≤ 1000; decide), c, lk_here, ⟨a, rfl, rfl, (by show 1 ≤ 1000; decide), a, lk_here, ⟨a, rfl, rfl, (by show 1 ≤ 1000; decide), a, lk_here, ⟨a, rfl, rfl, (by show 1 ≤ 1000; decide), a, lk_here, h⟩⟩⟩⟩) fun p1 H1 t1 e1 => ?_
    have s1 := s0.trans t1
    refine rd_cat (zs := [a, b, a, a]) (l := p1) rfl e1 (by show 11 ≤ 1000; decide) (fun R h => ⟨a, rfl, b, rfl, rfl, (by show 2 ≤ 1000; decide), a, lk_next (by decide +kernel) (lk_here), ⟨a, rfl, b, rfl, rfl, (by show 2 ≤ 1000; decide), b, lk_here, ⟨a, rfl, rfl, (by show 1 ≤ 1000; decide), a, lk_here, ⟨a, rfl, rfl, (by show 1 ≤ 1000; decide), a, lk_here, h⟩⟩⟩⟩) fun p2 H2 t2 e2 => ?_
    have s2 := s1.trans t2
    refine rd_cat (zs := [a, a, a, a, a]) (l := p2) rfl e2 (by show 16 ≤ 1000; decide) (fun R h => ⟨a, rfl, rfl, (by show 1 ≤ 1000; decide), a, lk_here, ⟨a, rfl, rfl, (by show 1 ≤ 1000; decide), a, lk_here, ⟨a, rfl, rfl, (by show 1 ≤ 1000; decide), a, lk_here, ⟨a, rfl, rfl, (by show 1 ≤ 1000; decide), a, lk_here, ⟨a, rfl, rfl, (by show 1 ≤ 1000; decide), a, lk_here, h⟩⟩⟩⟩⟩) fun p3 H3 t3 e3 => ?_
    have s3 := s2.trans t3
    refine rd_cat (zs := [a, a, b]) (l := p3) rfl e3 (by show 19 ≤ 1000; decide) (fun R h => ⟨a, rfl, rfl, (by show 1 ≤ 1000; decide), a, lk_here, ⟨a, rfl, b, rfl, rfl, (by show 2 ≤ 1000; decide), a, lk_next (by decide +kernel) (lk_here), ⟨a, rfl, b, rfl, rfl, (by show 2 ≤ 1000; decide), b, lk_here, h⟩⟩⟩) fun p4 H4 t4 e4 => ?_
    have s4 := s3.trans t4
    refine rd_cat (zs := [a, a, a]) (l := p4) rfl e4 (by show 22 ≤ 1000; decide) (fun R h => ⟨a, rfl, rfl, (by show 1 ≤ 1000; decide), a, lk_here, ⟨a, rfl, rfl, (by show 1 ≤ 1000; decide), a, lk_here, ⟨a, rfl, rfl, (by show 1 ≤ 1000; decide), a, lk_here, h⟩⟩⟩) fun p5 H5 t5 e5 => ?_
    have s5 := s4.trans t5
    exact ⟨_, rfl, k _ _ s5 e5⟩
theorem sc_bn : FnScope ["a", "b", "c", "found"] ["a", "b", "c"] (defScope (top 29)) := ⟨rfl, rfl, rfl, by decide +kernel, rfl, by decide +kernel, by decide +kernel⟩
theorem ok_bn (F : Fun K "_law_by_name" "_law_by_name" (top 29) f fd) (D : ∀ x fs, (x, fs) ∈ tab → XDef P w K mg base x (cA x) fs) : FnOk P w K mg base CX0 3 f fd ["a", "b", "c"] spFields := by
  refine F.ok sc_bn (fun vs H Q E h => ?_) (fun cdv A outer s H vs Q E hr h => ?_)
  · obtain ⟨a, b, c, rfl, _⟩ := h
    rfl
  · obtain ⟨a, b, c, rfl, k⟩ := h
    have DBadLetters := D "BadLetters" ["letters"] (by decide +kernel)
    have DTooMany := D "TooMany" ["what", "many", "most"] (by decide +kernel)
    have DBadRow := D "BadRow" ["number"] (by decide +kernel)
    have DLone := D "Lone" ["place"] (by decide +kernel)
    have DNoPlace := D "NoPlace" ["place"] (by decide +kernel)
    have DBadKind := D "BadKind" ["side", "number"] (by decide +kernel)
    have DBadName := D "BadName" ["name"] (by decide +kernel)
    have DBadWord := D "BadWord" ["number"] (by decide +kernel)
    have DBadSize := D "BadSize" ["size"] (by decide +kernel)
    have DBadWish := D "BadWish" ["name"] (by decide +kernel)
    have DBadRule := D "BadRule" ["name"] (by decide +kernel)
    have DRing := D "Ring" ["name"] (by decide +kernel)
    have DNoRule := D "NoRule" ["root"] (by decide +kernel)
    have DBadRank := D "BadRank" ["number"] (by decide +kernel)
    have DBadStatement := D "BadStatement" ["block", "number"] (by decide +kernel)
    have DBadText := D "BadText" ["line"] (by decide +kernel)
    have DBadOrder := D "BadOrder" ["number"] (by decide +kernel)
    have DBadLock := D "BadLock" ["order"] (by decide +kernel)
    refine ⟨_, pss_cons (ps_set (i := 3) sc_bn.nd rfl (Or.inl rfl) (pe_lst (pa_cons (pe_fx DBadLetters.cl (DBadLetters.no _ (by simp)) (px_kw (DBadLetters.mk' hr) (by rfl) (pk_cons (pv 0) pk_nil))) (pa_cons (pe_fx DTooMany.cl (DTooMany.no _ (by simp)) (px_kw (DTooMany.mk' hr) (by rfl) (pk_cons (pv 0) (pk_cons (pv 1) (pk_cons (pv 2) pk_nil))))) pa_nil))))
      (pss_cons (ps_set (i := 3) sc_bn.nd rfl (Or.inl rfl) (pe_op op_cat (pv 3) (pe_lst (pa_cons (pe_fx DTooMany.cl (DTooMany.no _ (by simp)) (px_kw (DTooMany.mk' hr) (by rfl) (pk_cons (pv 0) (pk_cons (pv 1) (pk_cons (pv 2) pk_nil))))) (pa_cons (pe_fx DTooMany.cl (DTooMany.no _ (by simp)) (px_kw (DTooMany.mk' hr) (by rfl) (pk_cons (pv 0) (pk_cons (pv 1) (pk_cons (pv 2) pk_nil))))) pa_nil)))))
      (pss_cons (ps_set (i := 3) sc_bn.nd rfl (Or.inl rfl) (pe_op op_cat (pv 3) (pe_lst (pa_cons (pe_fx DBadRow.cl (DBadRow.no _ (by simp)) (px_kw (DBadRow.mk' hr) (by rfl) (pk_cons (pv 0) pk_nil))) (pa_cons (pe_fx DLone.cl (DLone.no _ (by simp)) (px_kw (DLone.mk' hr) (by rfl) (pk_cons (pv 0) pk_nil))) (pa_cons (pe_fx DNoPlace.cl (DNoPlace.no _ (by simp)) (px_kw (DNoPlace.mk' hr) (by rfl) (pk_cons (pv 0) pk_nil))) pa_nil))))))
      (pss_cons (ps_set (i := 3) sc_bn.nd rfl (Or.inl rfl) (pe_op op_cat (pv 3) (pe_lst (pa_cons (pe_fx DBadKind.cl (DBadKind.no _ (by simp)) (px_kw (DBadKind.mk' hr) (by rfl) (pk_cons (pv 0) (pk_cons (pv 1) pk_nil)))) (pa_cons (pe_fx DBadKind.cl (DBadKind.no _ (by simp)) (px_kw (DBadKind.mk' hr) (by rfl) (pk_cons (pv 0) (pk_cons (pv 1) pk_nil)))) (pa_cons (pe_fx DBadName.cl (DBadName.no _ (by simp)) (px_kw (DBadName.mk' hr) (by rfl) (pk_cons (pv 0) pk_nil))) pa_nil))))))
      (pss_cons (ps_set (i := 3) sc_bn.nd rfl (Or.inl rfl) (pe_op op_cat (pv 3) (pe_lst (pa_cons (pe_fx DBadWord.cl (DBadWord.no _ (by simp)) (px_kw (DBadWord.mk' hr) (by rfl) (pk_cons (pv 0) pk_nil))) (pa_cons (pe_fx DBadSize.cl (DBadSize.no _ (by simp)) (px_kw (DBadSize.mk' hr) (by rfl) (pk_cons (pv 0) pk_nil))) (pa_cons (pe_fx DBadWish.cl (DBadWish.no _ (by simp)) (px_kw (DBadWish.mk' hr) (by rfl) (pk_cons (pv 0) pk_nil))) pa_nil))))))
      (pss_cons (ps_set (i := 3) sc_bn.nd rfl (Or.inl rfl) (pe_op op_cat (pv 3) (pe_lst (pa_cons (pe_fx DBadRule.cl (DBadRule.no _ (by simp)) (px_kw (DBadRule.mk' hr) (by rfl) (pk_cons (pv 0) pk_nil))) (pa_cons (pe_fx DRing.cl (DRing.no _ (by simp)) (px_kw (DRing.mk' hr) (by rfl) (pk_cons (pv 0) pk_nil))) (pa_cons (pe_fx DNoRule.cl (DNoRule.no _ (by simp)) (px_kw (DNoRule.mk' hr) (by rfl) (pk_cons (pv 0) pk_nil))) (pa_cons (pe_fx DBadRank.cl (DBadRank.no _ (by simp)) (px_kw (DBadRank.mk' hr) (by rfl) (pk_cons (pv 0) pk_nil))) pa_nil)))))))
      (pss_cons (ps_set (i := 3) sc_bn.nd rfl (Or.inl rfl) (pe_op op_cat (pv 3) (pe_lst (pa_cons (pe_fx DBadStatement.cl (DBadStatement.no _ (by simp)) (px_kw (DBadStatement.mk' hr) (by rfl) (pk_cons (pv 0) (pk_cons (pv 1) pk_nil)))) (pa_cons (pe_fx DBadStatement.cl (DBadStatement.no _ (by simp)) (px_kw (DBadStatement.mk' hr) (by rfl) (pk_cons (pv 0) (pk_cons (pv 1) pk_nil)))) pa_nil)))))
      (pss_cons (ps_set (i := 3) sc_bn.nd rfl (Or.inl rfl) (pe_op op_cat (pv 3) (pe_lst (pa_cons (pe_fx DBadText.cl (DBadText.no _ (by simp)) (px_kw (DBadText.mk' hr) (by rfl) (pk_cons (pv 0) pk_nil))) (pa_cons (pe_fx DBadOrder.cl (DBadOrder.no _ (by simp)) (px_kw (DBadOrder.mk' hr) (by rfl) (pk_cons (pv 0) pk_nil))) (pa_cons (pe_fx DBadLock.cl (DBadLock.no _ (by simp)) (px_kw (DBadLock.mk' hr) (by rfl) (pk_cons (pv 0) pk_nil))) pa_nil))))))
      (pss_one (ps_ret (pv 3)))))))))), ?_⟩
    refine rd_list (zs := [a, a]) (by show 2 ≤ 1000; decide) (fun R h => ⟨a, rfl, rfl, (by show 1 ≤ 1000; decide), a, lk_here, ⟨a, rfl, b, rfl, c, rfl, rfl, (by show 3 ≤ 1000; decide), a, lk_next (by decide +kernel) (lk_next (by decide +kernel) (lk_here)), h⟩⟩) fun p0 H0 s0 e0 => ?_
    refine rd_cat (zs := [b, c]) (l := p0) rfl e0 (by show 4 ≤ 1000; decide) (fun R h => ⟨a, rfl, b, rfl, c, rfl, rfl, (by show 3 ≤ 1000; decide), b, lk_next (by decide +kernel) (lk_here), ⟨a, rfl, b, rfl, c, rfl, rfl, (by show 3 ≤ 1000; decide), c, lk_here, h⟩⟩) fun p1 H1 t1 e1 => ?_
    have s1 := s0.trans t1
    refine rd_cat (zs := [a, a, a]) (l := p1) rfl e1 (by show 7 ≤ 1000; decide) (fun R h => ⟨a, rfl, rfl, (by show 1 ≤ 1000; decide), a, lk_here, ⟨a, rfl, rfl, (by show 1 ≤ 1000; decide), a, lk_here, ⟨a, rfl, rfl, (by show 1 ≤ 1000; decide), a, lk_here, h⟩⟩⟩) fun p2 H2 t2 e2 => ?_
    have s2 := s1.trans t2
    refine rd_cat (zs := [a, b, a]) (l := p2) rfl e2 (by show 10 ≤ 1000; decide) (fun R h => ⟨a, rfl, b, rfl, rfl, (by show 2 ≤ 1000; decide), a, lk_next (by decide +kernel) (lk_here), ⟨a, rfl, b, rfl, rfl, (by show 2 ≤ 1000; decide), b, lk_here, ⟨a, rfl, rfl, (by show 1 ≤ 1000; decide), a, lk_here, h⟩⟩⟩) fun p3 H3 t3 e3 => ?_
    have s3 := s2.trans t3
    refine rd_cat (zs := [a, a, a]) (l := p3) rfl e3 (by show 13 ≤ 1000; decide) (fun R h => ⟨a, rfl, rfl, (by show 1 ≤ 1000; decide), a, lk_here, ⟨a, rfl, rfl, (by show 1 ≤ 1000; decide), a, lk_here, ⟨a, rfl, rfl, (by show 1 ≤ 1000; decide), a, lk_here, h⟩⟩⟩) fun p4 H4 t4 e4 => ?_
    have s4 := s3.trans t4
    refine rd_cat (zs := [a, a, a, a]) (l := p4) rfl e4 (by show 17 ≤ 1000; decide) (fun R h => ⟨a, rfl, rfl, (by show 1 ≤ 1000; decide), a, lk_here, ⟨a, rfl, rfl, (by show 1 ≤ 1000; decide), a, lk_here, ⟨a, rfl, rfl, (by show 1 ≤ 1000; decide), a, lk_here, ⟨a, rfl, rfl, (by show 1 ≤ 1000; decide), a, lk_here, h⟩⟩⟩⟩) fun p5 H5 t5 e5 => ?_
    have s5 := s4.trans t5
    refine rd_cat (zs := [a, b]) (l := p5) rfl e5 (by show 19 ≤ 1000; decide) (fun R h => ⟨a, rfl, b, rfl, rfl, (by show 2 ≤ 1000; decide), a, lk_next (by decide +kernel) (lk_here), ⟨a, rfl, b, rfl, rfl, (by show 2 ≤ 1000; decide), b, lk_here, h⟩⟩) fun p6 H6 t6 e6 => ?_
    have s6 := s5.trans t6
    refine rd_cat (zs := [a, a, a]) (l := p6) rfl e6 (by show 22 ≤ 1000; decide) (fun R h => ⟨a, rfl, rfl, (by show 1 ≤ 1000; decide), a, lk_here, ⟨a, rfl, rfl, (by show 1 ≤ 1000; decide), a, lk_here, ⟨a, rfl, rfl, (by show 1 ≤ 1000; decide), a, lk_here, h⟩⟩⟩) fun p7 H7 t7 e7 => ?_
    have s7 := s6.trans t7
    exact ⟨_, rfl, k _ _ s7 e7⟩
end
end K0
namespace K0
open PySem PySem.Spec PyProof.Rows L2
/-! ### lists of exceptions -/
/-- at e stands an exception of the class at D -/
def ExAt (H : Hp) (e D : Addr) : Prop := H e = some (exo e D none) ∨ ∃ dx gs, H e = some (exo e D (some dx)) ∧ H dx = some (exd dx gs)
theorem ExAt.mono {H H' : Hp} {e D : Addr} (h : ExAt H e D) (s : Same H H') : ExAt H' e D := by
  rcases h with h | ⟨dx, gs, h1, h2⟩
  · exact .inl (s _ _ h)
  · exact .inr ⟨dx, gs, s _ _ h1, s _ _ h2⟩
theorem exs_mono {H H' : Hp} (s : Same H H') : ∀ {es Ds : List Addr}, Paired (ExAt H) es Ds → Paired (ExAt H') es Ds
  | _, _, .nil => .nil
  | _, _, .cons h t => .cons (h.mono s) (exs_mono s t)
theorem exs_append {H : Hp} : ∀ {es es' Ds Ds' : List Addr}, Paired (ExAt H) es Ds → Paired (ExAt H) es' Ds' → Paired (ExAt H) (es ++ es') (Ds ++ Ds')
  | _, _, _, _, .nil, q => q
  | _, _, _, _, .cons h t, q => .cons h (exs_append t q)
/-- arguments that make new exceptions of these classes -/
def MkL (ta : TA) (σ : St) (Ds : List Addr) : Prop := ∀ (H : Hp) (R : List V → Hp → Prop), (∀ (es : List Addr) (H' : Hp), Same H H' → Paired (ExAt H') es Ds → R (es.map V.ref) H') → ta σ H R
theorem mkl_nil {σ : St} : MkL tNil σ [] := fun H R k => k [] H (Same.refl H) .nil
theorem withX_same {H : Hp} {C a dx : Addr} {fs : List (Str × V)} (na : H a = none) (nd : H dx = none) : Same H (withX H C a dx fs) := withX_sub na nd
theorem mkl_x {σ : St} {C : Addr} {fs : List Str} {ta t : TA} {vs : List V} {Ds : List Addr} (hv : ∀ (H : Hp) (R : List V → Hp → Prop), R vs H → ta σ H R) (hl : vs.length = fs.length) (hz : vs.length ≤ 1000) (h : MkL t σ Ds) :
    MkL (tCons (tMx C fs ta) t) σ (C :: Ds) := fun H R k => by
  refine hv H _ ⟨hl, hz, fun a dx na nd ne => ?_⟩
  refine h _ _ fun es H' s q => ?_
  exact k (a :: es) H' ((withX_same na nd).trans s) (.cons (.inr ⟨dx, _, s _ _ upd_same, s _ _ ((upd_ne ne).trans upd_same)⟩) q)
theorem mkl_0 {σ : St} {C : Addr} {t : TA} {Ds : List Addr} (h : MkL t σ Ds) : MkL (tCons (fun _ H Q => ∀ a, H a = none → Q (.ref a) (upd H a (exo a C none))) t) σ (C :: Ds) := fun H R k => by
  intro a na
  refine h _ _ fun es H' s q => ?_
  exact k (a :: es) H' ((upd_new na).trans s) (.cons (.inl (s _ _ upd_same)) q)
theorem rd_listX {ta : TA} {D : Ends} {σ : St} {H : Hp} {i : Nat} {Ds : List Addr} (hz : Ds.length ≤ 1000) (hta : MkL ta σ Ds)
    (k : ∀ (p : Addr) (es : List Addr) (H' : Hp), Same H H' → H' p = some (.lst (es.map V.ref)) → Paired (ExAt H') es Ds → D.nx (σ.set i (some (.ref p))) H') : tAsg (tLst ta) (gName i) D σ H :=
  hta H _ fun es H' s q => ⟨by rw [List.length_map, q.length]; exact Nat.le_of_lt (small1000 hz), fun p hp => k p es _ (s.trans (upd_new hp)) upd_same (exs_mono (upd_new hp) q)⟩
theorem rd_catX {ta : TA} {D : Ends} {σ : St} {H : Hp} {i : Nat} {l : Addr} {es : List Addr} {Ds Es : List Addr} (hσ : σ[i]? = some (some (.ref l))) (hl : H l = some (.lst (es.map V.ref))) (he : Paired (ExAt H) es Es) (hz : Es.length + Ds.length ≤ 1000)
    (hta : MkL ta σ Ds) (k : ∀ (p : Addr) (es : List Addr) (H' : Hp), Same H H' → H' p = some (.lst (es.map V.ref)) → Paired (ExAt H') es (Es ++ Ds) → D.nx (σ.set i (some (.ref p))) H') :
    tAsg (tOp rCat (tVar i) (tLst ta)) (gName i) D σ H := by
  refine ⟨_, hσ, hta H _ fun es' H' s q => ⟨by rw [List.length_map, q.length]; exact Nat.le_of_lt (small1000 (by omega)), fun b hb => ⟨l, b, es.map V.ref, es'.map V.ref, rfl, rfl, upd_new hb _ _ (s _ _ hl), upd_same, ?_, fun p hp => ?_⟩⟩⟩
  · rw [List.length_map, List.length_map, q.length, he.length]
    exact Nat.le_of_lt (small1000 hz)
  · have sb := (upd_new (o := .lst (es'.map V.ref)) hb)
    have sp := (upd_new (o := .lst (es.map V.ref ++ es'.map V.ref)) hp)
    exact k p (es ++ es') _ ((s.trans sb).trans sp) (by rw [List.map_append]; exact upd_same) (exs_append (exs_mono ((s.trans sb).trans sp) he) (exs_mono (sb.trans sp) q))
/-- all classes, in the law's order -/
def all21 : List Str := ["BadLetters", "TooMany", "BadRow", "Lone", "NoPlace", "BadKind", "BadName", "BadWord", "NotExact", "BadSize", "BadWish", "BadRule", "Ring", "NoRule", "BadRank", "BadStatement", "BadText", "BadOrder", "BadLock", "NoPut", "BadOver"]
def spMade (cA : Str → Addr) : Sp := fun vs H Q _ => ∃ a b c : V, vs = [a, b, c] ∧ ∀ (H' : Hp) (p : Addr) (es : List Addr), Same H H' → H' p = some (.lst (es.map V.ref)) → Paired (ExAt H') es (all21.map cA) → Q (.ref p) H'
/-- what the walk asks of a class without an own __init__ -/
structure YDef (K : PySem.W.Frag) (mg : Str → Option Value) (x : Str) (C : Addr) : Prop where
  cl : XCl K C
  gC : mg x = some (.ref C)
  ex : PySem.W.excIn K C He.veBase "ValueError.__new__" = true
section
variable {P : Program} {w : World} {K : PySem.W.Frag} {mg : Str → Option Value} {base : Heap} {f : Addr} {fd : FuncData} {cA : Str → Addr}
theorem sc_am : FnScope ["a", "b", "c", "found"] ["a", "b", "c"] (defScope (top 30)) := ⟨rfl, rfl, rfl, by decide +kernel, rfl, by decide +kernel, by decide +kernel⟩
theorem ok_am (F : Fun K "_law_all_made" "_law_all_made" (top 30) f fd) (D : ∀ x fs, (x, fs) ∈ tab → XDef P w K mg base x (cA x) fs) (Y : ∀ x, x ∈ (["NotExact", "NoPut", "BadOver"] : List Str) → YDef K mg x (cA x)) :
    FnOk P w K mg base CX0 3 f fd ["a", "b", "c"] (spMade cA) := by
  refine F.ok sc_am (fun vs H Q E h => ?_) (fun cdv A outer s H vs Q E hr h => ?_)
  · obtain ⟨a, b, c, rfl, _⟩ := h
    rfl
  · obtain ⟨a, b, c, rfl, k⟩ := h
    have DBadLetters := D "BadLetters" ["letters"] (by decide +kernel)
    have DTooMany := D "TooMany" ["what", "many", "most"] (by decide +kernel)
    have DBadRow := D "BadRow" ["number"] (by decide +kernel)
    have DLone := D "Lone" ["place"] (by decide +kernel)
    have DNoPlace := D "NoPlace" ["place"] (by decide +kernel)
    have DBadKind := D "BadKind" ["side", "number"] (by decide +kernel)
    have DBadName := D "BadName" ["name"] (by decide +kernel)
    have DBadWord := D "BadWord" ["number"] (by decide +kernel)
    have DBadSize := D "BadSize" ["size"] (by decide +kernel)
    have DBadWish := D "BadWish" ["name"] (by decide +kernel)
    have DBadRule := D "BadRule" ["name"] (by decide +kernel)
    have DRing := D "Ring" ["name"] (by decide +kernel)
    have DNoRule := D "NoRule" ["root"] (by decide +kernel)
    have DBadRank := D "BadRank" ["number"] (by decide +kernel)
    have DBadStatement := D "BadStatement" ["block", "number"] (by decide +kernel)
    have DBadText := D "BadText" ["line"] (by decide +kernel)
    have DBadOrder := D "BadOrder" ["number"] (by decide +kernel)
    have DBadLock := D "BadLock" ["order"] (by decide +kernel)
    have DNotExact := Y "NotExact" (by decide +kernel)
    have DNoPut := Y "NoPut" (by decide +kernel)
    have DBadOver := Y "BadOver" (by decide +kernel)
    refine ⟨_, pss_cons (ps_set (i := 3) sc_am.nd rfl (Or.inl rfl) (pe_lst (pa_cons (pe_mx (px_pos (DBadLetters.mk' hr) (by rfl) (pa_cons (pv 0) pa_nil))) (pa_cons (pe_mx (px_pos (DTooMany.mk' hr) (by rfl) (pa_cons (pv 0) (pa_cons (pv 1) (pa_cons (pv 2) pa_nil))))) (pa_cons (pe_mx (px_pos (DBadRow.mk' hr) (by rfl) (pa_cons (pv 0) pa_nil))) (pa_cons (pe_mx (px_pos (DLone.mk' hr) (by rfl) (pa_cons (pv 0) pa_nil))) (pa_cons (pe_mx (px_pos (DNoPlace.mk' hr) (by rfl) (pa_cons (pv 0) pa_nil))) (pa_cons (pe_mx (px_pos (DBadKind.mk' hr) (by rfl) (pa_cons (pv 0) (pa_cons (pv 1) pa_nil)))) pa_nil))))))))
      (pss_cons (ps_set (i := 3) sc_am.nd rfl (Or.inl rfl) (pe_op op_cat (pv 3) (pe_lst (pa_cons (pe_mx (px_pos (DBadName.mk' hr) (by rfl) (pa_cons (pv 0) pa_nil))) (pa_cons (pe_mx (px_pos (DBadWord.mk' hr) (by rfl) (pa_cons (pv 0) pa_nil))) (pa_cons (pe_m0 PySem.F.excBase_ValueError DNotExact.ex DNotExact.gC DNotExact.cl.T.kC (by rfl)) (pa_cons (pe_mx (px_pos (DBadSize.mk' hr) (by rfl) (pa_cons (pv 0) pa_nil))) (pa_cons (pe_mx (px_pos (DBadWish.mk' hr) (by rfl) (pa_cons (pv 0) pa_nil))) (pa_cons (pe_mx (px_pos (DBadRule.mk' hr) (by rfl) (pa_cons (pv 0) pa_nil))) (pa_cons (pe_mx (px_pos (DRing.mk' hr) (by rfl) (pa_cons (pv 0) pa_nil))) pa_nil))))))))))
      (pss_cons (ps_set (i := 3) sc_am.nd rfl (Or.inl rfl) (pe_op op_cat (pv 3) (pe_lst (pa_cons (pe_mx (px_pos (DNoRule.mk' hr) (by rfl) (pa_cons (pv 0) pa_nil))) (pa_cons (pe_mx (px_pos (DBadRank.mk' hr) (by rfl) (pa_cons (pv 0) pa_nil))) (pa_cons (pe_mx (px_pos (DBadStatement.mk' hr) (by rfl) (pa_cons (pv 0) (pa_cons (pv 1) pa_nil)))) (pa_cons (pe_mx (px_pos (DBadText.mk' hr) (by rfl) (pa_cons (pv 0) pa_nil))) (pa_cons (pe_mx (px_pos (DBadOrder.mk' hr) (by rfl) (pa_cons (pv 0) pa_nil))) (pa_cons (pe_mx (px_pos (DBadLock.mk' hr) (by rfl) (pa_cons (pv 0) pa_nil))) pa_nil)))))))))
      (pss_cons (ps_set (i := 3) sc_am.nd rfl (Or.inl rfl) (pe_op op_cat (pv 3) (pe_lst (pa_cons (pe_m0 PySem.F.excBase_ValueError DNoPut.ex DNoPut.gC DNoPut.cl.T.kC (by rfl)) (pa_cons (pe_m0 PySem.F.excBase_ValueError DBadOver.ex DBadOver.gC DBadOver.cl.T.kC (by rfl)) pa_nil)))))
      (pss_one (ps_ret (pv 3)))))), ?_⟩
    refine rd_listX (Ds := [cA "BadLetters", cA "TooMany", cA "BadRow", cA "Lone", cA "NoPlace", cA "BadKind"]) (by show 6 ≤ 1000; decide) (mkl_x (vs := [a]) (fun H R h => ⟨a, rfl, h⟩) rfl (by show 1 ≤ 1000; decide) (mkl_x (vs := [a, b, c]) (fun H R h => ⟨a, rfl, b, rfl, c, rfl, h⟩) rfl (by show 3 ≤ 1000; decide) (mkl_x (vs := [a]) (fun H R h => ⟨a, rfl, h⟩) rfl (by show 1 ≤ 1000; decide) (mkl_x (vs := [a]) (fun H R h => ⟨a, rfl, h⟩) rfl (by show 1 ≤ 1000; decide) (mkl_x (vs := [a]) (fun H R h => ⟨a, rfl, h⟩) rfl (by show 1 ≤ 1000; decide) (mkl_x (vs := [a, b]) (fun H R h => ⟨a, rfl, b, rfl, h⟩) rfl (by show 2 ≤ 1000; decide) mkl_nil)))))) fun p0 es0 H0 s0 e0 q0 => ?_
    refine rd_catX (Ds := [cA "BadName", cA "BadWord", cA "NotExact", cA "BadSize", cA "BadWish", cA "BadRule", cA "Ring"]) (l := p0) rfl e0 q0 (by show 6 + 7 ≤ 1000; decide) (mkl_x (vs := [a]) (fun H R h => ⟨a, rfl, h⟩) rfl (by show 1 ≤ 1000; decide) (mkl_x (vs := [a]) (fun H R h => ⟨a, rfl, h⟩) rfl (by show 1 ≤ 1000; decide) (mkl_0 (mkl_x (vs := [a]) (fun H R h => ⟨a, rfl, h⟩) rfl (by show 1 ≤ 1000; decide) (mkl_x (vs := [a]) (fun H R h => ⟨a, rfl, h⟩) rfl (by show 1 ≤ 1000; decide) (mkl_x (vs := [a]) (fun H R h => ⟨a, rfl, h⟩) rfl (by show 1 ≤ 1000; decide) (mkl_x (vs := [a]) (fun H R h => ⟨a, rfl, h⟩) rfl (by show 1 ≤ 1000; decide) mkl_nil))))))) fun p1 es1 H1 t1 e1 q1 => ?_
    have s1 := s0.trans t1
    refine rd_catX (Ds := [cA "NoRule", cA "BadRank", cA "BadStatement", cA "BadText", cA "BadOrder", cA "BadLock"]) (l := p1) rfl e1 q1 (by show 13 + 6 ≤ 1000; decide) (mkl_x (vs := [a]) (fun H R h => ⟨a, rfl, h⟩) rfl (by show 1 ≤ 1000; decide) (mkl_x (vs := [a]) (fun H R h => ⟨a, rfl, h⟩) rfl (by show 1 ≤ 1000; decide) (mkl_x (vs := [a, b]) (fun H R h => ⟨a, rfl, b, rfl, h⟩) rfl (by show 2 ≤ 1000; decide) (mkl_x (vs := [a]) (fun H R h => ⟨a, rfl, h⟩) rfl (by show 1 ≤ 1000; decide) (mkl_x (vs := [a]) (fun H R h => ⟨a, rfl, h⟩) rfl (by show 1 ≤ 1000; decide) (mkl_x (vs := [a]) (fun H R h => ⟨a, rfl, h⟩) rfl (by show 1 ≤ 1000; decide) mkl_nil)))))) fun p2 es2 H2 t2 e2 q2 => ?_
    have s2 := s1.trans t2
    refine rd_catX (Ds := [cA "NoPut", cA "BadOver"]) (l := p2) rfl e2 q2 (by show 19 + 2 ≤ 1000; decide) (mkl_0 (mkl_0 mkl_nil)) fun p3 es3 H3 t3 e3 q3 => ?_
    have s3 := s2.trans t3
    exact ⟨_, rfl, k _ _ _ s3 e3 q3⟩
end
end K0
namespace K0
open PySem PySem.Spec PyProof.Rows L2
/-! ### of which classes an exception is -/
def nm (i : Nat) : Str := all21.getD i ""
/-- what is told of the classes together -/
structure CDef (K : PySem.W.Frag) (mg : Str → Option Value) (cA : Str → Addr) : Prop where
  cl : ∀ i, i < 21 → XCl K (cA (nm i))
  g : ∀ i, i < 21 → mg (nm i) = some (.ref (cA (nm i)))
  kit : ∀ i j, i < 21 → j < 21 → PySem.W.kitOne K (.ref (cA (nm i))) (.ref (cA (nm j))) = some (decide (i = j))
def spSorts (cA : Str → Addr) : Sp := fun vs H Q _ => ∃ (e : Addr) (i : Nat), vs = [.ref e] ∧ i < 21 ∧ ExAt H e (cA (nm i)) ∧ ∀ (H' : Hp) (p : Addr), Same H H' → H' p = some (.lst [.int (i : Int)]) → Q (.ref p) H'
section
variable {P : Program} {w : World} {K : PySem.W.Frag} {mg : Str → Option Value} {base : Heap} {f : Addr} {fd : FuncData} {cA : Str → Addr}
theorem sc_so : FnScope ["error", "found", "k"] ["error"] (defScope (top 31)) := ⟨rfl, rfl, rfl, by decide +kernel, rfl, by decide +kernel, by decide +kernel⟩
theorem ok_so (F : Fun K "_law_sorts" "_law_sorts" (top 31) f fd) (D : CDef K mg cA) (gI : mg "isinstance" = none) (gN : mg "len" = none) (gR : mg "range" = none) : FnOk P w K mg base CX0 1 f fd ["error"] (spSorts cA) := by
  refine F.ok sc_so (fun vs H Q E h => ?_) (fun cdv A outer s H vs Q E hr h => ?_)
  · obtain ⟨e, i, rfl, _⟩ := h
    rfl
  · obtain ⟨e, i, rfl, hi, he, k⟩ := h
    have g0 : mg "BadLetters" = some (.ref (cA "BadLetters")) := D.g 0 (by decide)
    have k0 : PySem.W.kitOne K (.ref (cA (nm i))) (.ref (cA "BadLetters")) = some (decide (i = 0)) := D.kit i 0 hi (by decide)
    have g1 : mg "TooMany" = some (.ref (cA "TooMany")) := D.g 1 (by decide)
    have k1 : PySem.W.kitOne K (.ref (cA (nm i))) (.ref (cA "TooMany")) = some (decide (i = 1)) := D.kit i 1 hi (by decide)
    have g2 : mg "BadRow" = some (.ref (cA "BadRow")) := D.g 2 (by decide)
    have k2 : PySem.W.kitOne K (.ref (cA (nm i))) (.ref (cA "BadRow")) = some (decide (i = 2)) := D.kit i 2 hi (by decide)
    have g3 : mg "Lone" = some (.ref (cA "Lone")) := D.g 3 (by decide)
    have k3 : PySem.W.kitOne K (.ref (cA (nm i))) (.ref (cA "Lone")) = some (decide (i = 3)) := D.kit i 3 hi (by decide)
    have g4 : mg "NoPlace" = some (.ref (cA "NoPlace")) := D.g 4 (by decide)
    have k4 : PySem.W.kitOne K (.ref (cA (nm i))) (.ref (cA "NoPlace")) = some (decide (i = 4)) := D.kit i 4 hi (by decide)
    have g5 : mg "BadKind" = some (.ref (cA "BadKind")) := D.g 5 (by decide)
    have k5 : PySem.W.kitOne K (.ref (cA (nm i))) (.ref (cA "BadKind")) = some (decide (i = 5)) := D.kit i 5 hi (by decide)
    have g6 : mg "BadName" = some (.ref (cA "BadName")) := D.g 6 (by decide)
    have k6 : PySem.W.kitOne K (.ref (cA (nm i))) (.ref (cA "BadName")) = some (decide (i = 6)) := D.kit i 6 hi (by decide)
    have g7 : mg "BadWord" = some (.ref (cA "BadWord")) := D.g 7 (by decide)
    have k7 : PySem.W.kitOne K (.ref (cA (nm i))) (.ref (cA "BadWord")) = some (decide (i = 7)) := D.kit i 7 hi (by decide)
    have g8 : mg "NotExact" = some (.ref (cA "NotExact")) := D.g 8 (by decide)
    have k8 : PySem.W.kitOne K (.ref (cA (nm i))) (.ref (cA "NotExact")) = some (decide (i = 8)) := D.kit i 8 hi (by decide)
    have g9 : mg "BadSize" = some (.ref (cA "BadSize")) := D.g 9 (by decide)
    have k9 : PySem.W.kitOne K (.ref (cA (nm i))) (.ref (cA "BadSize")) = some (decide (i = 9)) := D.kit i 9 hi (by decide)
    have g10 : mg "BadWish" = some (.ref (cA "BadWish")) := D.g 10 (by decide)
    have k10 : PySem.W.kitOne K (.ref (cA (nm i))) (.ref (cA "BadWish")) = some (decide (i = 10)) := D.kit i 10 hi (by decide)
    have g11 : mg "BadRule" = some (.ref (cA "BadRule")) := D.g 11 (by decide)
    have k11 : PySem.W.kitOne K (.ref (cA (nm i))) (.ref (cA "BadRule")) = some (decide (i = 11)) := D.kit i 11 hi (by decide)
    have g12 : mg "Ring" = some (.ref (cA "Ring")) := D.g 12 (by decide)
    have k12 : PySem.W.kitOne K (.ref (cA (nm i))) (.ref (cA "Ring")) = some (decide (i = 12)) := D.kit i 12 hi (by decide)
    have g13 : mg "NoRule" = some (.ref (cA "NoRule")) := D.g 13 (by decide)
    have k13 : PySem.W.kitOne K (.ref (cA (nm i))) (.ref (cA "NoRule")) = some (decide (i = 13)) := D.kit i 13 hi (by decide)
    have g14 : mg "BadRank" = some (.ref (cA "BadRank")) := D.g 14 (by decide)
    have k14 : PySem.W.kitOne K (.ref (cA (nm i))) (.ref (cA "BadRank")) = some (decide (i = 14)) := D.kit i 14 hi (by decide)
    have g15 : mg "BadStatement" = some (.ref (cA "BadStatement")) := D.g 15 (by decide)
    have k15 : PySem.W.kitOne K (.ref (cA (nm i))) (.ref (cA "BadStatement")) = some (decide (i = 15)) := D.kit i 15 hi (by decide)
    have g16 : mg "BadText" = some (.ref (cA "BadText")) := D.g 16 (by decide)
    have k16 : PySem.W.kitOne K (.ref (cA (nm i))) (.ref (cA "BadText")) = some (decide (i = 16)) := D.kit i 16 hi (by decide)
    have g17 : mg "BadOrder" = some (.ref (cA "BadOrder")) := D.g 17 (by decide)
    have k17 : PySem.W.kitOne K (.ref (cA (nm i))) (.ref (cA "BadOrder")) = some (decide (i = 17)) := D.kit i 17 hi (by decide)
    have g18 : mg "BadLock" = some (.ref (cA "BadLock")) := D.g 18 (by decide)
    have k18 : PySem.W.kitOne K (.ref (cA (nm i))) (.ref (cA "BadLock")) = some (decide (i = 18)) := D.kit i 18 hi (by decide)
    have g19 : mg "NoPut" = some (.ref (cA "NoPut")) := D.g 19 (by decide)
    have k19 : PySem.W.kitOne K (.ref (cA (nm i))) (.ref (cA "NoPut")) = some (decide (i = 19)) := D.kit i 19 hi (by decide)
    have g20 : mg "BadOver" = some (.ref (cA "BadOver")) := D.g 20 (by decide)
    have k20 : PySem.W.kitOne K (.ref (cA (nm i))) (.ref (cA "BadOver")) = some (decide (i = 20)) := D.kit i 20 hi (by decide)
    refine ⟨_, pss_cons (ps_set (i := 1) sc_so.nd rfl (Or.inr rfl) (pe_lst (pa_cons (pe_callB call_isx (by rfl) gI PyProof.Rows.boot_isinstance (pa_cons (pv 0) (pa_cons (pe_glob (v := V.ref (cA "BadLetters")) (by rfl) g0 rfl) pa_nil))) (pa_cons (pe_callB call_isx (by rfl) gI PyProof.Rows.boot_isinstance (pa_cons (pv 0) (pa_cons (pe_glob (v := V.ref (cA "TooMany")) (by rfl) g1 rfl) pa_nil))) (pa_cons (pe_callB call_isx (by rfl) gI PyProof.Rows.boot_isinstance (pa_cons (pv 0) (pa_cons (pe_glob (v := V.ref (cA "BadRow")) (by rfl) g2 rfl) pa_nil))) pa_nil)))))
      (pss_cons (ps_set (i := 1) sc_so.nd rfl (Or.inr rfl) (pe_op op_cat (pv 1) (pe_lst (pa_cons (pe_callB call_isx (by rfl) gI PyProof.Rows.boot_isinstance (pa_cons (pv 0) (pa_cons (pe_glob (v := V.ref (cA "Lone")) (by rfl) g3 rfl) pa_nil))) (pa_cons (pe_callB call_isx (by rfl) gI PyProof.Rows.boot_isinstance (pa_cons (pv 0) (pa_cons (pe_glob (v := V.ref (cA "NoPlace")) (by rfl) g4 rfl) pa_nil))) (pa_cons (pe_callB call_isx (by rfl) gI PyProof.Rows.boot_isinstance (pa_cons (pv 0) (pa_cons (pe_glob (v := V.ref (cA "BadKind")) (by rfl) g5 rfl) pa_nil))) pa_nil))))))
      (pss_cons (ps_set (i := 1) sc_so.nd rfl (Or.inr rfl) (pe_op op_cat (pv 1) (pe_lst (pa_cons (pe_callB call_isx (by rfl) gI PyProof.Rows.boot_isinstance (pa_cons (pv 0) (pa_cons (pe_glob (v := V.ref (cA "BadName")) (by rfl) g6 rfl) pa_nil))) (pa_cons (pe_callB call_isx (by rfl) gI PyProof.Rows.boot_isinstance (pa_cons (pv 0) (pa_cons (pe_glob (v := V.ref (cA "BadWord")) (by rfl) g7 rfl) pa_nil))) (pa_cons (pe_callB call_isx (by rfl) gI PyProof.Rows.boot_isinstance (pa_cons (pv 0) (pa_cons (pe_glob (v := V.ref (cA "NotExact")) (by rfl) g8 rfl) pa_nil))) pa_nil))))))
      (pss_cons (ps_set (i := 1) sc_so.nd rfl (Or.inr rfl) (pe_op op_cat (pv 1) (pe_lst (pa_cons (pe_callB call_isx (by rfl) gI PyProof.Rows.boot_isinstance (pa_cons (pv 0) (pa_cons (pe_glob (v := V.ref (cA "BadSize")) (by rfl) g9 rfl) pa_nil))) (pa_cons (pe_callB call_isx (by rfl) gI PyProof.Rows.boot_isinstance (pa_cons (pv 0) (pa_cons (pe_glob (v := V.ref (cA "BadWish")) (by rfl) g10 rfl) pa_nil))) (pa_cons (pe_callB call_isx (by rfl) gI PyProof.Rows.boot_isinstance (pa_cons (pv 0) (pa_cons (pe_glob (v := V.ref (cA "BadRule")) (by rfl) g11 rfl) pa_nil))) pa_nil))))))
      (pss_cons (ps_set (i := 1) sc_so.nd rfl (Or.inr rfl) (pe_op op_cat (pv 1) (pe_lst (pa_cons (pe_callB call_isx (by rfl) gI PyProof.Rows.boot_isinstance (pa_cons (pv 0) (pa_cons (pe_glob (v := V.ref (cA "Ring")) (by rfl) g12 rfl) pa_nil))) (pa_cons (pe_callB call_isx (by rfl) gI PyProof.Rows.boot_isinstance (pa_cons (pv 0) (pa_cons (pe_glob (v := V.ref (cA "NoRule")) (by rfl) g13 rfl) pa_nil))) (pa_cons (pe_callB call_isx (by rfl) gI PyProof.Rows.boot_isinstance (pa_cons (pv 0) (pa_cons (pe_glob (v := V.ref (cA "BadRank")) (by rfl) g14 rfl) pa_nil))) pa_nil))))))
      (pss_cons (ps_set (i := 1) sc_so.nd rfl (Or.inr rfl) (pe_op op_cat (pv 1) (pe_lst (pa_cons (pe_callB call_isx (by rfl) gI PyProof.Rows.boot_isinstance (pa_cons (pv 0) (pa_cons (pe_glob (v := V.ref (cA "BadStatement")) (by rfl) g15 rfl) pa_nil))) (pa_cons (pe_callB call_isx (by rfl) gI PyProof.Rows.boot_isinstance (pa_cons (pv 0) (pa_cons (pe_glob (v := V.ref (cA "BadText")) (by rfl) g16 rfl) pa_nil))) (pa_cons (pe_callB call_isx (by rfl) gI PyProof.Rows.boot_isinstance (pa_cons (pv 0) (pa_cons (pe_glob (v := V.ref (cA "BadOrder")) (by rfl) g17 rfl) pa_nil))) pa_nil))))))
      (pss_cons (ps_set (i := 1) sc_so.nd rfl (Or.inr rfl) (pe_op op_cat (pv 1) (pe_lst (pa_cons (pe_callB call_isx (by rfl) gI PyProof.Rows.boot_isinstance (pa_cons (pv 0) (pa_cons (pe_glob (v := V.ref (cA "BadLock")) (by rfl) g18 rfl) pa_nil))) (pa_cons (pe_callB call_isx (by rfl) gI PyProof.Rows.boot_isinstance (pa_cons (pv 0) (pa_cons (pe_glob (v := V.ref (cA "NoPut")) (by rfl) g19 rfl) pa_nil))) (pa_cons (pe_callB call_isx (by rfl) gI PyProof.Rows.boot_isinstance (pa_cons (pv 0) (pa_cons (pe_glob (v := V.ref (cA "BadOver")) (by rfl) g20 rfl) pa_nil))) pa_nil))))))
      (pss_one (ps_ret (pe_lc (own := [("k", 2)]) (g := gName 2) (tt := tB (tOp (rIxL K) (tVar 1) (tVar 2))) rfl sc_so.nd (pi_range1 (by rfl) gR (pa_cons (pe_callB call_len_seq (by rfl) gN PySem.boot_len (pa_cons (pv 1) pa_nil)) pa_nil))
      (blkOk_by (N := ["error", "found", "k"]) (sc := defScope (top 31)) (by decide +kernel)) (fun _ _ _ _ _ => pg_name (i := 2) sc_so.nd rfl (Or.inl rfl)) (fun _ _ _ _ _ => pts_one (pt_val (pe_ix ix_list (pv 1) (pv 2) (fun _ _ => rfl)))) (fun _ _ _ _ _ => pv 2)))))))))), ?_⟩
    refine rd_list (zs := (([0, 1, 2] : List Nat).map fun j => V.bl (decide (i = j)))) (by show 3 ≤ 1000; decide) (fun R h => ⟨.ref e, rfl, e, cA (nm i), .ref (cA "BadLetters"), .ref (cA "BadLetters"), decide (i = 0), rfl, .own _, D.cl i hi, he, k0, ⟨.ref e, rfl, e, cA (nm i), .ref (cA "TooMany"), .ref (cA "TooMany"), decide (i = 1), rfl, .own _, D.cl i hi, he, k1, ⟨.ref e, rfl, e, cA (nm i), .ref (cA "BadRow"), .ref (cA "BadRow"), decide (i = 2), rfl, .own _, D.cl i hi, he, k2, h⟩⟩⟩) fun p0 H0 s0 e0 => ?_
    refine rd_cat (zs := (([3, 4, 5] : List Nat).map fun j => V.bl (decide (i = j)))) (l := p0) rfl e0 (by show 6 ≤ 1000; decide) (fun R h => ⟨.ref e, rfl, e, cA (nm i), .ref (cA "Lone"), .ref (cA "Lone"), decide (i = 3), rfl, .own _, D.cl i hi, (he.mono s0), k3, ⟨.ref e, rfl, e, cA (nm i), .ref (cA "NoPlace"), .ref (cA "NoPlace"), decide (i = 4), rfl, .own _, D.cl i hi, (he.mono s0), k4, ⟨.ref e, rfl, e, cA (nm i), .ref (cA "BadKind"), .ref (cA "BadKind"), decide (i = 5), rfl, .own _, D.cl i hi, (he.mono s0), k5, h⟩⟩⟩) fun p1 H1 t1 e1 => ?_
    have s1 := s0.trans t1
    refine rd_cat (zs := (([6, 7, 8] : List Nat).map fun j => V.bl (decide (i = j)))) (l := p1) rfl e1 (by show 9 ≤ 1000; decide) (fun R h => ⟨.ref e, rfl, e, cA (nm i), .ref (cA "BadName"), .ref (cA "BadName"), decide (i = 6), rfl, .own _, D.cl i hi, (he.mono s1), k6, ⟨.ref e, rfl, e, cA (nm i), .ref (cA "BadWord"), .ref (cA "BadWord"), decide (i = 7), rfl, .own _, D.cl i hi, (he.mono s1), k7, ⟨.ref e, rfl, e, cA (nm i), .ref (cA "NotExact"), .ref (cA "NotExact"), decide (i = 8), rfl, .own _, D.cl i hi, (he.mono s1), k8, h⟩⟩⟩) fun p2 H2 t2 e2 => ?_
    have s2 := s1.trans t2
    refine rd_cat (zs := (([9, 10, 11] : List Nat).map fun j => V.bl (decide (i = j)))) (l := p2) rfl e2 (by show 12 ≤ 1000; decide) (fun R h => ⟨.ref e, rfl, e, cA (nm i), .ref (cA "BadSize"), .ref (cA "BadSize"), decide (i = 9), rfl, .own _, D.cl i hi, (he.mono s2), k9, ⟨.ref e, rfl, e, cA (nm i), .ref (cA "BadWish"), .ref (cA "BadWish"), decide (i = 10), rfl, .own _, D.cl i hi, (he.mono s2), k10, ⟨.ref e, rfl, e, cA (nm i), .ref (cA "BadRule"), .ref (cA "BadRule"), decide (i = 11), rfl, .own _, D.cl i hi, (he.mono s2), k11, h⟩⟩⟩) fun p3 H3 t3 e3 => ?_
    have s3 := s2.trans t3
    refine rd_cat (zs := (([12, 13, 14] : List Nat).map fun j => V.bl (decide (i = j)))) (l := p3) rfl e3 (by show 15 ≤ 1000; decide) (fun R h => ⟨.ref e, rfl, e, cA (nm i), .ref (cA "Ring"), .ref (cA "Ring"), decide (i = 12), rfl, .own _, D.cl i hi, (he.mono s3), k12, ⟨.ref e, rfl, e, cA (nm i), .ref (cA "NoRule"), .ref (cA "NoRule"), decide (i = 13), rfl, .own _, D.cl i hi, (he.mono s3), k13, ⟨.ref e, rfl, e, cA (nm i), .ref (cA "BadRank"), .ref (cA "BadRank"), decide (i = 14), rfl, .own _, D.cl i hi, (he.mono s3), k14, h⟩⟩⟩) fun p4 H4 t4 e4 => ?_
    have s4 := s3.trans t4
    refine rd_cat (zs := (([15, 16, 17] : List Nat).map fun j => V.bl (decide (i = j)))) (l := p4) rfl e4 (by show 18 ≤ 1000; decide) (fun R h => ⟨.ref e, rfl, e, cA (nm i), .ref (cA "BadStatement"), .ref (cA "BadStatement"), decide (i = 15), rfl, .own _, D.cl i hi, (he.mono s4), k15, ⟨.ref e, rfl, e, cA (nm i), .ref (cA "BadText"), .ref (cA "BadText"), decide (i = 16), rfl, .own _, D.cl i hi, (he.mono s4), k16, ⟨.ref e, rfl, e, cA (nm i), .ref (cA "BadOrder"), .ref (cA "BadOrder"), decide (i = 17), rfl, .own _, D.cl i hi, (he.mono s4), k17, h⟩⟩⟩) fun p5 H5 t5 e5 => ?_
    have s5 := s4.trans t5
    refine rd_cat (zs := (([18, 19, 20] : List Nat).map fun j => V.bl (decide (i = j)))) (l := p5) rfl e5 (by show 21 ≤ 1000; decide) (fun R h => ⟨.ref e, rfl, e, cA (nm i), .ref (cA "BadLock"), .ref (cA "BadLock"), decide (i = 18), rfl, .own _, D.cl i hi, (he.mono s5), k18, ⟨.ref e, rfl, e, cA (nm i), .ref (cA "NoPut"), .ref (cA "NoPut"), decide (i = 19), rfl, .own _, D.cl i hi, (he.mono s5), k19, ⟨.ref e, rfl, e, cA (nm i), .ref (cA "BadOver"), .ref (cA "BadOver"), decide (i = 20), rfl, .own _, D.cl i hi, (he.mono s5), k20, h⟩⟩⟩) fun p6 H6 t6 e6 => ?_
    have s6 := s5.trans t6
    have e7 : H6 p6 = some (.lst ((List.range 21).map fun j => V.bl (decide (i = j)))) := e6
    have S7 : SqL K H6 p6 ((List.range 21).map fun j => V.bl (decide (i = j))) := .inl (.inl e7)
    refine ⟨.ref p6, rfl, p6, _, rfl, .inl S7, 21, rfl, by decide, by decide, fun L hL => ?_⟩
    refine lc_range (lo := 0) (n := 21) (fun t H' => Same H6 H' ∧ H' L = some (.lst (if i < t then [.int (i : Int)] else []))) ⟨upd_new hL, by rw [if_neg (Nat.not_lt_zero i)]; exact upd_same⟩ ?_ ?_
    · rintro t H' ht ⟨s7, e8⟩
      refine ⟨rfl, .ref p6, rfl, .int (0 + (t : Int)), rfl, p6, (List.range 21).map fun j => V.bl (decide (i = j)), _, .bl (decide (i = t)), rfl, rfl, s7.seq S7, at_of (j := t) (by omega) ?_, _, rfl, ?_⟩
      · rw [List.getElem?_map, List.getElem?_range ht]
        all_goals rfl
      · refine ite2 (fun c => ?_) (fun c => ?_)
        · have c' : i = t := of_decide_eq_true c
          subst c'
          rw [if_neg (Nat.lt_irrefl i)] at e8
          refine ⟨.int (0 + (i : Int)), rfl, [], e8, by decide, fun b o hb => ?_, ?_⟩
          · rw [upd_ne (fun z => by rw [z, hL] at hb; cases hb)]
            exact s7 b o hb
          · rw [if_pos (Nat.lt_succ_self i), Int.zero_add]
            exact upd_same
        · have c' : ¬ i = t := fun z => c (decide_eq_true z)
          refine ⟨s7, ?_⟩
          rw [e8]
          by_cases h1 : i < t
          · rw [if_pos h1, if_pos (Nat.lt_succ_of_lt h1)]
          · rw [if_neg h1, if_neg (by omega)]
    · rintro H' ⟨s7, e8⟩
      rw [if_pos hi] at e8
      exact k H' L (s6.trans s7) e8
end
end K0
namespace K0
open PySem PySem.Spec PyProof.Rows L2
/-! ### the law -/
def dueD (a b c : PyData) : List PyData := [a, a, b, c, a, a, a, a, b, a, a, a, a, a, a, a, a, a, b, a, a, a]
theorem due_all {K : PySem.W.Frag} {H : Hp} {a b c : V} {x y z : PyData} (ha : De K H a x) (hb : De K H b y) (hc : De K H c z) : DeAll K H (due1 a b c ++ due2 a b c) (dueD x y z) :=
  .cons ha (.cons ha (.cons hb (.cons hc (.cons ha (.cons ha (.cons ha (.cons ha (.cons hb (.cons ha (.cons ha (.cons ha (.cons ha (.cons ha (.cons ha (.cons ha (.cons ha (.cons ha (.cons hb (.cons ha (.cons ha (.cons ha .nil)))))))))))))))))))))
structure Sl (d : PyData) : Prop where
  sh : d.showable = true
  dp : d.depth ≤ 8
  ln : d.shown.length ≤ sizeLine
theorem due_sm {x y z : PyData} (hx : Sm x) (hy : Sm y) (hz : Sm z) : Sl (.list (dueD x y z)) := by
  refine ⟨?_, ?_, ?_⟩
  · simp only [dueD, PyData.showable, PyData.showableAll, hx.sh, hy.sh, hz.sh, Bool.and_self]
  · have h1 := hx.dp
    have h2 := hy.dp
    have h3 := hz.dp
    simp only [dueD, PyData.depth, PyData.depthAll]
    omega
  · have h1 := hx.ln
    have h2 := hy.ln
    have h3 := hz.ln
    have e : (PyData.list (dueD x y z)).shown = listText (PyData.shownAll (dueD x y z)) := by simp only [PyData.shown]
    rw [e]
    refine Nat.le_trans (listText_len_le _) ?_
    simp only [dueD, PyData.shownAll, List.map_cons, List.map_nil, List.sum_cons, List.sum_nil, List.length_cons, List.length_nil]
    rw [sizeLine_eq]
    omega
theorem exs_at {H : Hp} : ∀ {es Ds : List Addr} {j : Nat} {e : Addr}, Paired (ExAt H) es Ds → es[j]? = some e → ∃ D, Ds[j]? = some D ∧ ExAt H e D
  | _, _, _, _, .nil, h => by simp at h
  | _, _, 0, e, .cons h t, q => by
    simp at q
    subst q
    exact ⟨_, rfl, h⟩
  | _, _, j + 1, e, .cons h t, q => by
    obtain ⟨D, h1, h2⟩ := exs_at (j := j) (e := e) t (by simpa using q)
    exact ⟨D, by simpa using h1, h2⟩
theorem rows_dp {K : PySem.W.Frag} {H : Hp} : ∀ (qs : List Addr) (n : Nat), (∀ (j : Nat) (q : Addr), qs[j]? = some q → H q = some (.lst [.int ((n + j : Nat) : Int)])) → DpAll K H (qs.map V.ref) ((List.range' n qs.length).map fun (j : Nat) => PyData.list [.int (j : Int)])
  | [], n, h => .nil
  | q :: r, n, h => by
    refine .cons (.lst (.inl (.inl (h 0 q rfl))) (.cons (.int _) .nil)) (rows_dp r (n + 1) fun j p e => ?_)
    have z := h (j + 1) p (by simpa using e)
    rw [show n + 1 + j = n + (j + 1) by omega]
    exact z
/-- j rows [0], [1] .. -/
def Rows (H : Hp) (qs : List Addr) : Prop := ∀ (j : Nat) (q : Addr), qs[j]? = some q → H q = some (.lst [.int (j : Int)])
theorem rows_snoc {H H' : Hp} {L p : Addr} {qs : List Addr} {acc : List V} (r : Rows H qs) (s : Same H H') (eL : H' L = some (.lst acc)) (nL : ∀ i : Int, acc ≠ [.int i]) (ep : H' p = some (.lst [.int (qs.length : Int)])) {o : HO} :
    Rows (upd H' L o) (qs ++ [p]) := fun j q e => by
  have key : H' q = some (.lst [.int (j : Int)]) := by
    by_cases h : j < qs.length
    · rw [List.getElem?_append_left h] at e
      exact s _ _ (r j q e)
    · rw [List.getElem?_append_right (by omega)] at e
      have hj : j - qs.length = 0 := by
        cases h0 : j - qs.length with
        | zero => rfl
        | succ n =>
          rw [h0] at e
          simp at e
      rw [hj] at e
      simp at e
      subst e
      have : j = qs.length := by omega
      rw [this]
      exact ep
  have ne : q ≠ L := fun z => by
    rw [z, eL] at key
    exact nL _ (HO.lst.inj (Option.some.inj key))
  rw [upd_ne ne]
  exact key
theorem refs_ne (qs : List Addr) (i : Int) : qs.map V.ref ≠ [V.int i] := by
  cases qs with
  | nil => intro z; cases z
  | cons q r => intro z; cases z
theorem same_upd {H0 H H' : Hp} {L : Addr} {o : HO} (s : Same H0 H) (s' : Same H H') (nL : H0 L = none) : Same H0 (upd H' L o) := fun b u e => by
  rw [upd_ne (fun z => by rw [z, nL] at e; cases e)]
  exact s' _ _ (s _ _ e)
abbrev NL : List Str := ["script", "pen", "a", "b", "c", "due", "told", "error", "k"]
theorem scL : FnScope NL ["script"] (defScope (top 32)) := ⟨rfl, rfl, rfl, by decide +kernel, rfl, by decide +kernel, by decide +kernel⟩
section
variable {P : Program} {w : World} {K : PySem.W.Frag} {mg : Str → Option Value} {base : Heap} {f : Addr} {fd : FuncData} {cA : Str → Addr}
/-- the defs that the law calls -/
structure LDef (P : Program) (w : World) (K : PySem.W.Frag) (mg : Str → Option Value) (base : Heap) (cA : Str → Addr) : Prop where
  pen : ∃ g fd, mg "_law_pen" = some (.ref g) ∧ PySem.W.keepIn K (.ref g) = true ∧ FnOk P w K mg base CX0 1 g fd ["script"] (spPen K) ∧ Binds K fd ["script"] []
  any : ∃ g fd, mg "_law_any" = some (.ref g) ∧ PySem.W.keepIn K (.ref g) = true ∧ FnOk P w K mg base CX0 3 g fd ["pen"] (spAny K) ∧ Binds K fd ["pen"] []
  bp : ∃ g fd, mg "_law_by_position" = some (.ref g) ∧ PySem.W.keepIn K (.ref g) = true ∧ FnOk P w K mg base CX0 3 g fd ["a", "b", "c"] spFields ∧ Binds K fd ["a", "b", "c"] []
  bn : ∃ g fd, mg "_law_by_name" = some (.ref g) ∧ PySem.W.keepIn K (.ref g) = true ∧ FnOk P w K mg base CX0 3 g fd ["a", "b", "c"] spFields ∧ Binds K fd ["a", "b", "c"] []
  am : ∃ g fd, mg "_law_all_made" = some (.ref g) ∧ PySem.W.keepIn K (.ref g) = true ∧ FnOk P w K mg base CX0 3 g fd ["a", "b", "c"] (spMade cA) ∧ Binds K fd ["a", "b", "c"] []
  so : ∃ g fd, mg "_law_sorts" = some (.ref g) ∧ PySem.W.keepIn K (.ref g) = true ∧ FnOk P w K mg base CX0 1 g fd ["error"] (spSorts cA) ∧ Binds K fd ["error"] []
  c : CDef K mg cA
  te : mg "TreesError" = some (.ref (cA "TreesError"))
  kT : ∀ i, i < 21 → PySem.W.kitOne K (.ref (cA (nm i))) (.ref (cA "TreesError")) = some true
  kV : ∀ i, i < 21 → PySem.W.kitOne K (.ref (cA (nm i))) (.type "ValueError") = some true
  gI : mg "isinstance" = none
  gR : mg "range" = none
  gP : mg "repr" = none
  gV : mg "ValueError" = none
  sys : ∃ o, K.lookup sysModules = some o
theorem law_body (D : LDef P w K mg base cA) {cdv : Value} {A : Around} {outer : List Env} {s : Shared} {H : Hp} {E : XK} (hr : Room 3 (A.deeper (envOfC "law" (defScope (top 32)) s.heap.objs.size f cdv))) (hg : A.guards = some [])
    {l0 : Addr} {ns : List Int} (hn : ns.length ≤ 63) (hSq : SqL K H l0 (ns.map V.int)) :
    ∃ t, PSs (cxOf CX0 P w K mg base NL "law" (defScope (top 32)) f cdv A outer s H E).nox (defBody (top 32)) t ∧ t { nx := fun _ H' => V.non = .bl true, rt := fun v _ => v = .bl true } (start NL [.ref l0]) H := by
  have hG : (A.deeper (envOfC "law" (defScope (top 32)) s.heap.objs.size f cdv)).guards = some [] := hg
  have hu := hr.units
  obtain ⟨pnA, pnD, png, pnk, pnF, pnb⟩ := D.pen
  obtain ⟨anA, anD, ang, ank, anF, anb⟩ := D.any
  obtain ⟨bpA, bpD, bpg, bpk, bpF, bpb⟩ := D.bp
  obtain ⟨bnA, bnD, bng, bnk, bnF, bnb⟩ := D.bn
  obtain ⟨amA, amD, amg, amk, amF, amb⟩ := D.am
  obtain ⟨soA, soD, sog, sok, soF, sob⟩ := D.so
  refine ⟨_, pss_cons (ps_set (i := 1) scL.nd rfl (Or.inl rfl) (pe_call pnF (hr.mono (by decide)) (by rfl) png pnk pnb .nil pass0 (pa_cons (pv 0) pa_nil)))
      (pss_cons (ps_par3 (i := 2) (j := 3) (l := 4) rfl scL.nd rfl rfl rfl (by decide) (by decide) (by decide) rfl rfl rfl (pa_cons (pe_call anF (hr.mono (by decide)) (by rfl) ang ank anb .nil pass0 (pa_cons (pv 1) pa_nil)) (pa_cons (pe_call anF (hr.mono (by decide)) (by rfl) ang ank anb .nil pass0 (pa_cons (pv 1) pa_nil)) (pa_cons (pe_call anF (hr.mono (by decide)) (by rfl) ang ank anb .nil pass0 (pa_cons (pv 1) pa_nil)) pa_nil))) rfl)
      (pss_cons (ps_set (i := 5) scL.nd rfl (Or.inl rfl) (pe_lst (pa_cons (pv 2) (pa_cons (pv 2) (pa_cons (pv 3) (pa_cons (pv 4) (pa_cons (pv 2) (pa_cons (pv 2) (pa_cons (pv 2) (pa_cons (pv 2) (pa_cons (pv 3) (pa_cons (pv 2) (pa_cons (pv 2) (pa_cons (pv 2) (pa_cons (pv 2) (pa_cons (pv 2) pa_nil))))))))))))))))
      (pss_cons (ps_set (i := 5) scL.nd rfl (Or.inl rfl) (pe_op op_cat (pv 5) (pe_lst (pa_cons (pv 2) (pa_cons (pv 2) (pa_cons (pv 2) (pa_cons (pv 2) (pa_cons (pv 3) (pa_cons (pv 2) (pa_cons (pv 2) (pa_cons (pv 2) pa_nil)))))))))))
      (pss_cons (ps_if (pw_or (pt_cmpR op_ne (pe_callB (call_rep hG hu D.sys) (by rfl) D.gP PyProof.Rows.boot_repr (pa_cons (pe_call bpF (hr.mono (by decide)) (by rfl) bpg bpk bpb .nil pass0 (pa_cons (pv 2) (pa_cons (pv 3) (pa_cons (pv 4) pa_nil)))) pa_nil)) (pe_callB (call_rep hG hu D.sys) (by rfl) D.gP PyProof.Rows.boot_repr (pa_cons (pv 5) pa_nil)) (nomark _)) (pw_or1 (pt_cmpR op_ne (pe_callB (call_rep hG hu D.sys) (by rfl) D.gP PyProof.Rows.boot_repr (pa_cons (pe_call bnF (hr.mono (by decide)) (by rfl) bng bnk bnb .nil pass0 (pa_cons (pv 2) (pa_cons (pv 3) (pa_cons (pv 4) pa_nil)))) pa_nil)) (pe_callB (call_rep hG hu D.sys) (by rfl) D.gP PyProof.Rows.boot_repr (pa_cons (pv 5) pa_nil)) (nomark _)))).pt (pss_one (ps_ret pe_bl)) pss_nil)
      (pss_cons (ps_set (i := 6) scL.nd rfl (Or.inl rfl) (pe_call amF (hr.mono (by decide)) (by rfl) amg amk amb .nil pass0 (pa_cons (pv 2) (pa_cons (pv 3) (pa_cons (pv 4) pa_nil)))))
      (pss_cons (ps_if (pt_cmpR (op_neD hu) (pe_lc (own := [("error", 7)]) (g := gName 7) (tt := tOr (tNot (tB (tCB (rIsx K) (tCons (tVar 7) (tCons (tC (V.ref (cA "TreesError"))) tNil))))) (tNot (tB (tCB (rIsx K) (tCons (tVar 7) (tCons (tC (V.ty "ValueError")) tNil)))))) (te := tVar 7) rfl scL.nd (pi_list (pv 6)) (blkOk_by (N := NL) (sc := defScope (top 32)) (by decide +kernel)) (fun _ _ _ _ _ => pg_name (i := 7) scL.nd rfl (Or.inl rfl)) (fun _ _ _ _ _ => pts_one (pw_or (pt_not (pt_val (pe_callB call_isx (by rfl) D.gI PyProof.Rows.boot_isinstance (pa_cons (pv 7) (pa_cons (pe_glob (v := V.ref (cA "TreesError")) (by rfl) D.te rfl) pa_nil))))) (pw_or1 (pt_not (pt_val (pe_callB call_isx (by rfl) D.gI PyProof.Rows.boot_isinstance (pa_cons (pv 7) (pa_cons (pe_bltn (v := V.ty "ValueError") (by rfl) D.gV boot_ValueError rfl) pa_nil))))))).pt) (fun _ _ _ _ _ => pv 7)) (pe_lst pa_nil) (nomark _)) (pss_one (ps_ret pe_bl)) pss_nil)
      (pss_one (ps_ret (pe_cmpR (op_eqD hu) (pe_lc (own := [("error", 7)]) (g := gName 7) (tt := tYes) (te := tCall (spSorts cA) [] E0 (tCons (tVar 7) tNil)) rfl scL.nd (pi_list (pv 6)) (blkOk_by (N := NL) (sc := defScope (top 32)) (by decide +kernel)) (fun _ _ _ _ _ => pg_name (i := 7) scL.nd rfl (Or.inl rfl)) (fun _ _ _ _ _ => pts_nil) (fun _ _ _ _ _ => (pe_call soF (hr.mono (by decide)) (by rfl) sog sok sob .nil pass0 (pa_cons (pv 7) pa_nil)))) (pe_lc (own := [("k", 8)]) (g := gName 8) (tt := tYes) (te := tLst (tCons (tVar 8) tNil)) rfl scL.nd (pi_range1 (by rfl) D.gR (pa_cons pe_int pa_nil)) (blkOk_by (N := NL) (sc := defScope (top 32)) (by decide +kernel)) (fun _ _ _ _ _ => pg_name (i := 8) scL.nd rfl (Or.inl rfl)) (fun _ _ _ _ _ => pts_nil) (fun _ _ _ _ _ => pe_lst (pa_cons (pv 8) pa_nil))) (nomark _)))))))))), ?_⟩
  -- pen = ..
  refine ⟨V.ref l0, rfl, l0, ns, rfl, hSq, hn, fun H1 p l s1 P1 => ?_⟩
  -- a, b, c = ..
  refine ⟨V.ref p, rfl, p, l, ns, 0, 0, rfl, P1, hn, by decide, by decide, by decide, fun H2 k2 f2 a x u1 u2 u3 s2 P2 dx mx => ?_⟩
  refine ⟨V.ref p, rfl, p, l, ns, k2, f2, rfl, P2, hn, u2, by omega, u3, fun H3 k3 f3 b y v1 v2 v3 s3 P3 dy my => ?_⟩
  refine ⟨V.ref p, rfl, p, l, ns, k3, f3, rfl, P3, hn, v2, by omega, v3, fun H4 k4 f4 c z w1 w2 w3 s4 P4 dz mz => ?_⟩
  refine ⟨a, b, c, rfl, ?_⟩
  have da := ((dx.mono s3).mono s4).de
  have db := (dy.mono s4).de
  have dc := dz.de
  -- due = ..
  dsimp only
  refine rd_list (zs := due1 a b c) (by show 14 ≤ 1000; decide) (fun R h => ⟨a, rfl, ⟨a, rfl, ⟨b, rfl, ⟨c, rfl, ⟨a, rfl, ⟨a, rfl, ⟨a, rfl, ⟨a, rfl, ⟨b, rfl, ⟨a, rfl, ⟨a, rfl, ⟨a, rfl, ⟨a, rfl, ⟨a, rfl, h⟩⟩⟩⟩⟩⟩⟩⟩⟩⟩⟩⟩⟩⟩) fun p5 H5 s5 e5 => ?_
  refine rd_cat (zs := due2 a b c) (l := p5) rfl e5 (by show 14 + 8 ≤ 1000; decide) (fun R h => ⟨a, rfl, ⟨a, rfl, ⟨a, rfl, ⟨a, rfl, ⟨b, rfl, ⟨a, rfl, ⟨a, rfl, ⟨a, rfl, h⟩⟩⟩⟩⟩⟩⟩⟩) fun p6 H6 s6 e6 => ?_
  have s46 := s5.trans s6
  have sl := due_sm mx my mz
  have all6 : ∀ {H' : Hp}, Same H6 H' → DeAll K H' (due1 a b c ++ due2 a b c) (dueD x y z) := fun {H'} s' => due_all (de_mono (s46.trans s') _ _ da) (de_mono (s46.trans s') _ _ db) (de_mono (s46.trans s') _ _ dc)
  -- the two tests of the fields
  refine ⟨a, rfl, b, rfl, c, rfl, a, b, c, rfl, fun H7 p7 s7 e7 => ?_⟩
  refine ⟨p7, .list (dueD x y z), rfl, De.lst e7 (all6 s7), sl.sh, sl.dp, sl.ln, V.ref p6, rfl, p6, .list (dueD x y z), rfl, De.lst (s7 _ _ e6) (all6 s7), sl.sh, sl.dp, sl.ln, rfl, _, rfl, ?_⟩
  refine iteNS rfl ?_
  refine ⟨a, rfl, b, rfl, c, rfl, a, b, c, rfl, fun H8 p8 s8 e8 => ?_⟩
  have s68 := s7.trans s8
  refine ⟨p8, .list (dueD x y z), rfl, De.lst e8 (all6 s68), sl.sh, sl.dp, sl.ln, V.ref p6, rfl, p6, .list (dueD x y z), rfl, De.lst (s68 _ _ e6) (all6 s68), sl.sh, sl.dp, sl.ln, rfl, _, rfl, ?_⟩
  refine iteNS rfl ?_
  -- told = ..
  refine ⟨a, rfl, b, rfl, c, rfl, a, b, c, rfl, fun H9 p9 es s9 e9 q9 => ?_⟩
  have lenE : es.length = 21 := q9.length
  have at9 : ∀ {H' : Hp} {t : Nat} {v : V}, Same H9 H' → (es.map V.ref)[t]? = some v → ∃ e, v = .ref e ∧ t < 21 ∧ ExAt H' e (cA (nm t)) := fun {H' t v} s' hv => by
    rw [List.getElem?_map] at hv
    cases he : es[t]? with
    | none =>
      rw [he] at hv
      cases hv
    | some e =>
      rw [he] at hv
      have ht : t < 21 := by
        have := (List.getElem?_eq_some_iff.mp he).1
        omega
      obtain ⟨Dt, h1, h2⟩ := exs_at q9 he
      refine ⟨e, (Option.some.inj hv).symm, ht, ?_⟩
      have h3 : Dt = cA (nm t) := by
        rw [List.getElem?_map] at h1
        have h4 : all21[t]? = some (nm t) := by
          unfold nm
          rw [List.getD_eq_getElem?_getD, List.getElem?_eq_getElem (show t < all21.length from ht)]
          all_goals rfl
        rw [h4] at h1
        exact (Option.some.inj h1).symm
      rw [← h3]
      exact h2.mono s'
  -- none of them is no TreesError, no ValueError
  refine ⟨V.ref p9, rfl, p9, rfl, ⟨_, .inl (.inl e9)⟩, fun L hL => ?_⟩
  refine lc_list (K := K) (a := p9) (xs := es.map V.ref) (fun t H' => Same H9 H' ∧ H' L = some (.lst [])) ⟨upd_new hL, upd_same⟩ (fun t H' _ q => q.1.seq (.inl (.inl e9))) ?_ ?_
  · rintro t v H' hv ⟨s', eL⟩
    obtain ⟨e, rfl, ht, ex⟩ := at9 s' hv
    refine ⟨rfl, ?_⟩
    refine ⟨.ref e, rfl, e, cA (nm t), _, _, true, rfl, .own _, D.c.cl t ht, ex, D.kT t ht, true, rfl, ?_⟩
    refine iteF ?_
    refine ⟨.ref e, rfl, e, cA (nm t), _, _, true, rfl, .ty _, D.c.cl t ht, ex, D.kV t ht, true, rfl, ?_⟩
    exact iteF ⟨s', eL⟩
  rintro H10 ⟨s10, eL⟩
  refine ⟨Nat.zero_le _, fun q hq => ⟨.list [], .list [], Dp.lst (.inl (.inl (upd_new hq _ _ eL))) .nil, Dp.lst (.inl (.inl upd_same)) .nil, by decide +kernel, by decide +kernel, _, rfl, ?_⟩⟩
  rw [show (!PyData.eqv (.list []) (.list [])) = false from by decide +kernel]
  refine iteF ?_
  have s11 : Same H9 (upd H10 q (.lst [])) := s10.trans (upd_new hq)
  generalize upd H10 q (.lst []) = H11 at s11
  -- each is of its own class alone
  refine ⟨V.ref p9, rfl, p9, rfl, ⟨_, .inl (.inl (s11 _ _ e9))⟩, fun M hM => ?_⟩
  refine lc_list (K := K) (a := p9) (xs := es.map V.ref) (fun t H' => Same H11 H' ∧ ∃ qs : List Addr, qs.length = t ∧ H' M = some (.lst (qs.map V.ref)) ∧ Rows H' qs) ⟨upd_new hM, [], rfl, upd_same, fun j q e => by simp at e⟩
    (fun t H' _ q => q.1.seq (.inl (.inl (s11 _ _ e9)))) ?_ ?_
  · rintro t v H' hv ⟨s', qs, hq, eM, rq⟩
    obtain ⟨e, rfl, ht, ex⟩ := at9 (s11.trans s') hv
    refine ⟨rfl, ?_⟩
    refine ⟨.ref e, rfl, e, t, rfl, ht, ex, fun H'' r s'' er => ?_⟩
    refine ⟨_, s'' _ _ eM, ?_, same_upd s' s'' hM, qs ++ [r], by rw [List.length_append, hq] <;> rfl, ?_, ?_⟩
    · rw [List.length_map, hq]
      exact small1000 (by omega)
    · rw [List.map_append]
      exact upd_same
    · exact rows_snoc rq s'' (s'' _ _ eM) (refs_ne qs) (by rw [hq]; exact er)
  rintro H12 ⟨s12, qs, hq, eM, rq⟩
  rw [List.length_map, lenE] at hq
  refine ⟨21, rfl, by decide, by decide, fun N hN => ?_⟩
  refine lc_range (lo := 0) (n := 21) (fun t H' => Same H12 H' ∧ ∃ rs : List Addr, rs.length = t ∧ H' N = some (.lst (rs.map V.ref)) ∧ Rows H' rs) ⟨upd_new hN, [], rfl, upd_same, fun j q e => by simp at e⟩ ?_ ?_
  · rintro t H' ht ⟨s', rs, hr', eN, rr⟩
    refine ⟨rfl, ?_⟩
    refine ⟨.int (0 + (t : Int)), rfl, (by show 1 ≤ sizeLine; decide), fun r hr1 => ?_⟩
    have sr : Same H' (upd H' r (.lst [.int (0 + (t : Int))])) := upd_new hr1
    refine ⟨_, sr _ _ eN, ?_, same_upd s' sr hN, rs ++ [r], by rw [List.length_append, hr'] <;> rfl, ?_, ?_⟩
    · rw [List.length_map, hr']
      exact small1000 (by omega)
    · rw [List.map_append]
      exact upd_same
    · refine rows_snoc rr sr (sr _ _ eN) (refs_ne rs) ?_
      rw [hr', upd_same, Int.zero_add]
  rintro H13 ⟨s13, rs, hr', eN, rr⟩
  have w1' : DpAll K H13 (qs.map V.ref) ((List.range' 0 21).map fun (j : Nat) => PyData.list [.int (j : Int)]) := by
    have z := rows_dp (K := K) (H := H13) qs 0 fun j q e => by
      rw [Nat.zero_add]
      exact s13 _ _ (rq j q e)
    rw [hq] at z
    exact z
  have w2' : DpAll K H13 (rs.map V.ref) ((List.range' 0 21).map fun (j : Nat) => PyData.list [.int (j : Int)]) := by
    have z := rows_dp (K := K) (H := H13) rs 0 fun j q e => by
      rw [Nat.zero_add]
      exact rr j q e
    rw [hr'] at z
    exact z
  refine ⟨.list ((List.range' 0 21).map fun (j : Nat) => PyData.list [.int (j : Int)]), .list ((List.range' 0 21).map fun (j : Nat) => PyData.list [.int (j : Int)]), Dp.lst (.inl (.inl (s13 _ _ eM))) w1', Dp.lst (.inl (.inl eN)) w2', by decide +kernel, by decide +kernel, ?_⟩
  show V.bl (PyData.eqv _ _) = .bl true
  rw [show PyData.eqv (.list ((List.range' 0 21).map fun (j : Nat) => PyData.list [.int (j : Int)])) (.list ((List.range' 0 21).map fun (j : Nat) => PyData.list [.int (j : Int)])) = true from by decide +kernel]
end
end K0
namespace K0
open PySem PySem.Spec PyProof.Rows L2
/-! ### the law is called where no repr is under way -/
section
variable {P : Program} {w : World} {K : PySem.W.Frag} {mg mb : Str → Option Value} {base : Heap} {fa a : Addr} {fd : FuncData} {s : Shared} {H : Hp} {vs : List Value} {ns : List Int} {cA : Str → Addr}
theorem run_law (F : Fun K "law" "law" (top 32) fa fd) (D : LDef P w K mg base cA) (e0 : Env0 P w K mg base PySem.callerA [] s H) (hS : SqL K H a (ns.map V.int)) (hn : ns.length ≤ 63) :
    codeAny (model P w) PySem.callerA (.call (.ref fa) ⟨[.ref a], []⟩) (CR CX0 [] P w H s (fun v _ => v = .bl true) E0) s := by
  obtain ⟨oc, od, kV, doc, pm, an, cdv, ct, osl, rfl, lk, hcd⟩ := F.ex
  have back : ∀ b o, base.get? b = some o → s.heap.get? b = some o := fun b o e => (e0.bs b o e).1
  have KX := e0.mod.kin.keeps back
  have room : Room 4 PySem.callerA := ⟨rfl, by decide, by decide⟩
  have bind : BindsTo s (PySem.W.fnOf "law" "law" (defArgs (top 32)) (defBody (top 32)) (defScope (top 32)) .none kV doc pm an cdv ct) ⟨[Value.ref a], []⟩ ((["script"] : List Str).zip [Value.ref a]) := .of_eq rfl
  refine codeAny_call_function room.depth (KX _ _ lk) rfl scL.co scL.gen rfl (PySem.W.codeRec_of KX hcd) (bind _ _ _ _ ?_)
  have kinds : ∀ y ∈ (["script"] : List Str).zip [Value.ref a], (defScope (top 32)).names.lookup y.1 = some .local ∨ ((defScope (top 32)).names.lookup y.1 = some .cell ∧ ((cellsFrom (s.heap.objs.size + 1) (defScope (top 32)).names []).lookup y.1).isSome = true) := fun y hy => by
    rcases scL.par y.1 (List.of_mem_zip (a := y.1) (b := y.2) hy).1 with q | q
    · exact .inl q
    · exact .inr ⟨q, PySem.W.cellsFrom_some _ _ _ (.inl q)⟩
  refine wpAny_newFunctionEnv_cells scL.kind kinds fun env he s1 x => ?_
  subst he
  refine ⟨(e0.mod.nolimit.keeps back).keeps x.toInCall.keep, codeAny_func ?_⟩
  obtain ⟨t, ht, hq⟩ := law_body (f := fa) (cdv := cdv) (A := PySem.callerA) (outer := []) (s := s) (H := H) (E := E0) D (room.deeper _) rfl hn hS
  have rv0 : Vals [V.ref a] [Value.ref a] := .cons rfl .nil
  have I := inv_start (CX := CX0) (E := E0) (vs := [V.ref a]) scL room.hd e0 rfl rv0 x
  refine wpAny_mono (ht.nox.run [] s1 _ H _ I hq) (fun fl s' h => ?_) fun e s' h => h
  cases fl with
  | ret u =>
    obtain ⟨v, σ', H', J, rv, q⟩ := h
    exact ⟨v, H', J.os, J.bare, J.base, J.hok, rv, q⟩
  | next =>
    obtain ⟨σ', H', J, q⟩ := h
    cases q
  | brk =>
    obtain ⟨_, _, _, q⟩ := h
    exact False.elim q
  | cont =>
    obtain ⟨_, _, _, q⟩ := h
    exact False.elim q
/-- what is told of the end of the call -/
abbrev EndOk (h : Heap) (os : OsState) (r : Result) (s' : Shared) : Prop := r = .ok (.ret (.bool true)) ∧ PySem.OldK h s'.heap ∧ s'.os = os ∧ AllBare s'.gens
theorem run_law2 (F : Fun K "law" "law" (top 32) fa fd) (D : ∀ base : Heap, K.In base → base.Ns mainGlobals mg → LDef P w K mg base cA) (KX : K.In s.heap) (hm : s.heap.Ns mainGlobals mg) (hb : s.heap.Ns builtinsNs mb) (hbb : ∀ x : Str, x ≠ "__name__" → mb x = bootBuiltins x)
    (hlim : s.heap.NoLimit) (hgens : s.gens = #[]) (ha : s.heap.get? a = some { cls := .type "list", data := .seq vs.toArray }) (hn : ns.length ≤ 63) (hS : SqL K H a (ns.map V.int)) (ok : HOk P w H s.heap)
    (hO : ∀ b, H b = none ∨ (b = a ∧ ∃ o xs, H b = some (.frz o (.lst xs)))) (hK : H a ≠ none → K.lookup a = none) :
    codeAny (model P w) PySem.callerA (.call (.ref fa) ⟨[.ref a], []⟩) (EndOk s.heap s.os) s := by
  have dicts : ∀ (b : Addr) (m : Str → Option Value), s.heap.Ns b m → (hidT s.heap H).Ns b m := fun b m ⟨o, es, ep, e, d, r⟩ => by
    refine ⟨o, es, ep, hidT_get e ?_, d, r⟩
    rcases hO b with z | ⟨z, _⟩
    · exact z
    · subst z
      rw [ha] at e
      have e' := Option.some.inj e
      subst e'
      cases d
  have Kb : K.In (hidT s.heap H) := fun b o e => by
    refine hidT_get (KX b o e) ?_
    rcases hO b with z | ⟨z, o', xs, q⟩
    · exact z
    · subst z
      rw [hK (by rw [q]; exact fun z => nomatch z)] at e
      cases e
  have M : Mod K mg (hidT s.heap H) := ⟨Kb, dicts _ _ hm, ⟨mb, dicts _ _ hb, hbb⟩, by
    obtain ⟨mc, h1, h2⟩ := hlim
    exact ⟨mc, dicts _ _ h1, h2⟩⟩
  have e0 : Env0 P w K mg (hidT s.heap H) PySem.callerA [] s H := ⟨rfl, M, fun b o e => of_hidT e, Nat.le_of_eq (hidT_size _ _), trivial, fun b z => (by cases z), ok, AllBare.of_eq hgens⟩
  refine codeAny_mono (run_law F (D _ Kb (dicts _ _ hm)) e0 hS hn) fun r s' h => ?_
  cases r with
  | error e => exact h.elim
  | ok fl =>
    cases fl with
    | next => exact False.elim h
    | brk => exact False.elim h
    | cont => exact False.elim h
    | ret u =>
      obtain ⟨v, H', os, bare, un, ok', rv, q⟩ := h
      have q' : v = .bl true := q
      subst q'
      obtain rfl : u = Value.bool true := rv
      refine ⟨rfl, PySem.OldK.of_keep fun b o e => ?_, os, bare⟩
      rcases hO b with z | ⟨_, ob, xs, z⟩
      · exact un.keep b o e z (fun z => (by cases z)) (fun z => (by cases z))
      · obtain ⟨f1, _⟩ := ok b _ z
        obtain ⟨f2, _⟩ := ok' b _ (un.frzs b ob _ z)
        rw [e] at f1
        cases f1
        exact f2
theorem run_law3 (F : Fun K "law" "law" (top 32) fa fd) (D : ∀ base : Heap, K.In base → base.Ns mainGlobals mg → LDef P w K mg base cA) (KX : K.In s.heap) (hm : s.heap.Ns mainGlobals mg) (hb : s.heap.Ns builtinsNs mb) (hbb : ∀ x : Str, x ≠ "__name__" → mb x = bootBuiltins x)
    (hlim : s.heap.NoLimit) (hgens : s.gens = #[]) (ha : s.heap.get? a = some { cls := .type "list", data := .seq vs.toArray }) (hi : IntsAre vs ns) (hn : ns.length ≤ 63) :
    codeAny (model P w) PySem.callerA (.call (.ref fa) ⟨[.ref a], []⟩) (EndOk s.heap s.os) s := by
  have rv := vals_ints hi
  have lv := hi.length
  have hz : ns.length ≤ sizeLine := Nat.le_of_lt (small1000 (by omega))
  by_cases hk : K.lookup a = none
  · let H0 : Hp := fun b => if b = a then some (.frz { cls := .type "list", data := .seq vs.toArray } (.lst (ns.map V.int))) else none
    have ea : H0 a = some (.frz { cls := .type "list", data := .seq vs.toArray } (.lst (ns.map V.int))) := if_pos rfl
    have en : ∀ b, b ≠ a → H0 b = none := fun b n => if_neg n
    refine run_law2 (H := H0) F D KX hm hb hbb hlim hgens ha hn (.inl (.inr ⟨_, ea⟩)) (fun b u q => ?_) (fun b => ?_) fun _ => hk
    · by_cases h : b = a
      · subst h
        rw [ea] at q
        cases q
        exact ⟨ha, by rw [List.length_map]; exact hz, vs, _, rv, ha⟩
      · rw [en b h] at q
        cases q
    · by_cases h : b = a
      · subst h
        exact .inr ⟨rfl, _, _, ea⟩
      · exact .inl (en b h)
  · obtain ⟨o, ho⟩ := Option.ne_none_iff_exists'.mp hk
    have e := KX a o ho
    rw [ha] at e
    cases e
    exact run_law2 (H := fun _ => none) F D KX hm hb hbb hlim hgens ha hn (.inr ⟨_, vs.toArray, _, ho, rfl, rfl, rfl, by rw [List.size_toArray, lv]; exact hz, by simpa using rv⟩) (fun b u q => (by cases q)) (fun b => .inl rfl) fun z => absurd rfl z
end
end K0
namespace K0
open PySem PySem.Spec PyProof.Rows L2
/-! ### what the top leaves, as one test -/
def clsB (K : PySem.W.Frag) (C : Addr) : Bool := match K.lookup C with
  | some ⟨.type "type", _, .cls cd, sl⟩ => (match cd.mro, sl.toList with
    | .ref D :: bm, [_, _, _, _, some (.builtin n), _] => decide (D = C) && (decide (n = "ValueError.__new__") && (!cd.hasDel && (cd.hasDict && PySem.HandSPX.refsVE bm)))
    | _, _ => false)
  | _ => false
theorem clsB_ok {K : PySem.W.Frag} {C : Addr} (h : clsB K C = true) : ∃ nm q N bs bm sn sub ab col dd k0 k1 k2 k3 k5, K.lookup C = some (excClassObj nm q C N bs bm true sn sub ab col dd k0 k1 k2 k3 k5 "ValueError.__new__") ∧ PySem.HandSPX.refsVE bm = true := by
  unfold clsB at h
  split at h
  · rename_i dd cd sl ho
    split at h
    · rename_i D bm k0 k1 k2 k3 n k5 hm hs
      simp only [Bool.and_eq_true, decide_eq_true_eq, Bool.not_eq_true'] at h
      obtain ⟨rfl, rfl, hdel, hd, hv⟩ := h
      obtain ⟨nm, bs, mro, ns, qn, hdc, sn, sub, ab, col, del⟩ := cd
      dsimp only at hm hdel hd
      subst hm hdel hd
      have e : sl = #[k0, k1, k2, k3, some (.builtin "ValueError.__new__"), k5] := by
        obtain ⟨l⟩ := sl
        simp only at hs
        rw [hs]
      subst e
      exact ⟨nm, qn, ns, bs, bm, sn, sub, ab, col, dd, k0, k1, k2, k3, k5, ho, hv⟩
    · cases h
  · cases h
def xB (K : PySem.W.Frag) (C : Addr) : Bool :=
  clsB K C && (decide (PySem.W.findIn K (.ref C) "__setattr__" = some (some (.builtin "object.__setattr__"))) && (decide (PySem.W.subIn K (.ref C) (.type "BaseException") = some true) && (decide (PySem.W.typeIn K (.ref C) = some (.type "type")) && (PySem.W.keepIn K (.ref C) &&
    (decide (PySem.W.findIn K (.ref C) "__getattribute__" = some (some (.builtin "BaseException.__getattribute__"))) && (decide (PySem.W.findIn K (.ref C) "__getattr__" = some none) && (PySem.W.hasDictIn K C && (decide (PySem.W.findIn K (.ref C) "__class__" = some (some (.builtin "object.__class__"))) &&
      (decide (PySem.W.specialIn K (.builtin "object.__class__") "__get__" = some (some (.builtin "getset_descriptor.__get__"))) && (decide (PySem.W.takesIn K (.builtin "object.__class__") = some true) && decide (PySem.W.mroIn K C (.type "object") = some true)))))))))))
theorem xB_ok {K : PySem.W.Frag} {C : Addr} (h : xB K C = true) : XCl K C := by
  simp only [xB, Bool.and_eq_true, decide_eq_true_eq] at h
  obtain ⟨h1, h2, h3, h4, h5, h6, h7, h8, h9, h10, h11, h12⟩ := h
  exact ⟨⟨clsB_ok h1, h2, h3, h4, h5⟩, h6, h7, h8, h9, h10, h11, h12⟩
def iniB (K : PySem.W.Frag) (x : Str) (fs : List Str) : Bool :=
  decide (PySem.W.findIn K (.ref (He.ga K x)) "__init__" = some (some (.ref (He.ma K (He.ga K x) "__init__")))) && (decide (PySem.W.typeIn K (.ref (He.ma K (He.ga K x) "__init__")) = some (.type "function")) && fs.all fun n => decide (PySem.W.findIn K (.ref (He.ga K x)) n = some none))
def gloB (K : PySem.W.Frag) (x : Str) : Bool := decide (PySem.W.nsIn K mainGlobals x = some (some (.ref (He.ga K x))))
def frB (K : PySem.W.Frag) (x : Str) : Bool := decide (PySem.W.nsIn K mainGlobals x = some none)
def kitB1 (K : PySem.W.Frag) (i j : Nat) : Bool := decide (PySem.W.kitOne K (.ref (He.ga K (nm i))) (.ref (He.ga K (nm j))) = some (decide (i = j)))
def kitB2 (K : PySem.W.Frag) (i : Nat) : Bool := decide (PySem.W.kitOne K (.ref (He.ga K (nm i))) (.ref (He.ga K "TreesError")) = some true) && decide (PySem.W.kitOne K (.ref (He.ga K (nm i))) (.type "ValueError") = some true)
def lawNames : List Str := ["_law_pen", "_law_draw", "_law_pick", "_law_any", "_law_by_position", "_law_by_name", "_law_all_made", "_law_sorts", "law"]
def frees : List Str := ["isinstance", "range", "repr", "ValueError", "list", "int", "len", "abs"]
structure AllOk (K : PySem.W.Frag) : Prop where
  sys : (K.lookup sysModules).isSome = true
  cls : all21.all (fun x => gloB K x && xB K (He.ga K x)) = true
  ini : tab.all (fun q => iniB K q.1 q.2) = true
  exc : (["NotExact", "NoPut", "BadOver"] : List Str).all (fun x => PySem.W.excIn K (He.ga K x) He.veBase "ValueError.__new__") = true
  kit : (List.range 21).all (fun i => kitB2 K i && (List.range 21).all fun j => kitB1 K i j) = true
  glo : (("TreesError" : Str) :: lawNames).all (gloB K) = true
  fre : frees.all (frB K) = true
def allB (K : PySem.W.Frag) : Bool := (K.lookup sysModules).isSome && (all21.all (fun x => gloB K x && xB K (He.ga K x)) && (tab.all (fun q => iniB K q.1 q.2) && ((["NotExact", "NoPut", "BadOver"] : List Str).all (fun x => PySem.W.excIn K (He.ga K x) He.veBase "ValueError.__new__") &&
  ((List.range 21).all (fun i => kitB2 K i && (List.range 21).all fun j => kitB1 K i j) && ((("TreesError" : Str) :: lawNames).all (gloB K) && frees.all (frB K))))))
theorem allB_ok {K : PySem.W.Frag} (h : allB K = true) : AllOk K := by
  unfold allB at h
  rw [Bool.and_eq_true, Bool.and_eq_true, Bool.and_eq_true, Bool.and_eq_true, Bool.and_eq_true, Bool.and_eq_true] at h
  obtain ⟨h1, h2, h3, h4, h5, h6, h7⟩ := h
  exact ⟨h1, h2, h3, h4, h5, h6, h7⟩
/-! ### the defs -/
def iniD (x q : Str) (st : Stmt) : He.DefD := ⟨(x, some "__init__"), "__init__", q, defArgs st, defBody st, defScope st, [], []⟩
def lawD (x : Str) (st : Stmt) : He.DefD := ⟨(x, none), x, x, defArgs st, defBody st, defScope st, [], []⟩
def fns : List He.DefD := [iniD "BadLetters" "BadLetters.__init__" (inClass (top 2) 0), iniD "TooMany" "TooMany.__init__" (inClass (top 3) 0), iniD "BadRow" "BadRow.__init__" (inClass (top 4) 0), iniD "Lone" "Lone.__init__" (inClass (top 5) 0), iniD "NoPlace" "NoPlace.__init__" (inClass (top 6) 0), iniD "BadKind" "BadKind.__init__" (inClass (top 7) 0), iniD "BadName" "BadName.__init__" (inClass (top 8) 0), iniD "BadWord" "BadWord.__init__" (inClass (top 9) 0), iniD "BadSize" "BadSize.__init__" (inClass (top 11) 0), iniD "BadWish" "BadWish.__init__" (inClass (top 12) 0), iniD "BadRule" "BadRule.__init__" (inClass (top 13) 0), iniD "Ring" "Ring.__init__" (inClass (top 14) 0), iniD "NoRule" "NoRule.__init__" (inClass (top 15) 0), iniD "BadRank" "BadRank.__init__" (inClass (top 16) 0), iniD "BadStatement" "BadStatement.__init__" (inClass (top 17) 0), iniD "BadText" "BadText.__init__" (inClass (top 18) 0), iniD "BadOrder" "BadOrder.__init__" (inClass (top 19) 0), iniD "BadLock" "BadLock.__init__" (inClass (top 20) 0), lawD "_law_pen" (top 24), lawD "_law_draw" (top 25), lawD "_law_pick" (top 26), lawD "_law_any" (top 27), lawD "_law_by_position" (top 28), lawD "_law_by_name" (top 29), lawD "_law_all_made" (top 30), lawD "_law_sorts" (top 31), lawD "law" (top 32)]
def KK (g : Addr → Option Obj) : PySem.W.Frag := He.frG g (sysModules :: He.asG g 5)
abbrev Al : Type := Bool × List He.FnW
def obsK (g : Addr → Option Obj) : Al := (allB (KK g) && fns.all fun d => d.ok (KK g), fns.map fun d => He.fnW (KK g) d.at_)
def valK : Al := (true, fns.map He.DefD.val)
structure Says (K : PySem.W.Frag) : Prop where
  all : AllOk K
  ok : ∀ d ∈ fns, d.ok K = true
  fn : fns.map (fun d => He.fnW K d.at_) = fns.map He.DefD.val
theorem says_of {g : Addr → Option Obj} (e : obsK g = valK) : Says (KK g) := by
  have h1 : (allB (KK g) && fns.all fun d => d.ok (KK g)) = true := congrArg (fun z : Al => z.1) e
  rw [Bool.and_eq_true] at h1
  exact ⟨allB_ok h1.1, fun d hd => List.all_eq_true.mp h1.2 d hd, congrArg (fun z : Al => z.2) e⟩
def hk : PySem.W.Hook where
  α := Al
  obs := fun s => obsK s.heap.get?
  val := fun _ => valK
  says := fun _ h => ∃ K : PySem.W.Frag, K.In h ∧ Says K
  of := fun _ _ e => ⟨_, He.frG_in, says_of e⟩
  keeps := fun _ _ _ ⟨K, hK, c⟩ k => ⟨K, PySem.W.Frag.In.keeps hK k, c⟩
def ob (s : PySem.W.SharedT) : Al := obsK (HandSHeadRun.getT s)
theorem ob_eq (s : PySem.W.SharedT) : ob s = hk.obs s.abs := by
  have e : HandSHeadRun.getT s = s.abs.heap.get? := funext (HandSHeadRun.getT_eq s)
  show obsK _ = obsK _
  rw [e]
section
variable {K : PySem.W.Frag}
theorem Says.fun_ (c : Says K) (i : Nat) {d : He.DefD} {st : Stmt} (h : fns[i]? = some d) (hp : d.params = defArgs st) (hb : d.body = defBody st) (hs : d.scope = defScope st) (hd : d.dfl = []) : ∃ fd, Fun K d.name d.qual st (He.fAd K d.at_) fd := by
  have e2 : (fns.map fun d => He.fnW K d.at_)[i]? = (fns.map He.DefD.val)[i]? := by rw [c.fn]
  rw [List.getElem?_map, List.getElem?_map, h] at e2
  obtain ⟨fd, F⟩ := He.DefD.funD (Option.some.inj e2) (c.ok d (List.mem_of_getElem? h))
  obtain ⟨oc, od, dV, kV, doc, pm, an, cdv, ct, osl, e, lk, hcd, hD, _⟩ := F.ex
  have hdv : d.dvs K = [] := by
    unfold He.DefD.dvs
    rw [hd]
    rfl
  have e3 : dV = .none := by
    rcases hD with ⟨_, z⟩ | ⟨z, _⟩
    · exact z
    · exact absurd hdv z
  subst e3
  refine ⟨fd, ⟨oc, od, kV, doc, pm, an, cdv, ct, osl, ?_, lk, hcd⟩, F.kp⟩
  rw [e, hp, hb, hs]
theorem mem21 {i : Nat} (h : i < 21) : nm i ∈ all21 := by
  unfold nm
  rw [List.getD_eq_getElem?_getD, List.getElem?_eq_getElem (show i < all21.length from h)]
  exact List.getElem_mem _
end
end K0
namespace K0
open PySem PySem.Spec PyProof.Rows L2
abbrev RR : PySem.W.OpenRow := PySem.W.OpenLaw.row PySem.Challenge.rw_lettertrees_k00_errors
def names : List Str := ["TreesError", "BadLetters", "TooMany", "BadRow", "Lone", "NoPlace", "BadKind", "BadName", "BadWord", "NotExact", "BadSize", "BadWish", "BadRule", "Ring", "NoRule", "BadRank", "BadStatement", "BadText", "BadOrder", "BadLock", "NoPut", "BadOver", "_law_pen", "_law_draw", "_law_pick", "_law_any", "_law_by_position", "_law_by_name", "_law_all_made", "_law_sorts"]
theorem run (w : World) : HandSHeadRun.RunEq RR (PySem.W.view RR.prog [32]) hk ob 9000 names w := by
  intro os
  kernel_rfl
end K0
namespace K0
open PySem PySem.Spec PyProof.Rows L2
section
variable {P : Program} {w : World} {K : PySem.W.Frag} {mg : Str → Option Value} {base : Heap}
theorem lib (c : Says K) (Kb : K.In base) (hm : base.Ns mainGlobals mg) : LDef P w K mg base (He.ga K) := by
  have gl : ∀ x, gloB K x = true → mg x = some (.ref (He.ga K x)) := fun x h => PySem.W.mg_of Kb hm (of_decide_eq_true h)
  have gT : ∀ x, x ∈ (("TreesError" : Str) :: lawNames) → mg x = some (.ref (He.ga K x)) := fun x h => gl x (List.all_eq_true.mp c.all.glo x h)
  have fr : ∀ x, x ∈ frees → mg x = none := fun x h => PySem.W.mg_none_of Kb hm (of_decide_eq_true (List.all_eq_true.mp c.all.fre x h))
  have cl : ∀ x, x ∈ all21 → mg x = some (.ref (He.ga K x)) ∧ XCl K (He.ga K x) := fun x h => by
    have z := List.all_eq_true.mp c.all.cls x h
    rw [Bool.and_eq_true] at z
    exact ⟨gl x z.1, xB_ok z.2⟩
  have ini : ∀ x fs, (x, fs) ∈ tab → PySem.W.findIn K (.ref (He.ga K x)) "__init__" = some (some (.ref (He.ma K (He.ga K x) "__init__"))) ∧ PySem.W.typeIn K (.ref (He.ma K (He.ga K x) "__init__")) = some (.type "function") ∧
      ∀ n ∈ fs, PySem.W.findIn K (.ref (He.ga K x)) n = some none := fun x fs h => by
    have z := List.all_eq_true.mp c.all.ini (x, fs) h
    unfold iniB at z
    rw [Bool.and_eq_true, Bool.and_eq_true] at z
    exact ⟨of_decide_eq_true z.1, of_decide_eq_true z.2.1, fun n hn => of_decide_eq_true (List.all_eq_true.mp z.2.2 n hn)⟩
  have kk : ∀ i, i < 21 → kitB2 K i = true ∧ ∀ j, j < 21 → kitB1 K i j = true := fun i hi => by
    have z := List.all_eq_true.mp c.all.kit i (List.mem_range.mpr hi)
    rw [Bool.and_eq_true] at z
    exact ⟨z.1, fun j hj => List.all_eq_true.mp z.2 j (List.mem_range.mpr hj)⟩
  have CD : CDef K mg (He.ga K) := ⟨fun i hi => (cl _ (mem21 hi)).2, fun i hi => (cl _ (mem21 hi)).1, fun i j hi hj => of_decide_eq_true ((kk i hi).2 j hj)⟩
  have YD : ∀ x, x ∈ (["NotExact", "NoPut", "BadOver"] : List Str) → YDef K mg x (He.ga K x) := fun x h => by
    have hx : x ∈ all21 := by
      simp only [List.mem_cons, List.mem_nil_iff, or_false] at h
      rcases h with rfl | rfl | rfl
      · decide +kernel
      · decide +kernel
      · decide +kernel
    exact ⟨(cl x hx).2, (cl x hx).1, List.all_eq_true.mp c.all.exc x h⟩
  have XD : ∀ x fs, (x, fs) ∈ tab → XDef P w K mg base x (He.ga K x) fs := fun x fs h => by
    have h0 := h
    simp only [tab, List.mem_cons, List.mem_nil_iff, or_false, Prod.mk.injEq] at h
    have hx : x ∈ all21 := by
      rcases h with ⟨rfl, rfl⟩ | ⟨rfl, rfl⟩ | ⟨rfl, rfl⟩ | ⟨rfl, rfl⟩ | ⟨rfl, rfl⟩ | ⟨rfl, rfl⟩ | ⟨rfl, rfl⟩ | ⟨rfl, rfl⟩ | ⟨rfl, rfl⟩ | ⟨rfl, rfl⟩ | ⟨rfl, rfl⟩ | ⟨rfl, rfl⟩ | ⟨rfl, rfl⟩ | ⟨rfl, rfl⟩ | ⟨rfl, rfl⟩ | ⟨rfl, rfl⟩ | ⟨rfl, rfl⟩ | ⟨rfl, rfl⟩
      all_goals decide +kernel
    obtain ⟨cx, xx⟩ := cl x hx
    obtain ⟨i1, i2, i3⟩ := ini x fs h0
    rcases h with ⟨rfl, rfl⟩ | ⟨rfl, rfl⟩ | ⟨rfl, rfl⟩ | ⟨rfl, rfl⟩ | ⟨rfl, rfl⟩ | ⟨rfl, rfl⟩ | ⟨rfl, rfl⟩ | ⟨rfl, rfl⟩ | ⟨rfl, rfl⟩ | ⟨rfl, rfl⟩ | ⟨rfl, rfl⟩ | ⟨rfl, rfl⟩ | ⟨rfl, rfl⟩ | ⟨rfl, rfl⟩ | ⟨rfl, rfl⟩ | ⟨rfl, rfl⟩ | ⟨rfl, rfl⟩ | ⟨rfl, rfl⟩
    · obtain ⟨fd, F⟩ := c.fun_ 0 (d := iniD "BadLetters" "BadLetters.__init__" (inClass (top 2) 0)) (st := inClass (top 2) 0) rfl rfl rfl rfl rfl
      exact def_BadLetters F xx cx i1 i2 i3
    · obtain ⟨fd, F⟩ := c.fun_ 1 (d := iniD "TooMany" "TooMany.__init__" (inClass (top 3) 0)) (st := inClass (top 3) 0) rfl rfl rfl rfl rfl
      exact def_TooMany F xx cx i1 i2 i3
    · obtain ⟨fd, F⟩ := c.fun_ 2 (d := iniD "BadRow" "BadRow.__init__" (inClass (top 4) 0)) (st := inClass (top 4) 0) rfl rfl rfl rfl rfl
      exact def_BadRow F xx cx i1 i2 i3
    · obtain ⟨fd, F⟩ := c.fun_ 3 (d := iniD "Lone" "Lone.__init__" (inClass (top 5) 0)) (st := inClass (top 5) 0) rfl rfl rfl rfl rfl
      exact def_Lone F xx cx i1 i2 i3
    · obtain ⟨fd, F⟩ := c.fun_ 4 (d := iniD "NoPlace" "NoPlace.__init__" (inClass (top 6) 0)) (st := inClass (top 6) 0) rfl rfl rfl rfl rfl
      exact def_NoPlace F xx cx i1 i2 i3
    · obtain ⟨fd, F⟩ := c.fun_ 5 (d := iniD "BadKind" "BadKind.__init__" (inClass (top 7) 0)) (st := inClass (top 7) 0) rfl rfl rfl rfl rfl
      exact def_BadKind F xx cx i1 i2 i3
    · obtain ⟨fd, F⟩ := c.fun_ 6 (d := iniD "BadName" "BadName.__init__" (inClass (top 8) 0)) (st := inClass (top 8) 0) rfl rfl rfl rfl rfl
      exact def_BadName F xx cx i1 i2 i3
    · obtain ⟨fd, F⟩ := c.fun_ 7 (d := iniD "BadWord" "BadWord.__init__" (inClass (top 9) 0)) (st := inClass (top 9) 0) rfl rfl rfl rfl rfl
      exact def_BadWord F xx cx i1 i2 i3
    · obtain ⟨fd, F⟩ := c.fun_ 8 (d := iniD "BadSize" "BadSize.__init__" (inClass (top 11) 0)) (st := inClass (top 11) 0) rfl rfl rfl rfl rfl
      exact def_BadSize F xx cx i1 i2 i3
    · obtain ⟨fd, F⟩ := c.fun_ 9 (d := iniD "BadWish" "BadWish.__init__" (inClass (top 12) 0)) (st := inClass (top 12) 0) rfl rfl rfl rfl rfl
      exact def_BadWish F xx cx i1 i2 i3
    · obtain ⟨fd, F⟩ := c.fun_ 10 (d := iniD "BadRule" "BadRule.__init__" (inClass (top 13) 0)) (st := inClass (top 13) 0) rfl rfl rfl rfl rfl
      exact def_BadRule F xx cx i1 i2 i3
    · obtain ⟨fd, F⟩ := c.fun_ 11 (d := iniD "Ring" "Ring.__init__" (inClass (top 14) 0)) (st := inClass (top 14) 0) rfl rfl rfl rfl rfl
      exact def_Ring F xx cx i1 i2 i3
    · obtain ⟨fd, F⟩ := c.fun_ 12 (d := iniD "NoRule" "NoRule.__init__" (inClass (top 15) 0)) (st := inClass (top 15) 0) rfl rfl rfl rfl rfl
      exact def_NoRule F xx cx i1 i2 i3
    · obtain ⟨fd, F⟩ := c.fun_ 13 (d := iniD "BadRank" "BadRank.__init__" (inClass (top 16) 0)) (st := inClass (top 16) 0) rfl rfl rfl rfl rfl
      exact def_BadRank F xx cx i1 i2 i3
    · obtain ⟨fd, F⟩ := c.fun_ 14 (d := iniD "BadStatement" "BadStatement.__init__" (inClass (top 17) 0)) (st := inClass (top 17) 0) rfl rfl rfl rfl rfl
      exact def_BadStatement F xx cx i1 i2 i3
    · obtain ⟨fd, F⟩ := c.fun_ 15 (d := iniD "BadText" "BadText.__init__" (inClass (top 18) 0)) (st := inClass (top 18) 0) rfl rfl rfl rfl rfl
      exact def_BadText F xx cx i1 i2 i3
    · obtain ⟨fd, F⟩ := c.fun_ 16 (d := iniD "BadOrder" "BadOrder.__init__" (inClass (top 19) 0)) (st := inClass (top 19) 0) rfl rfl rfl rfl rfl
      exact def_BadOrder F xx cx i1 i2 i3
    · obtain ⟨fd, F⟩ := c.fun_ 17 (d := iniD "BadLock" "BadLock.__init__" (inClass (top 20) 0)) (st := inClass (top 20) 0) rfl rfl rfl rfl rfl
      exact def_BadLock F xx cx i1 i2 i3
  obtain ⟨pnd, pnF⟩ := c.fun_ 18 (d := lawD "_law_pen" (top 24)) (st := top 24) rfl rfl rfl rfl rfl
  have pnb : Binds K pnd ["script"] [] := Fun.binds pnF fun _ _ _ _ _ _ us hl => match us, hl with | [_], _ => rfl
  have png := gT "_law_pen" (by decide +kernel)
  obtain ⟨drd, drF⟩ := c.fun_ 19 (d := lawD "_law_draw" (top 25)) (st := top 25) rfl rfl rfl rfl rfl
  have drb : Binds K drd ["pen", "base"] [] := Fun.binds drF fun _ _ _ _ _ _ us hl => match us, hl with | [_, _], _ => rfl
  have drg := gT "_law_draw" (by decide +kernel)
  obtain ⟨pkd, pkF⟩ := c.fun_ 20 (d := lawD "_law_pick" (top 26)) (st := top 26) rfl rfl rfl rfl rfl
  have pkb : Binds K pkd ["pen", "some"] [] := Fun.binds pkF fun _ _ _ _ _ _ us hl => match us, hl with | [_, _], _ => rfl
  have pkg := gT "_law_pick" (by decide +kernel)
  obtain ⟨and, anF⟩ := c.fun_ 21 (d := lawD "_law_any" (top 27)) (st := top 27) rfl rfl rfl rfl rfl
  have anb : Binds K and ["pen"] [] := Fun.binds anF fun _ _ _ _ _ _ us hl => match us, hl with | [_], _ => rfl
  have ang := gT "_law_any" (by decide +kernel)
  obtain ⟨bpd, bpF⟩ := c.fun_ 22 (d := lawD "_law_by_position" (top 28)) (st := top 28) rfl rfl rfl rfl rfl
  have bpb : Binds K bpd ["a", "b", "c"] [] := Fun.binds bpF fun _ _ _ _ _ _ us hl => match us, hl with | [_, _, _], _ => rfl
  have bpg := gT "_law_by_position" (by decide +kernel)
  obtain ⟨bnd, bnF⟩ := c.fun_ 23 (d := lawD "_law_by_name" (top 29)) (st := top 29) rfl rfl rfl rfl rfl
  have bnb : Binds K bnd ["a", "b", "c"] [] := Fun.binds bnF fun _ _ _ _ _ _ us hl => match us, hl with | [_, _, _], _ => rfl
  have bng := gT "_law_by_name" (by decide +kernel)
  obtain ⟨amd, amF⟩ := c.fun_ 24 (d := lawD "_law_all_made" (top 30)) (st := top 30) rfl rfl rfl rfl rfl
  have amb : Binds K amd ["a", "b", "c"] [] := Fun.binds amF fun _ _ _ _ _ _ us hl => match us, hl with | [_, _, _], _ => rfl
  have amg := gT "_law_all_made" (by decide +kernel)
  obtain ⟨sod, soF⟩ := c.fun_ 25 (d := lawD "_law_sorts" (top 31)) (st := top 31) rfl rfl rfl rfl rfl
  have sob : Binds K sod ["error"] [] := Fun.binds soF fun _ _ _ _ _ _ us hl => match us, hl with | [_], _ => rfl
  have sog := gT "_law_sorts" (by decide +kernel)
  have pnG := ok_pen (P := P) (w := w) (base := base) pnF (fr "list" (by decide +kernel))
  have drG := ok_draw (P := P) (w := w) (base := base) drF (fr "int" (by decide +kernel)) (fr "len" (by decide +kernel)) (fr "abs" (by decide +kernel))
  have pkG := ok_pick (P := P) (w := w) (base := base) pkF (fr "len" (by decide +kernel)) drg drF.kp drG drb
  have anG := ok_any (P := P) (w := w) (base := base) anF drg drF.kp drG drb pkg pkF.kp pkG pkb
  have bpG := ok_bp bpF XD
  have bnG := ok_bn bnF XD
  have amG := ok_am amF XD YD
  have soG := ok_so (P := P) (w := w) (base := base) soF CD (fr "isinstance" (by decide +kernel)) (fr "len" (by decide +kernel)) (fr "range" (by decide +kernel))
  exact {
    pen := ⟨_, _, png, pnF.kp, pnG, pnb⟩
    any := ⟨_, _, ang, anF.kp, anG, anb⟩
    bp := ⟨_, _, bpg, bpF.kp, bpG, bpb⟩
    bn := ⟨_, _, bng, bnF.kp, bnG, bnb⟩
    am := ⟨_, _, amg, amF.kp, amG, amb⟩
    so := ⟨_, _, sog, soF.kp, soG, sob⟩
    c := CD
    te := gT "TreesError" (by decide +kernel)
    kT := fun i hi => by
      have z := (kk i hi).1
      unfold kitB2 at z
      rw [Bool.and_eq_true] at z
      exact of_decide_eq_true z.1
    kV := fun i hi => by
      have z := (kk i hi).1
      unfold kitB2 at z
      rw [Bool.and_eq_true] at z
      exact of_decide_eq_true z.2
    gI := (fr "isinstance" (by decide +kernel))
    gR := (fr "range" (by decide +kernel))
    gP := (fr "repr" (by decide +kernel))
    gV := (fr "ValueError" (by decide +kernel))
    sys := Option.isSome_iff_exists.mp c.all.sys }
end
end K0
open PySem PySem.W PySem.Calls PyProof.Rows
theorem PySem.Challenge.cw_lettertrees_k00_errors_holds : PySem.Challenge.rw_lettertrees_k00_errors.Holds := by
  w_on; o_law
  refine HandSHeadRun.head_any (r := K0.RR) (q := view K0.RR.prog [32]) (H := K0.hk) (ob := K0.ob) (M := 9000) (loose := K0.names) (d := HandSHeadRun.topDef K0.RR.prog 32) (kwd := []) K0.ob_eq
    (by kernel_rfl) (fun s => by kernel_rfl) K0.run (by kernel_rfl) (by kernel_rfl) (by kernel_rfl) (by rfl) (by first | assumption | decide +kernel) (by decide +kernel) ⟨rfl, rfl, rfl, rfl, rfl, by decide +kernel⟩ ?hw ?hc
  case hw => w_witness2
  case hc =>
    refine Att.attach_call (l := PySem.Challenge.rw_lettertrees_k00_errors) (n := 63) rfl (by kernel_rfl) fun w s₀ s₁ mg mb fa o pm cd doc a vs ns G Y ho hd hcd hmg hobj hints hlen hg => ?_
    obtain ⟨K, KX, c⟩ := Y
    have hl := PySem.W.mg_of KX G.T.g (of_decide_eq_true (List.all_eq_true.mp c.all.glo "law" (by decide +kernel)))
    have hmg' : mg ("law" : PySem.Str) = some (.ref fa) := by
      have e : (HandSHeadRun.topDef K0.RR.prog 32).name = ("law" : PySem.Str) := by kernel_rfl
      rw [← e]
      exact hmg
    rw [hmg'] at hl
    obtain ⟨fd, F⟩ := c.fun_ 26 (d := K0.lawD "law" (K0.top 32)) (st := K0.top 32) rfl rfl rfl rfl rfl
    have ef : He.fAd K ("law", none) = fa := (Value.ref.inj (Option.some.inj hl)).symm
    exact K0.run_law3 (K := K) (mg := mg) (mb := mb) (cA := He.ga K) (ef ▸ F) (fun base Kb hm => K0.lib c Kb hm) KX G.T.g G.T.b G.T.builtins G.T.nolimit hg hobj hints hlen
