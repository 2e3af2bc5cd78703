import PyProof.Rows.All
import Wide.All
import OpenK.AllK
import Wide.FinOn
import HandS.ForMost
import HandS.Exc
import HandS.ExcOwn
import HandS.ExcInit
import HandS.ExcIs
import HandS.ExcValue
import HandS.FStr
import HandS.IsInst
import HandS.Defaults
import HandS.ExcField
import PyProof.FString2
import HandS.Lambda
import HandS.EndTab
import HandS.EndBits
import PyProof.ReprRoads
import HandS.Walk
import HandS.DictComp
import HandS.ForDict
import HandS.WordsExc
import HandS.Finally
import PySem.Challenge.RW_oneuseheads_k15_ends_of_kinds
import HandS.Conv
set_option Elab.async false
set_option linter.all false
set_option maxRecDepth 100000
set_option maxHeartbeats 4000000
namespace MyX
open PySem PySem.W PySem.HandSPX
section
variable {M : Model} {A : Around} {E : Value → Shared → Prop} {h : Heap} {g : Array GenState} {d : Drawn} {t : Nat} {os : OsState} {prog : Program} {w : World} {R : Result → Shared → Prop}
  {nm q : Str} {C N : Addr} {bs bm bmB : List Value} {hdct : Bool} {sn : List Str} {sub : List Value} {ab : Bool} {col : Option Bool} {dd : Option Addr} {k0 k1 k2 k3 k5 : Option Value} {B newId initId : String}
  {kw : List (Str × Value)}
theorem chk_new (F : ExcBaseFacts B newId initId bmB) (hT : ∀ X : String, bm.contains (.type X) = bmB.contains (.type X)) {Q : Unit → Shared → Prop}
    (hC : h.get? C = some (excClassObj nm q C N bs bm hdct sn sub ab col dd k0 k1 k2 k3 k5 newId)) (hq : Q () ⟨h, g, d, t, os⟩) :
    wpAny M A (checkBuiltinCall newId ⟨[.ref C], kw⟩) Q E ⟨h, g, d, t, os⟩ := by
  have c1 : (Value.ref C :: bm).contains (.type B) = true := by rw [List.contains_cons, hT, F.hasB, Bool.or_true]
  have c2 := F.noStar
  simp only [checkBuiltinCall, F.newKind, F.newSplit, F.newRow]
  repeat (first
    | refine wpAny_loadPart_at hC ?_
    | (refine wpAny_isSubtype_exc hC ?_; rw [c1])
    | refine wpAny_staticBase_exc hC ?_
    | refine wpAny_madeBy_exc hC ?_
    | simp only [bne_self_eq_false, Bool.false_eq_true, if_false]
    | wp_step)
  exact hq

theorem run_new (F : ExcBaseFacts B newId initId bmB) (hT : ∀ X : String, bm.contains (.type X) = bmB.contains (.type X))
    (hC : h.get? C = some (excClassObj nm q C N bs bm hdct sn sub ab col dd k0 k1 k2 k3 k5 newId))
    (hq : R (.ok (.ret (.ref (h.objs.size + 1)))) ⟨(h.push (W.kdv_tup [])).push (excO C h.objs.size), g, d, t, os⟩) :
    codeAny (model prog w) A (.builtin newId ⟨[.ref C], kw⟩) R ⟨h, g, d, t, os⟩ := by
  have z1 := F.ends
  have c1 : (Value.ref C :: bm).contains (.type B) = true := by rw [List.contains_cons, hT, F.hasB, Bool.or_true]
  have c2 : (Value.ref C :: bm).contains (.type "AttributeError") = false := by
    rw [List.contains_cons, hT, F.noAttr]
    rfl
  have c3 : (Value.ref C :: bm).contains (.type "NameError") = false := by
    rw [List.contains_cons, hT, F.noName]
    rfl
  have hrest : ([] : List Value).length ≤ sizeLine := Nat.zero_le _
  refine codeAny_builtinAt F.entry ?_
  unfold Builtin.«BaseException.__new__»
  refine wpAt_bind ?_
  show wpAt _ _ _ (stack >>= _) _ _ _
  refine wpAt_bind (wpAt_stack fun p below => wpAt_of_wpAny ?_)
  wp_walk
  refine wpAt_of_wpAny ?_
  rw [F.owner]
  repeat (first
    | with_reducible refine wpAny_madeHere_exc F.canon hC ?_
    | with_reducible refine wpAny_loadPart_at hC ?_
    | (with_reducible refine wpAny_isSubtype_exc hC ?_; first | rw [c1] | rw [c2] | rw [c3])
    | wp_step)
  show R _ _
  rw [Heap.size_push]
  exact hq
theorem run_type_call (F : ExcBaseFacts B newId initId bmB) (hT : ∀ X : String, bm.contains (.type X) = bmB.contains (.type X)) {fI : Addr} {Q : Fin → Shared → Prop}
    (hC : h.get? C = some (excClassObj nm q C N bs bm hdct sn sub ab col dd k0 k1 k2 k3 k5 newId))
    (hi : W.Looks (model prog w) h (typeLookup (.ref C) "__init__") (some (.ref fI))) (hb : ∀ self, W.Looks (model prog w) h (bindSpecial (.ref fI) self) (.ref fI, [self]))
    (hq : codeAny (model prog w) A (.call (.ref fI) ⟨[.ref (h.objs.size + 1)], kw⟩)
      (fun r s' => match r with | .ok (.ret v) => v = .none ∧ Q (.done (.ret (.ref (h.objs.size + 1)))) s' | .ok _ => False | .error e => E e s')
      ⟨(h.push (W.kdv_tup [])).push (excO C h.objs.size), g, d, t, os⟩) :
    wpAny (model prog w) A (Builtin.«type.__call__» ⟨[.ref C], kw⟩) Q E ⟨h, g, d, t, os⟩ := by
  repeat (first | with_reducible refine wpAny_loadPart_at hC ?_ | with_reducible refine wpAny_madeBy_exc hC ?_ | wp_step)
  refine codeAny_call_builtin_code (Code.quiet_builtin _ F.quiet) (chk_new F hT hC ?_)
  refine run_new F hT hC ?_
  show wpAny _ _ _ _ _ _
  have kp : ∀ b o, h.get? b = some o → ((h.push (W.kdv_tup [])).push (excO C h.objs.size)).get? b = some o := fun b o e =>
    Heap.get?_push_of_some _ (Heap.get?_push_of_some _ e)
  have z1 := kp _ _ hC
  have z2 : ((h.push (W.kdv_tup [])).push (excO C h.objs.size)).get? (h.objs.size + 1) = some (excO C h.objs.size) := by heap_get
  have z3 : (Value.ref C :: bm).contains (.ref C) = true := by simp
  have z4 := hi.keeps kp
  have z5 := (hb (.ref (h.objs.size + 1))).keeps kp
  unfold isInstance
  repeat (first | with_reducible refine wpAny_loadPart_at z2 ?_ | (with_reducible refine wpAny_isSubtype_exc z1 ?_; rw [z3]) | wp_step)
  show wpAny _ _ (typeLookup (.ref C) _) _ _ _
  refine z4.at ?_
  refine wpAny_holding (wpAny_bind (z5.at ?_))
  refine wpAny_bind (wpAny_call (codeAny_mono hq fun r s' z => ?_))
  rcases r with e | (v | _ | _ | _) <;> first | exact z | exact z.elim | skip
  obtain ⟨rfl, z⟩ := z
  first
    | exact wpAny_pure (wpAny_pure z)
    | (wp_walk; exact z)
theorem chk_tc {Q : Unit → Shared → Prop} (hC : h.get? C = some (excClassObj nm q C N bs bm hdct sn sub ab col dd k0 k1 k2 k3 k5 newId)) (hq : Q () ⟨h, g, d, t, os⟩) :
    wpAny M A (checkBuiltinCall "type.__call__" ⟨[.ref C], kw⟩) Q E ⟨h, g, d, t, os⟩ := by
  have z1 := tc_sub
  have z2 : (⟨h, g, d, t, os⟩ : Shared).TypeIs (.ref C) "type" := ⟨_, hC, rfl⟩
  simp only [checkBuiltinCall, tc_kind, tc_split]
  repeat (any_goals (first | assumption | with_reducible refine wpAny_loadPart_at hC ?_ | with_reducible refine wpAny_onRaise ?_ | with_reducible refine wpAny_map ?_ | wp_step))
theorem call_kw (F : ExcBaseFacts B newId initId bmB) (hT : ∀ X : String, bm.contains (.type X) = bmB.contains (.type X)) {fI : Addr}
    (hC : h.get? C = some (excClassObj nm q C N bs bm hdct sn sub ab col dd k0 k1 k2 k3 k5 newId))
    (hi : W.Looks (model prog w) h (typeLookup (.ref C) "__init__") (some (.ref fI))) (hb : ∀ self, W.Looks (model prog w) h (bindSpecial (.ref fI) self) (.ref fI, [self]))
    (hq : codeAny (model prog w) (A.under (.builtin "type.__call__" ⟨[.ref C], kw⟩)) (.call (.ref fI) ⟨[.ref (h.objs.size + 1)], kw⟩) (W.InitBack (h.objs.size + 1) R)
      ⟨(h.push (W.kdv_tup [])).push (excO C h.objs.size), g, d, t, os⟩) :
    codeAny (model prog w) A (.call (.ref C) ⟨[], kw⟩) R ⟨h, g, d, t, os⟩ := by
  have f1 := tc_lookup
  have f2 := tc_bind (.ref C)
  have f3 : (⟨h, g, d, t, os⟩ : Shared).TypeIs (.ref C) "type" := ⟨_, hC, rfl⟩
  refine codeAny_of_tree ?_
  show wpAny _ _ (callAny (.ref C) _) _ _ _
  repeat (any_goals (first | assumption | with_reducible refine wpAny_loadPart_at hC ?_ | wp_step))
  refine ⟨rfl, ?_⟩
  refine codeAny_call_builtin_at (Code.quiet_builtin _ (by decide +kernel)) entry_typeCall (chk_tc hC (run_type_call F hT hC hi hb ?_))
  refine codeAny_mono hq fun r s' z => ?_
  rcases r with e | (v | _ | _ | _) <;> exact z
end
end MyX
namespace L2
open PySem PySem.Spec PyProof.Rows

/-! ### an own exception class with an __init__ of its own: C(e), C(k = e) as values -/
/-- C(e, ..) as a value: __init__ keeps sp at the new exception a, and leaves it as it leaves it -/
def tExcV (C : Addr) (sp : Sp) (ta : TA) : TE := fun σ H Q => ta σ H fun vs H1 => vs.length ≤ 1000 ∧ ∀ a, H1 a = none → sp (.ref a :: vs) (upd H1 a (exo a C none)) (fun v H2 => v = .non ∧ Q (.ref a) H2) fun _ _ _ => False
def tExcK (C : Addr) (m : Nat) (sp : Sp) (gV : List V → List V) (tk : TA) : TE := fun σ H Q => tk σ H fun zs H1 => zs.length = m ∧ ∀ a, H1 a = none → sp (.ref a :: gV zs) (upd H1 a (exo a C none)) (fun v H2 => v = .non ∧ Q (.ref a) H2) fun _ _ _ => False
section
variable {X : Cx} {CX : CXT} {x : Str} {C fI : Addr} {k : Nat} {fd : FuncData} {ps : List Str} {sp : Sp} {ta : TA} {p pos : Pos} {e : Expr} {es : List Expr}
theorem run_excV {pins : List (Addr × Obj)} {σ : St} {H : Hp} {s : Shared} {Q : VK} {us : List Value} {vs : List V} {kw : List (Str × Value)} {us' : List Value} (T : OexC X.K C) (iC : PySem.W.findIn X.K (.ref C) "__init__" = some (some (.ref fI)))
    (tI : PySem.W.typeIn X.K (.ref fI) = some (.type "function")) (F1 : FnOk X.prog X.w X.K X.mg X.base CX k fI fd ps sp) (hr : Room (k + 1) X.A) (hx : Passes CX X (fun _ _ _ => False))
    (I : Inv X pins σ H s) (hk : kw = [] ∨ us = []) (hus : us.length ≤ sizeLine)
    (hbind : ∀ s' : Shared, X.K.In s'.heap → ∀ a : Addr, BindsTo s' fd ⟨.ref a :: us, kw⟩ (ps.zip (.ref a :: us'))) (r : Vals vs us')
    (q1 : ∀ a, H a = none → sp (.ref a :: vs) (upd H a (exo a C none)) (fun v H2 => v = .non ∧ Q (.ref a) H2) fun _ _ _ => False) :
    wpAny (model X.prog X.w) X.A (call (.ref C) us kw) (EP X pins σ Q) X.xe s := by
  obtain ⟨nm, q, N, bs, bm, sn, sub, ab, col, dd, k0, k1, k2, k3, k5, hC, hbm⟩ := T.cls
  obtain ⟨hp, g, dr, tk, os⟩ := s
  have z1 : hp.objs.size ≤ hp.objs.size + 1 := Nat.le_succ _
  have z2 : H (hp.objs.size + 1) = none := I.hok.fresh z1
  have hq := q1 (hp.objs.size + 1) z2
  have z3 : ((hp.push (PySem.W.kdv_tup us)).push (PySem.HandSPX.excO C hp.objs.size)).get? (hp.objs.size + 1) = some (PySem.HandSPX.excO C hp.objs.size) := by heap_get
  have I2 : Inv X pins σ (upd H (hp.objs.size + 1) (exo (hp.objs.size + 1) C none)) ⟨(hp.push (PySem.W.kdv_tup us)).push (PySem.HandSPX.excO C hp.objs.size), g, dr, tk, os⟩ :=
    I.laid (t' := tk) (fun b o e => Heap.get?_push_of_some _ (Heap.get?_push_of_some _ e)) z1 (exo_ok z3)
  have z4 : Vals (V.ref (hp.objs.size + 1) :: vs) (Value.ref (hp.objs.size + 1) :: us') := .cons rfl r
  have kp : ∀ b o, hp.get? b = some o → _ := fun b o e => Heap.get?_push_of_some (PySem.HandSPX.excO C hp.objs.size) (Heap.get?_push_of_some (PySem.W.kdv_tup us) e)
  have back : ∀ (r : Result) (s' : Shared), CR CX X.stack X.prog X.w (upd H (hp.objs.size + 1) (exo (hp.objs.size + 1) C none)) ⟨(hp.push (PySem.W.kdv_tup us)).push (PySem.HandSPX.excO C hp.objs.size), g, dr, tk, os⟩
      (fun v H2 => v = .non ∧ Q (.ref (hp.objs.size + 1)) H2) (fun _ _ _ => False) r s' →
      PySem.W.InitBack (hp.objs.size + 1) (fun r s' => match r with | .ok (.ret v) => EP X pins σ Q v s' | .ok _ => False | .error e => X.xe e s') r s' := by
    intro r s' hq'
    cases r with
    | error e => exact hx pins σ _ _ e s' I2 hq'
    | ok fl =>
      cases fl with
      | ret u =>
        obtain ⟨v, H', I3, rv, ev, q3⟩ := I2.after hq'
        subst ev
        exact ⟨rv, V.ref (hp.objs.size + 1), H', I3, rfl, q3⟩
      | next => exact False.elim hq'
      | brk => exact False.elim hq'
      | cont => exact False.elim hq'
  have run1 := F1.run (X.A.under (.builtin "type.__call__" ⟨.ref C :: us, kw⟩)) X.stack ⟨(hp.push (PySem.W.kdv_tup us)).push (PySem.HandSPX.excO C hp.objs.size), g, dr, tk, os⟩ _ ⟨.ref (hp.objs.size + 1) :: us, kw⟩ _ _ _ _ (hr.make C us kw) (I2.env0.make C us kw)
    (hbind _ I2.kIn _) z4 hq
  rcases hk with rfl | rfl
  · exact wpAny_call (PySem.HandSPX.call_own F.excBase_ValueError (fun Y => PySem.HandSPX.refsVE_contains Y bm hbm) (I.kIn _ _ hC) (PySem.W.looks_findIn I.kIn iC) (fun self => PySem.W.bind_fn I.kIn self tI) hus (codeAny_mono run1 back))
  · exact wpAny_call (MyX.call_kw F.excBase_ValueError (fun Y => PySem.HandSPX.refsVE_contains Y bm hbm) (I.kIn _ _ hC) (PySem.W.looks_findIn I.kIn iC) (fun self => PySem.W.bind_fn I.kIn self tI) (codeAny_mono run1 back))
end
end L2
set_option Elab.async false
set_option linter.all false
set_option maxRecDepth 100000
set_option maxHeartbeats 4000000
namespace L2
open PySem PySem.Spec PyProof.Rows
section
variable {X : Cx} {CX : CXT} {x : Str} {C fI : Addr} {k : Nat} {fd : FuncData} {ps : List Str} {sp : Sp} {ta tk : TA} {p pos : Pos} {e : Expr} {es : List Expr}
theorem pe_excV (T : OexC X.K C) (iC : PySem.W.findIn X.K (.ref C) "__init__" = some (some (.ref fI))) (tI : PySem.W.typeIn X.K (.ref fI) = some (.type "function"))
    (F1 : FnOk X.prog X.w X.K X.mg X.base CX k fI fd ps sp) (hr : Room (k + 1) X.A) (hb : Binds X.K fd ps []) (hx : Passes CX X (fun _ _ _ => False)) (hg : Gl X x) (hm : X.mg x = some (.ref C)) (ha : PA X (e :: es) ta)
    (hdb : (x == ("__debug__" : Str)) = false := by decide) (he : starEach (e :: es) X.env = (false, eval e X.env) :: starEach es X.env := by rfl) (hpl : (backTo pos (starEach es X.env)).any (·.1) = false := by rfl) :
    PE X (.Call (.Name x p) (e :: es) [] pos) (tExcV C sp ta) := by
  refine ⟨fun pins s σ H Q I h => wpAny_Call_Name_kw (ld_glob I hg hm ?_ hdb)⟩
  refine PySem.W.callWith_K (h₀ := X.base) I.ok.mod.kin T.kC (thn (ha.run pos pins s σ H _ I h) fun us s1 ⟨vs, H1, I1, r1, hz, q1⟩ => ⟨I1.kIn, ?_⟩) he hpl
  have hl : (V.ref 0 :: vs).length = ps.length := by
    have := F1.len _ _ _ _ (q1 s1.heap.objs.size (I1.hok.fresh (Nat.le_refl _)))
    simpa using this
  refine run_excV (kw := []) T iC tI F1 hr hx I1 (.inl rfl) ?_ (fun s' X' a => ?_) r1 q1
  · show us.length ≤ sizeLine
    rw [← r1.length, sizeLine_eq]
    omega
  · have b := hb s' (.ref a :: us) X' (by
      rw [List.append_nil, List.length_cons, ← r1.length, ← hl, List.length_cons])
    rw [List.append_nil] at b
    exact b
theorem pe_excK {ks : List Str} {kws : List Keyword} {g : List Value → List Value} {gV : List V → List V} (T : OexC X.K C) (iC : PySem.W.findIn X.K (.ref C) "__init__" = some (some (.ref fI))) (tI : PySem.W.typeIn X.K (.ref fI) = some (.type "function"))
    (F1 : FnOk X.prog X.w X.K X.mg X.base CX k fI fd ps sp) (hr : Room (k + 1) X.A) (hx : Passes CX X (fun _ _ _ => False)) (hg : Gl X x) (hm : X.mg x = some (.ref C)) (hkw : PK X kws tk)
    (hb : ∀ (s : Shared) (a : Addr) (ws : List Value), X.K.In s.heap → ws.length = ks.length → BindsTo s fd ⟨[.ref a], ks.zip ws⟩ (ps.zip (.ref a :: g ws))) (hrel : ∀ {zs : List V} {ws : List Value}, Vals zs ws → Vals (gV zs) (g ws))
    (hall : (backToKw pos (keywordEach kws X.env)).all (·.1.isSome) = true := by rfl) (hks : (backToKw pos (keywordEach kws X.env)).filterMap (·.1) = ks := by rfl) (hdb : (x == ("__debug__" : Str)) = false := by decide)
    (hpl : ((backTo pos (starEach [] X.env)).any (·.1) || (backToKw pos (keywordEach kws X.env)).any (·.1.isNone)) = false := by rfl) :
    PE X (.Call (.Name x p) [] kws pos) (tExcK C ks.length sp gV tk) := by
  refine ⟨fun pins s σ H Q I h => wpAny_Call_Name_kw (ld_glob I hg hm ?_ hdb)⟩
  refine PySem.W.callWith_KW0 (h₀ := X.base) I.ok.mod.kin T.kC hall ?_ hpl
  refine thn (hkw.run pos pins s σ H _ I h) fun ws s2 ⟨zs, H2, I2, rz, l2, q2⟩ => ⟨I2.kIn, ?_⟩
  rw [hks]
  exact run_excV (us := []) (us' := g ws) T iC tI F1 hr hx I2 (.inr rfl) (Nat.zero_le _) (fun s' X' a => hb s' a ws X' (rz.length.symm.trans l2)) (hrel rz) q2
end

/-- a class, or a def, by its name, as a value -/
theorem pe_cls {X : Cx} {x : Str} {C : Addr} {pos : Pos} (hm : X.mg x = some (.ref C)) (hg : Gl X x := by rfl) (hd : (x == ("__debug__" : Str)) = false := by decide) :
    PE X (.Name x pos) (tC (.ref C)) := pe_glob (v := .ref C) hg hm rfl hd

/-! ### HeadError.__init__(self, e): the base's own -/
/-- what the written part says of a base class at D, so that D.__init__ is ValueError's -/
structure BasC (K : PySem.W.Frag) (D : Addr) : Prop where
  kD : PySem.W.keepIn K (.ref D) = true
  sg : PySem.W.specialIn K (.ref D) "__getattribute__" = some (some (.builtin "type.__getattribute__"))
  rd : PySem.W.readsIn K D (.type "type") = true
  fi : PySem.W.findCls K (.ref D) (.type "type") "__init__" = some (.val (.builtin "ValueError.__init__"))
section
variable {X : Cx} {x : Str} {D : Addr} {ta : TA} {p1 p2 pos : Pos} {e : Expr} {es : List Expr}
theorem pe_clsinit {pl : Sem Bool} (B : BasC X.K D) (hg : Gl X x) (hm : X.mg x = some (.ref D)) (ha : PA X (e :: es) ta)
    (hc : eval (.Call (.Attribute (.Name x p1) "__init__" p2) (e :: es) [] pos) X.env = (do
      let ov ← eval (.Name x p1) X.env
      standAt p2.atName
      let (f, first) ← holding [ov] (getMethod ov "__init__" pl)
      callWith pos f first (backTo pos (starEach (e :: es) X.env)) (backToKw pos (keywordEach [] X.env))) := by rfl)
    (hdb : (x == ("__debug__" : Str)) = false := by decide)
    (he : starEach (e :: es) X.env = (false, eval e X.env) :: starEach es X.env := by rfl) (hpl : (backTo pos (starEach es X.env)).any (·.1) = false := by rfl) :
    PE X (.Call (.Attribute (.Name x p1) "__init__" p2) (e :: es) [] pos) (tVeI X.K ta) := by
  refine ⟨fun pins s σ H Q I h => PySem.W.methodCall_KW (ld_glob I hg hm ?_ hdb) hc⟩
  refine PySem.W.method_cls I.kIn B.sg (PySem.W.cls_value I.kIn B.rd B.fi (by decide +kernel) ?_)
  show wpAny _ _ (callWith pos (Value.builtin "ValueError.__init__") [] (backTo pos (starEach (e :: es) X.env)) []) _ _ _
  refine PyProof.Rows.callWith_method1 (thn (ha.run pos pins _ σ H _ (I.tok _) h) fun us s1 hh => ?_) he hpl
  obtain ⟨vs, H1, I1, r1, a, C, ws, ev, hl, T, ea, q⟩ := hh
  subst ev
  cases r1 with
  | @cons _ u0 _ ur ra rw' =>
    obtain rfl : u0 = Value.ref a := ra
    refine oinit_ok T I1 ea ?_ fun s' J => ⟨.non, H1, J, rfl, q⟩
    rw [← Paired.length rw', sizeLine_eq]
    omega
end

/-! ### e.f, e an exception that stands as a value -/
def tXfV (K : PySem.W.Frag) (n : Str) (te : TE) : TE := fun σ H Q => te σ H fun x H1 => ∃ (a C dd : Addr) (fs : List (Str × V)) (v : V), x = .ref a ∧ XfC K C ∧ PySem.W.findIn K (.ref C) n = some none ∧
  H1 a = some (exo a C (some dd)) ∧ H1 dd = some (exd dd fs) ∧ fs.lookup n = some v ∧ Q v H1
theorem exo_inst {X : Cx} {pins : List (Addr × Obj)} {σ : St} {H : Hp} {s : Shared} {a C dd : Addr} {fs : List (Str × V)} (I : Inv X pins σ H s) (e1 : H a = some (exo a C (some dd))) (e2 : H dd = some (exd dd fs)) :
    ∃ (oe od : Obj) (mA : Str → Option Value), PySem.W.InstAt s.heap a oe C (some od) ∧ (∀ n, PySem.W.lookIn n od = some (mA n)) ∧ ∀ f, RelO (fs.lookup f) (mA f) := by
  obtain ⟨t1, ho⟩ := exo_at I.hok e1
  obtain ⟨mA, hns, rel⟩ := exd_at I.hok e2
  obtain ⟨od, hod, hl⟩ := lookIn_ns hns
  exact ⟨_, od, mA, ⟨ho, rfl, rfl, hod⟩, hl, rel⟩
theorem pe_xfV {X : Cx} {te : TE} {e : Expr} {n : Str} {pos : Pos} (he : PE X e te) (hb : attributeBase e n X.env (eval e X.env) = eval e X.env := by rfl) : PE X (.Attribute e n pos) (tXfV X.K n te) := by
  refine ⟨fun pins s σ H Q I h => attr_of hb (thn (he.run pins s σ H _ I h) fun u s1 hh => ?_)⟩
  obtain ⟨x, H1, I1, rx, a, C, dd, fs, v, ex, T, hno, ea, ed, l, q⟩ := hh
  subst ex
  obtain rfl : u = Value.ref a := rx
  obtain ⟨oe, od, mA, J, hl, hr⟩ := exo_inst I1 ea ed
  obtain ⟨u, hu, ru⟩ := RelO.some_of (v := v) (o := mA n) (by rw [← l]; exact hr n)
  exact HandSPX.exc_get I1.kIn J T.ga T.gg T.exC (PySem.W.findObj_own T.hdC hno rfl (by rw [hl, hu])) (handed_of ru) ⟨v, H1, I1.tok _, ru, q⟩
end L2
namespace MyX
open PySem PySem.W PySem.Calls PyProof.Rows
section
variable {prog : Program} {w : World} {A : Around} {E : Value → Shared → Prop} {s : Shared} {K : Frag} {x D : Addr} {ox : Obj} {od : Option Obj}
theorem findObj_dat {C : Addr} {name : Str} {a g : Value} (hc : (clsIn K C).isSome = true) (ha : findIn K (.ref C) name = some (some a)) (hg : specialIn K a "__get__" = some (some g)) (ht : takesIn K a = some true) :
    findObj K C od name = some (.bind g a) := by
  obtain ⟨cd, hc⟩ := Option.isSome_iff_exists.mp hc
  unfold findObj
  rw [hc, Option.bind_some, ha, Option.bind_some]
  simp [hg, ht]
theorem own_class {Q : Option Value → Shared → Prop} (C : L2.ExcC K D) (X : K.In s.heap) (I : InstAt s.heap x ox D od) (h : Q (some (.ref D)) { s with toks := s.toks + 1 }) :
    wpAny (model prog w) A (getAttr? (.ref x) "__class__") Q E s := by
  have z0 : findObj K D od "__class__" = some (.bind (.builtin "getset_descriptor.__get__") (.builtin "object.__class__")) :=
    findObj_dat (by obtain ⟨cd, hc, _⟩ := any_some C.hd; rw [hc]; rfl) C.ha C.hn C.ht
  obtain ⟨hp, g, d, t, os⟩ := s
  have b0 := I.type (M := model prog w)
  have b1 := looks_findIn (M := model prog w) X C.hg
  have b2 := looks_findIn (M := model prog w) X C.hk
  have b3 := looks_find (M := model prog w) X I z0
  have b4 : Looks (model prog w) hp (isInstance (.ref x) (.type "BaseException")) true := b0.andThen (looks_subIn X C.hs)
  have c0 : (false && onTheHeap (Value.builtin "BaseException.__getattribute__")) = false := rfl
  have c1 : (Value.builtin "BaseException.__getattribute__" == Value.builtin "object.__getattribute__") = false := by decide +kernel
  have c2 : (onTheHeap (Value.ref D) && Value.builtin "BaseException.__getattribute__" == Value.builtin "object.__getattribute__") = false := by
    rw [c1]
    rfl
  unfold getAttr? getAttrBy? getAttrBy
  refine wpAny_bind (wpAny_mkText (wpAny_bind (wpAny_attempt (wpAny_holding (wpAny_bind (b0.at (wpAny_bind (b1.at ?_))))))))
  show wpAny _ _ (if (onTheHeap (Value.ref D) && Value.builtin "BaseException.__getattribute__" == Value.builtin "object.__getattribute__") = true then _ else _) _ _ _
  rw [c2, if_neg Bool.false_ne_true]
  unfold getAttrByItsOwn hookBefore
  refine wpAny_bind ?_
  rw [if_pos (show onTheHeap (Value.ref D) = true from rfl)]
  refine b2.at (wpAny_bind (wpAny_attempt (wpAny_holding ?_)))
  unfold callGetattribute
  rw [c0, if_neg Bool.false_ne_true]
  unfold boundAndCalled
  rw [PySem.F.excAttr_ValueError.ga.bind (.ref x)]
  refine wpAny_bind (wpAny_pure ?_)
  show wpAny _ _ (call (.builtin "BaseException.__getattribute__") [.ref x, .str "__class__" t]) _ _ _
  refine wpAny_call (codeAny_call_builtin PySem.F.excAttr_ValueError.ga.plain PySem.F.entry_bexc_ga (@check_slot (model prog w) _ _ ⟨hp, g, d, t + 1, os⟩ "BaseException.__getattribute__" "BaseException" "__getattribute__" (.ref x)
    [.str "__class__" t] [] _ (by decide +kernel) (by decide +kernel) b4 (PySem.F.args_bexc_ga (.ref x) (.str "__class__" t)) ?_))
  unfold Builtin.«object.__getattribute__»
  refine wpAny_bind (wpAny_of_eq (a := ((Value.ref x : Value), [Value.str "__class__" t])) (by first | rfl | (simp only [slotArgs]; rfl)) ?_)
  refine wpAny_bind (wpAny_pure (wpAny_bind (b0.at (wpAny_bind (b3.at ?_)))))
  show wpAny _ _ (holding [Value.builtin "object.__class__"] (call (.builtin "getset_descriptor.__get__") [.builtin "object.__class__", .ref x, .ref D]) >>= ret) _ _ _
  refine wpAny_bind (wpAny_holding (wpAny_call (class_get (s := ⟨hp, g, d, t + 1, os⟩) (ox := ox) (od := od) X I C.hm (wpAny_pure ?_))))
  show wpAny _ _ (handedOut (.ref D)) _ _ _
  rw [handedOut_of (v := .ref D) rfl]
  first
    | exact wpAny_pure (wpAny_pure h)
    | exact wpAny_pure h
    | exact wpAny_pure (wpAny_bind (wpAny_pure (wpAny_pure h)))
theorem cls_there (C : L2.ExcC K D) : ∃ oc od cd osl, K.lookup D = some ⟨oc, od, .cls cd, osl⟩ := by
  obtain ⟨cdD, hcD, _⟩ := any_some C.hd
  unfold clsIn at hcD
  split at hcD
  · rename_i c' d' cd' sl' ho
    exact ⟨_, _, _, _, ho⟩
  · cases hcD
theorem kitx_own (C : L2.ExcC K D) : KitX K (.ref x) (.ref D) (fun h => ∃ ox od, InstAt h x ox D od) where
  ty := fun _ _ _ ⟨_, _, I⟩ => I.type
  it := fun _ _ X _ => by
    obtain ⟨oc, od, cd, osl, ho⟩ := cls_there C
    intro A' Q' E' s' kq q
    unfold isType loadHead
    exact wpAny_bind (wpAny_loadPart (kq _ _ (X _ _ ho)) (wpAny_pure q))
  ne := fun h tp dd its n sl X htp => by
    obtain ⟨oc, od, cd, osl, ho⟩ := cls_there C
    refine Bool.eq_false_iff.mpr fun q => ?_
    have e : D = tp := Value.ref.inj (beq_iff_eq.mp q)
    subst e
    cases (X _ _ ho).symm.trans htp
  ca := fun X ⟨_, _, I⟩ k => own_class C X I k
end
end MyX
namespace L2
open PySem PySem.Spec PyProof.Rows
/-- at a stands an exception of the class at D, made and not raised -/
def ExcAt (H : Hp) (a D : Addr) : Prop := H a = some (ExO (.ref D) a) ∨ ∃ (dd : Addr) (fs : List (Str × V)), H a = some (exo a D (some dd)) ∧ H dd = some (exd dd fs)
theorem ExcAt.same {H H' : Hp} {a D : Addr} (h : ExcAt H a D) (k : ∀ b o, H b = some o → (∀ kv, o ≠ .dK kv) → (∀ xs, o ≠ .lst xs) → H' b = some o) : ExcAt H' a D := by
  have nd : ∀ (φ : Heap → Prop) kv, HO.ext φ ≠ .dK kv := fun _ _ z => HO.noConfusion z
  have nl : ∀ (φ : Heap → Prop) xs, HO.ext φ ≠ .lst xs := fun _ _ z => HO.noConfusion z
  rcases h with h | ⟨dd, fs, h1, h2⟩
  · exact .inl (k _ _ h (nd _) (nl _))
  · exact .inr ⟨dd, fs, k _ _ h1 (nd _) (nl _), k _ _ h2 (nd _) (nl _)⟩
/-- isinstance(e, c), e such an exception -/
def rIsV (K : PySem.W.Frag) : List V → Hp → VK → Prop := fun xs H Q => ∃ (a D : Addr) (c : V) (cv : Value) (b : Bool), xs = [.ref a, c] ∧ ExcAt H a D ∧ ExcC K D ∧ (∀ u, RelV c u → u = cv) ∧ PySem.W.kitOne K (.ref D) cv = some b ∧ Q (.bl b) H
theorem call_isV {X : Cx} : CallR X (.builtin "isinstance") (rIsV X.K) := by
  intro pins s σ H xs us Q I r h
  obtain ⟨a, D, c, cv, b, rfl, hA, C, hcv, e, q⟩ := h
  obtain ⟨u1, u2, rfl, r1, r2⟩ := vals2 r
  cases (show u1 = Value.ref a from r1)
  have ec := hcv _ r2
  subst ec
  have J : ∃ ox od, PySem.W.InstAt s.heap a ox D od := by
    rcases hA with hA | ⟨dd, fs, h1, h2⟩
    · obtain ⟨⟨oe, vs, ho, hz, hd, _⟩, _, _⟩ := I.hok a _ hA
      obtain ⟨oc, odd, oda, osl⟩ := oe
      obtain ⟨e1, e2⟩ := hz
      dsimp only at e1 e2 hd
      subst e1 e2 hd
      exact ⟨_, none, ho, rfl, rfl, trivial⟩
    · obtain ⟨oe, od, mA, J, _⟩ := exo_inst I h1 h2
      exact ⟨oe, some od, J⟩
  exact PySem.W.kia_one (MyX.kitx_own C) I.kIn J e (fun z => nomatch z) fun tk => ⟨.bl b, H, I.kept (t' := tk) fun _ _ z => z, rfl, q⟩

/-! ### {x} in an f-string, x a text, an int, None -/
def tFmtN (te : TE) : TE := fun σ H Q => te σ H fun x H1 =>
    (∃ y : Str, x = .str y ∧ y.length ≤ sizeLine ∧ Q (.str y) H1) ∨ (∃ i : Int, x = .int i ∧ i.natAbs.log2 < 1920 ∧ Q (.str (toString i)) H1) ∨ (x = .non ∧ Q (.str "None") H1)
theorem pe_fmtN {X : Cx} {e : Expr} {te : TE} {pos : Pos} (he : PE X e te) : PE X (.FormattedValue e (-1) none pos) (tFmtN te) := by
  refine ⟨fun pins s σ H Q I h => wpAny_FormattedValue_plain (thn (he.run pins s σ H _ I h) fun v s1 hv => ?_)⟩
  obtain ⟨x, H1, I1, r1, q⟩ := hv
  rcases q with ⟨y, rfl, hz, q⟩ | ⟨i, rfl, hz, q⟩ | ⟨rfl, q⟩
  · obtain ⟨t, rfl⟩ := r1
    exact wpAny_formatField_str ⟨.str y, H1, I1, ⟨t, rfl⟩, q⟩ ⟨.str y, H1, I1.tok _, ⟨_, rfl⟩, q⟩ hz
  · obtain ⟨t, rfl⟩ := r1
    exact wpAny_formatField_int hz ⟨.str (toString i), H1, I1.tok _, ⟨_, rfl⟩, q⟩
  · cases r1
    exact wpAny_formatField_none ⟨.str "None", H1, I1.tok _, ⟨_, rfl⟩, q⟩
end L2
set_option Elab.async false
set_option linter.all false
set_option maxRecDepth 100000
set_option maxHeartbeats 4000000
namespace L2
open PySem PySem.Spec PyProof.Rows
/-! ### a caught exception that is kept -/
/-- at a: an exception that has been raised and caught, of the class cls, its own dict d -/
def ExI (a : Addr) (cls : Value) (d : Option Addr) : HO := .ext fun h => ∃ oe : Obj, h.get? a = some oe ∧ Zc cls d oe ∧ ∃ vs, oe.data = .fields vs
theorem exI_ok {P : Program} {w : World} {H : Hp} {h : Heap} {a : Addr} {cls : Value} {d : Option Addr} {oe : Obj} {vs : Array Value} (e : h.get? a = some oe) (z : Zc cls d oe) (k : oe.data = .fields vs) : ObjOk P w H h a (ExI a cls d) :=
  ⟨⟨oe, e, z, vs, k⟩, ⟨oe, e⟩, fun _ _ ⟨o, q, r⟩ st => ⟨o, st o q, r⟩⟩
section
variable {X : Cx} {pins : List (Addr × Obj)} {σ : St} {H : Hp} {s : Shared}
/-- an object that was not there at the entry is tracked from now on -/
theorem Inv.track {a : Addr} {o : HO} {oe : Obj} {vs : Array Value} (I : Inv X pins σ H s) (he : s.heap.get? a = some oe) (hd : oe.data = .fields vs) (na : H a = none) (nL : a ≠ X.env.locals) (n0 : X.s_0.heap.get? a = none) (nP : ∀ p ∈ X.pn ++ pins, p.1 ≠ a)
    (ok : ObjOk X.prog X.w (upd H a o) s.heap a o) : Inv X pins σ (upd H a o) s := by
  have ne0 : ∀ {b : Addr} {u : Obj}, X.s_0.heap.get? b = some u → b ≠ a := fun {b u} e z => by rw [z, n0] at e; cases e
  have neH : ∀ {b : Addr} {u : HO}, H b = some u → b ≠ a := fun e => ne_of_none e na
  have neC : ∀ {x c}, X.env.cells.lookup x = some c → c ≠ a := fun {x c} e z => by
    obtain ⟨v, oc, h1, h2⟩ := I.cell x c e
    rw [z, he] at h1
    cases h1
    rw [hd] at h2
    cases h2
  have B := I.base
  exact {
    ok := I.ok, os := I.os, bare := I.bare, loc := I.loc, cell := I.cell, len := I.len
    base := { keep := B.keep, slot := B.slot, there := B.there
              free := fun b u e n hx => by rw [upd_ne (ne0 e)]; exact B.free b u e n hx
              tups := fun b xs e => by rw [upd_ne (neH (B.tups b xs e))]; exact B.tups b xs e
              frzs := fun b u z e => by rw [upd_ne (neH (B.frzs b u z e))]; exact B.frzs b u z e
              tbls := fun b ps e => by
                obtain ⟨m, q⟩ := B.tbls b ps e
                exact ⟨m, by rw [upd_ne (neH q)]; exact q⟩ }
    free := by rw [upd_ne nL.symm]; exact I.free
    freeC := fun x c e => by rw [upd_ne (neC e)]; exact I.freeC x c e
    pin := fun p hp => by
      obtain ⟨h1, h2, h3⟩ := I.pin p hp
      exact ⟨h1, by rw [upd_ne (nP p hp)]; exact h2, h3⟩
    hok := fun b u e => by
      by_cases hb : b = a
      · subst hb
        rw [upd_same] at e
        cases e
        exact ok
      · rw [upd_ne hb] at e
        exact (I.hok b u e).stay (fun _ _ _ q => q) (fun c q => by rw [upd_ne (neH q)]; exact q) fun c xs q => by rw [upd_ne (neH q)]; exact q }
/-- into the suite and out of it -/
theorem Inv.intoSuite (I : Inv X pins σ H s) (a : Addr) : Inv (X.suite a (X.pn ++ pins)) [] σ H s where
  ok := I.ok.suite _ _
  os := I.os
  bare := I.bare
  base := I.base
  loc := I.loc
  cell := I.cell
  free := I.free
  freeC := I.freeC
  pin := fun p hp => I.pin p (by rw [List.append_nil] at hp; exact hp)
  hok := I.hok
  len := I.len
theorem Inv.fromSuite {a : Addr} (I : Inv (X.suite a (X.pn ++ pins)) [] σ H s) (ok : X.Ok) : Inv X pins σ H s where
  ok := ok
  os := I.os
  bare := I.bare
  base := I.base
  loc := I.loc
  cell := I.cell
  free := I.free
  freeC := I.freeC
  pin := fun p hp => I.pin p (by rw [List.append_nil]; exact hp)
  hok := I.hok
  len := I.len
end
/-- what «except x as n» wishes, where every error of the body is one of x's; it is tracked in the suite and behind it -/
def wTrk (K : PySem.W.Frag) (c : Value) (i m : Nat) (ts : Addr → TS) (D : Ends) : WX := fun cls d σ H => PySem.W.exmOne K cls c = some true ∧ ∀ a, H a = none → σ.length = m →
  ts a { nx := fun σ' H' => D.nx (σ'.set i none) H', rt := D.rt, bk := fun σ' H' => D.bk (σ'.set i none) H', ct := fun σ' H' => D.ct (σ'.set i none) H' } (σ.set i (some (.ref a))) (upd H a (ExI a cls d))
section
variable {X : Cx} {x n : Str} {c : Value} {i : Nat} {body suite : List Stmt} {b₀ : Stmt} {np pos pos' : Pos} {tb : WX → TS} {ts : Addr → TS}
theorem ps_try_trk (hs : X.stack = X.env :: X.outer) (hf : X.env.frame = some X.env.locals) (hN : X.N.Nodup) (hi : X.N[i]? = some n) (hln : X.env.kindOf n = some .local) (hc : Names X x c) (hex : X.ex = [])
    (hb : ∀ (W : WX) (pn : List (Addr × Obj)) (xe : Value → Shared → Prop), Takes (X.tr pn xe) W → PassesOwn (model X.prog X.w) X.A X.env xe → PSs (X.tr pn xe) body (tb W))
    (hsu : ∀ (a : Addr) (pn : List (Addr × Obj)), PSs (X.suite a pn) (b₀ :: suite) (ts a)) :
    PS X (.Try body [.ExceptHandler (some (.Name x np)) (some n) (b₀ :: suite) pos'] [] [] pos) (fun D σ H => tb (wTrk X.K c i X.N.length ts D) D σ H) := by
  constructor
  intro pins s σ H D I h
  have iok := I.ok
  have caught : Takes (X.tr (X.pn ++ pins) fun e s₁ => wpAny (model X.prog X.w) X.A (noteFrame e X.env) (fun _ s₂ => wpAny (model X.prog X.w) X.A (setFlight e none) (fun _ s₃ =>
      wpAny (model X.prog X.w) X.A (handleBy e X.env [.ExceptHandler (some (.Name x np)) (some n) (b₀ :: suite) pos']) (SP X pins D) X.xe s₃) X.xe s₂) X.xe s₁) (wTrk X.K c i X.N.length ts D) := ?hit
  refine wpAny_Try_except (wpAny_mono ((hb (wTrk X.K c i X.N.length ts D) (X.pn ++ pins) _ caught PassesOwn.looking).run [] s σ H D (I.toTry _) h) (fun f s1 hsp => ?calm) (fun e s1 he => he))
  case calm =>
    cases f with
    | next => obtain ⟨σ', H', J', q⟩ := hsp; exact wpAny_execs_nil ⟨σ', H', J'.ofTry iok, q⟩
    | brk => obtain ⟨σ', H', J', q⟩ := hsp; exact ⟨σ', H', J'.ofTry iok, q⟩
    | cont => obtain ⟨σ', H', J', q⟩ := hsp; exact ⟨σ', H', J'.ofTry iok, q⟩
    | ret u => obtain ⟨v, σ', H', J', r, q⟩ := hsp; exact ⟨v, σ', H', J'.ofTry iok, r, q⟩
  case hit =>
    rintro u s' ⟨a, B, sI, pins', σ', H', cls, d, rfl, J', nb, up, sky, na, os, ag, em, hyes⟩
    have J := J'.ofTry iok
    -- the exception stands on new ground
    have hsky : Sky B (X.env :: X.outer) a (Zc cls d) X.env.locals s'.heap := hs ▸ sky
    show wpAny (model X.prog X.w) X.A (noteFrame (.ref a) X.env) _ _ _
    refine Sky.land Zc.steady (iok.frames.trans (congrArg some hs)) hf hsky fun h3 fl3 up3 => ?_
    have J3 : Inv X pins σ' H' { s' with heap := h3 } := J.landed nb fl3.1 (up.trans up3) os ag
    obtain ⟨oe, vs, q1, q2, q3⟩ := fl3.there
    have nfr : a ∉ frs (X.env :: X.outer) := fun hm => by
      obtain ⟨_, o', e', hnf⟩ := fl3.2.2.1.mem hm
      rw [q1] at e'
      cases e'
      exact hnf _ q3
    have nL : a ≠ X.env.locals := fun z => nfr (List.mem_filterMap.mpr ⟨X.env, List.mem_cons_self, by rw [hf, z]⟩)
    have nI : sI.heap.get? a = none := by
      cases q : sI.heap.get? a with
      | none => rfl
      | some o => exact absurd ((nb a o q (hs ▸ nfr)).symm.trans fl3.2.1) (by simp)
    have n0 : X.s_0.heap.get? a = none := by
      cases q : X.s_0.heap.get? a with
      | none => rfl
      | some o =>
        obtain ⟨o', q'⟩ := J.base.there a o q (by rw [hex]; exact fun z => nomatch z)
        rw [nI] at q'
        cases q'
    have nP : ∀ p ∈ X.pn ++ pins, p.1 ≠ a := fun p hp z => by
      have q := (J.pin p hp).1
      rw [z, nI] at q
      cases q
    refine wpAny_handleBy_cons (codeAny_handlers_test ?_) (by intro q; cases q)
    have look : PySem.W.Looks (model X.prog X.w) h3 (typeOf (.ref a)) cls := fun A Q E s k q => wpAny_typeOf_ref (k _ _ q1) (by rw [q2.1]; exact q)
    have asks : ∀ {Q : Value → Shared → Prop} {E : Value → Shared → Prop}, Q c { s' with heap := h3 } → wpAny (model X.prog X.w) (X.A.mark (some (.ref a))) (eval (.Name x np) X.env) Q E { s' with heap := h3 } := fun {Q E} q => by
      obtain ⟨hg, hdbg, hm | ⟨hm, hv, hnn⟩⟩ := hc
      · exact ld_glob (X := X.suite a (X.pn ++ pins)) (J3.intoSuite a) hg hm q hdbg
      · exact ld_blt (X := X.suite a (X.pn ++ pins)) (J3.intoSuite a) hg hm hv q hnn hdbg
    refine asks ((PySem.W.exm_one (M := model X.prog X.w) J3.kIn look em).here (codeAny_handlers_suite_as (HandSPX.lands_againZ fl3 fun h4 fl4 up4 => ?_)))
    have J4 : Inv X pins σ' H' { s' with heap := h4 } := J.landed nb fl4.1 ((up.trans up3).trans up4) os ag
    obtain ⟨oe', vs', w1, w2, w3⟩ := fl4.there
    have T4 : Inv X pins σ' (upd H' a (ExI a cls d)) { s' with heap := h4 } := J4.track w1 w3 na nL n0 nP (exI_ok w1 w2 w3)
    refine store_ok (X := X.suite a (X.pn ++ pins)) (v := .ref a) (T4.intoSuite a) hN hi (.inl hln) rfl (fun s5 S5 => ?_) (.inr hln)
    refine wpAny_mono ((hsu a (X.pn ++ pins)).run [] s5 _ _ _ S5 (hyes a na J.len)) (fun f s6 hsp => ?_) (fun _ _ z => False.elim z)
    have over : ∀ {σ6 : St} {H6 : Hp} {Q : Shared → Prop}, Inv (X.suite a (X.pn ++ pins)) [] σ6 H6 s6 → (∀ s7, Inv X pins (σ6.set i none) H6 s7 → Q s7) →
        wpAny (model X.prog X.w) X.A (do bindName X.env n .none; unbindBehindTheSuite X.env n pos') (fun _ s7 => Q s7) X.xe s6 := fun {σ6 H6 Q} S6 hq => gone_ok (S6.fromSuite iok) hN hi hln hq
    cases f with
    | next => obtain ⟨σ6, H6, S6, q6⟩ := hsp; exact over S6 fun s7 J7 => ⟨_, _, J7, q6⟩
    | brk => obtain ⟨σ6, H6, S6, q6⟩ := hsp; exact over S6 fun s7 J7 => ⟨_, _, J7, q6⟩
    | cont => obtain ⟨σ6, H6, S6, q6⟩ := hsp; exact over S6 fun s7 J7 => ⟨_, _, J7, q6⟩
    | ret u => obtain ⟨v6, σ6, H6, S6, r6, q6⟩ := hsp; exact over S6 fun s7 J7 => ⟨_, _, _, J7, r6, q6⟩
end
end L2
set_option Elab.async false
set_option linter.all false
set_option maxRecDepth 100000
set_option maxHeartbeats 4000000
namespace L2
open PySem PySem.Spec PyProof.Rows LamX
/-- found = None; try: action() / except x as error: found = error; return found -/
def TTc (K : PySem.W.Frag) (HE : Addr) : (XK → Hp → VK → Prop) → Hp → VK → Prop := fun tl H Q =>
  tl (fun cls d H' => PySem.W.exmOne K cls (.ref HE) = some true ∧ ∀ a, H' a = none → Q (.ref a) (upd H' a (ExI a cls d))) H fun _ H' => Q .non H'
theorem caught_gives {X : Cx} {x a fo e q er : Str} {sg : Scope} {g HE : Addr} {cdg : Value} {p1 p2 p3 p4 p5 p6 p7 p8 p9 pa pb pc pd pe : Pos} {j : Nat} (nd : ([a, fo, er] : List Str).Nodup) (hka : Vis sg a) (hkf : sg.names.lookup fo = some .local) (hke : sg.names.lookup er = some .local)
    (hge : sg.names.lookup e = some .globalImplicit) (hme : X.mg e = some (.ref HE)) (hde : (e == ("__debug__" : Str)) = false) (df : (fo == ("__debug__" : Str)) = false) (dr : (er == ("__debug__" : Str)) = false)
    (cf : (fo == ("__classdict__" : Str)) = false) (cr : (er == ("__classdict__" : Str)) = false) :
    GivesTo X [a, fo, er] x sg g cdg
      [.Assign [.Name fo p1] (.Constant .none j p2) p3, .Try [.Expr (.Call (.Name a p4) [] [] p5) p6] [.ExceptHandler (some (.Name e p7)) (some er) [.Assign [.Name fo p8] (.Name er p9) pa] pb] [] [] pc, .Return (some (.Name fo pd)) pe] a q (TTc X.K HE) := by
  intro f c' s H Q tl act hc h
  have hgl : Gl (cxOf C8.CX0 X.prog X.w X.K X.mg X.base [a, fo, er] x sg g cdg X.A X.stack s H C8.E0).nox e := hge
  refine ⟨_, pss_cons (ps_set (i := 1) nd rfl (.inl hkf) pe_non)
    (pss_cons (ps_try_trk (X := (cxOf C8.CX0 X.prog X.w X.K X.mg X.base [a, fo, er] x sg g cdg X.A X.stack s H C8.E0).nox) (c := .ref HE) (i := 2)
      (tb := fun W D σ H => ∃ Ech : XK, (∀ cls d σ' H', Ech cls d H' → W cls d σ' H') ∧ σ[0]? = some (some (.ref f)) ∧ H c' = some (CodeO c' q) ∧ tl Ech H fun _ H' => D.nx σ H')
      (ts := fun _ => tAsg (tVar 2) (gName 1)) rfl rfl nd rfl hke ⟨hgl, hde, .inl hme⟩ rfl (fun W pn xe tk _ => ?_) (fun a pn => ?_))
    (pss_one (ps_ret (pv 1 rfl (.inl hkf) df cf)))), ?_⟩
  · refine ⟨fun pins s' σ H' D I h' => ?_⟩
    obtain ⟨Ech, hW, h1, h2, h3⟩ := h'
    exact (pss_one (ps_expr (pos := p6) (act W pn xe Ech p4 p5 tk hW))).run pins s' σ H' D I ⟨h1, h2, h3⟩
  · exact pss_one (ps_set (i := 1) nd rfl (.inl hkf) (pv 2 rfl (.inl hke) dr cr))
  · refine ⟨fun cls d H' => PySem.W.exmOne X.K cls (.ref HE) = some true ∧ ∀ a, H' a = none → Q (.ref a) (upd H' a (ExI a cls d)), fun cls d σ' H' hx => ⟨hx.1, fun a na hl => ?_⟩, rfl, hc, ?_⟩
    · match σ', hl with
      | [x0, x1, x2], _ => exact ⟨_, rfl, _, rfl, hx.2 a na⟩
    · have e : (fun (_ : V) (H' : Hp) => ∃ v, (List.set (start [a, fo, er] [V.ref f]) 1 (some V.non))[1]? = some (some v) ∧ Q v H') = fun _ H' => Q .non H' := by
        funext _ H'
        refine propext ⟨fun ⟨v, e, q⟩ => ?_, fun q => ⟨_, rfl, q⟩⟩
        cases (show some (some V.non) = some (some v) from e)
        exact q
      show tl _ H (fun (_ : V) (H' : Hp) => ∃ v, (List.set (start [a, fo, er] [V.ref f]) 1 (some V.non))[1]? = some (some v) ∧ Q v H')
      rw [e]
      exact h

/-! ### what such an exception tells -/
/-- at a stands an exception that was caught: its class, its own dict -/
theorem exI_inst {X : Cx} {pins : List (Addr × Obj)} {σ : St} {H : Hp} {s : Shared} {a D : Addr} (I : Inv X pins σ H s) (e : H a = some (ExI a (.ref D) none)) : ∃ oe, PySem.W.InstAt s.heap a oe D none := by
  obtain ⟨⟨oe, h1, h2, vs, h3⟩, _, _⟩ := I.hok a _ e
  exact ⟨oe, h1, h2.1, by unfold PySem.W.notCls; rw [h3], by rw [h2.2]; trivial⟩
theorem exI_instD {X : Cx} {pins : List (Addr × Obj)} {σ : St} {H : Hp} {s : Shared} {a D dd : Addr} {fs : List (Str × V)} (I : Inv X pins σ H s) (e : H a = some (ExI a (.ref D) (some dd))) (ed : H dd = some (.xd fs)) :
    ∃ (oe od : Obj) (mA : Str → Option Value), PySem.W.InstAt s.heap a oe D (some od) ∧ (∀ n, PySem.W.lookIn n od = some (mA n)) ∧ ∀ f, RelO (fs.lookup f) (mA f) := by
  obtain ⟨⟨oe, h1, h2, vs, h3⟩, _, _⟩ := I.hok a _ e
  obtain ⟨mA, hns, hr⟩ : ObjOk X.prog X.w H s.heap dd (.xd fs) := I.hok dd _ ed
  obtain ⟨od, ho, hl⟩ := lookIn_ns hns
  exact ⟨oe, od, mA, ⟨h1, h2.1, by unfold PySem.W.notCls; rw [h3], by rw [h2.2]; exact ho⟩, hl, hr⟩
/-- an exception that was caught stands at a, of the class at D -/
def CauAt (H : Hp) (a D : Addr) : Prop := H a = some (ExI a (.ref D) none) ∨ ∃ dd fs, H a = some (ExI a (.ref D) (some dd)) ∧ H dd = some (.xd fs)
/-- isinstance(e, c), e such an exception, or None -/
def rIsC (K : PySem.W.Frag) : List V → Hp → VK → Prop := fun xs H Q =>
  (∃ (a D : Addr) (c : V) (cv : Value) (b : Bool), xs = [.ref a, c] ∧ CauAt H a D ∧ ExcC K D ∧ (∀ u, RelV c u → u = cv) ∧ PySem.W.kitOne K (.ref D) cv = some b ∧ Q (.bl b) H) ∨
  ∃ (c : V) (cv : Value) (b : Bool), xs = [.non, c] ∧ ClsV c cv ∧ PySem.W.kitOne K (.type "NoneType") cv = some b ∧ Q (.bl b) H
theorem call_isC {X : Cx} : CallR X (.builtin "isinstance") (rIsC X.K) := by
  intro pins s σ H xs us Q I r h
  rcases h with ⟨a, D, c, cv, b, rfl, hA, C, hcv, e, q⟩ | ⟨c, cv, b, rfl, k, e, q⟩
  · obtain ⟨u1, u2, rfl, r1, r2⟩ := vals2 r
    cases (show u1 = Value.ref a from r1)
    have ec := hcv _ r2
    subst ec
    have J : ∃ ox od, PySem.W.InstAt s.heap a ox D od := by
      rcases hA with hA | ⟨dd, fs, h1, h2⟩
      · obtain ⟨oe, J⟩ := exI_inst I hA
        exact ⟨oe, none, J⟩
      · obtain ⟨oe, od, _, J, _⟩ := exI_instD I h1 h2
        exact ⟨oe, some od, J⟩
    exact PySem.W.kia_one (MyX.kitx_own C) I.kIn J e (fun z => nomatch z) fun tk => ⟨.bl b, H, I.kept (t' := tk) fun _ _ z => z, rfl, q⟩
  · obtain ⟨u1, u2, rfl, r1, r2⟩ := vals2 r
    have e2 := k.eq r2
    subst e2
    obtain ⟨P, Z, p, hx⟩ := kit_of I r1 (.base .non)
    exact PySem.W.kia_one Z I.kIn p e hx fun tk => ⟨.bl b, H, I.tok tk, rfl, q⟩
/-- e.f of such an exception -/
def tXfC (K : PySem.W.Frag) (n : Str) (te : TE) : TE := fun σ H Q => te σ H fun x H1 => ∃ (a C dd : Addr) (fs : List (Str × V)) (v : V), x = .ref a ∧ XfC K C ∧ PySem.W.findIn K (.ref C) n = some none ∧
  H1 a = some (ExI a (.ref C) (some dd)) ∧ H1 dd = some (.xd fs) ∧ fs.lookup n = some v ∧ Q v H1
theorem pe_xfC {X : Cx} {te : TE} {e : Expr} {n : Str} {pos : Pos} (he : PE X e te) (hb : attributeBase e n X.env (eval e X.env) = eval e X.env := by rfl) : PE X (.Attribute e n pos) (tXfC X.K n te) := by
  refine ⟨fun pins s σ H Q I h => attr_of hb (thn (he.run pins s σ H _ I h) fun u s1 hh => ?_)⟩
  obtain ⟨x, H1, I1, rx, a, C, dd, fs, v, ex, T, hno, ea, ed, l, q⟩ := hh
  subst ex
  obtain rfl : u = Value.ref a := rx
  obtain ⟨oe, od, mA, J, hl, hr⟩ := exI_instD I1 ea ed
  obtain ⟨u, hu, ru⟩ := RelO.some_of (v := v) (o := mA n) (by rw [← l]; exact hr n)
  exact HandSPX.exc_get I1.kIn J T.ga T.gg T.exC (PySem.W.findObj_own T.hdC hno rfl (by rw [hl, hu])) (handed_of ru) ⟨v, H1, I1.tok _, ru, q⟩
end L2
set_option Elab.async false
set_option linter.all false
set_option maxRecDepth 100000
set_option maxHeartbeats 4000000
namespace L2
open PySem PySem.Spec PyProof.Rows LamX
/-! ### f(k = e, ..) -/
section
variable {X : Cx} {CX : CXT} {k : Nat} {f : Addr} {fd : FuncData} {ps ks : List Str} {sp : Sp} {E : XK} {x : Str} {p pos : Pos} {kws : List Keyword} {tk : TA} {g : List Value → List Value} {gV : List V → List V}
def tCallW (m : Nat) (sp : Sp) (gV : List V → List V) (E : XK) (tk : TA) : TE := fun σ H Q => tk σ H fun zs H1 => zs.length = m ∧ sp (gV zs) H1 Q E
theorem pe_callW (F : FnOk X.prog X.w X.K X.mg X.base CX k f fd ps sp) (hr : Room k X.A) (hg : Gl X x) (hm : X.mg x = some (.ref f)) (hk : PySem.W.keepIn X.K (.ref f) = true) (hx : Passes CX X E) (hkw : PK X kws tk)
    (hb : ∀ (s : Shared) (ws : List Value), X.K.In s.heap → ws.length = ks.length → BindsTo s fd ⟨[], ks.zip ws⟩ (ps.zip (g ws))) (hrel : ∀ {zs : List V} {ws : List Value}, Vals zs ws → Vals (gV zs) (g ws))
    (hall : (backToKw pos (keywordEach kws X.env)).all (·.1.isSome) = true := by rfl) (hks : (backToKw pos (keywordEach kws X.env)).filterMap (·.1) = ks := by rfl) (hdb : (x == ("__debug__" : Str)) = false := by decide)
    (hpl : ((backTo pos (starEach [] X.env)).any (·.1) || (backToKw pos (keywordEach kws X.env)).any (·.1.isNone)) = false := by rfl) :
    PE X (.Call (.Name x p) [] kws pos) (tCallW ks.length sp gV E tk) := by
  refine ⟨fun pins s σ H Q I h => wpAny_Call_Name_kw (ld_glob I hg hm ?_ hdb)⟩
  refine PySem.W.callWith_KW0 (h₀ := X.base) I.ok.mod.kin hk hall ?_ hpl
  refine thn (hkw.run pos pins s σ H _ I h) fun ws s2 ⟨zs, H2, I2, rz, l2, q2⟩ => ⟨I2.kIn, ?_⟩
  rw [hks]
  refine wpAny_call (codeAny_mono (F.run X.A X.stack s2 H2 ⟨[], ks.zip ws⟩ (g ws) (gV zs) Q E hr I2.env0 (hb s2 ws I2.kIn (rz.length.symm.trans l2)) (hrel rz) q2) fun r s' hq => ?_)
  cases r with
  | error e => exact hx pins σ H2 s2 e s' I2 hq
  | ok fl =>
    cases fl with
    | ret u => exact I2.after hq
    | next => exact False.elim hq
    | brk => exact False.elim hq
    | cont => exact False.elim hq
end

/-! ### where no repr is under way -/
abbrev Grd (A : Around) : Prop := A.guards = some []
theorem Grd.deeper {A : Around} (h : Grd A) (q : Str) (sc : Scope) (L f : Addr) (cdv : Value) : Grd (A.deeper (envOfC q sc L f cdv)) := by
  show (A.deeper (envOfC q sc L f cdv)).guards = some []
  have e : (A.deeper (envOfC q sc L f cdv)).guards = A.guards := by rfl
  rw [e]
  exact h
theorem grd_caller : Grd callerA := by rfl
/-- a def's promise, where no repr is under way -/
structure FnG (P : Program) (w : World) (K : PySem.W.Frag) (mg : Str → Option Value) (base : Heap) (CX : CXT) (k : Nat) (f : Addr) (fd : FuncData) (ps : List Str) (sp : Sp) : Prop where
  len : ∀ vs H Q E, sp vs H Q E → vs.length = ps.length
  run : ∀ (A : Around) (outer : List Env) (s : Shared) (H : Hp) (args : Args) (us : List Value) (vs : List V) (Q : VK) (E : XK), Room k A → Grd A → Env0 P w K mg base A outer s H → BindsTo s fd args (ps.zip us) → Vals vs us → sp vs H Q E →
    codeAny (model P w) A (.call (.ref f) args) (CR CX outer P w H s Q E) s
section
variable {P : Program} {w : World} {K : PySem.W.Frag} {mg : Str → Option Value} {base : Heap}
theorem Fun.okG {x qual : Str} {st : Stmt} {f : Addr} {fd : FuncData} {N ps : List Str} {k : Nat} {sp : Sp} (F : Fun K x qual st f fd) (S : FnScope N ps (defScope st)) (len : ∀ vs H Q E, sp vs H Q E → vs.length = ps.length)
    (hbody : ∀ (cdv : Value) (A : Around) (outer : List Env) (s : Shared) (H : Hp) (vs : List V) (Q : VK) (E : XK), Room k (A.deeper (envOfC qual (defScope st) s.heap.objs.size f cdv)) → Grd (A.deeper (envOfC qual (defScope st) s.heap.objs.size f cdv)) → sp vs H Q E →
      ∃ t, PSs (cxOf CX0 P w K mg base N qual (defScope st) f cdv A outer s H E).nox (defBody st) t ∧ t { nx := fun _ H' => Q .non H', rt := Q } (start N vs) H) : FnG P w K mg base CX0 (k + 1) f fd ps sp := by
  obtain ⟨oc, od, kV, doc, pm, an, cdv, ct, osl, rfl, lk, hcd⟩ := F.ex
  refine ⟨len, fun A outer s H args us vs Q E hr hgd e0 hb rv hsp => ?_⟩
  exact run_ofS lk hcd S hr e0 hb rv (len _ _ _ _ hsp) fun hr' => by
    obtain ⟨t, h1, h2⟩ := hbody cdv A outer s H vs Q E hr' (hgd.deeper _ _ _ _ _) hsp
    exact ⟨t, h1.nox, h2⟩
end
section
variable {X : Cx} {CX : CXT} {k : Nat} {f : Addr} {fd : FuncData} {ps : List Str} {sp : Sp} {E : XK} {x : Str} {p pos : Pos} {e : Expr} {es : List Expr} {t : TA}
theorem pe_callG (F : FnG X.prog X.w X.K X.mg X.base CX k f fd ps sp) (hr : Room k X.A) (hgd : Grd X.A) (hg : Gl X x) (hm : X.mg x = some (.ref f)) (hk : PySem.W.keepIn X.K (.ref f) = true) (hb : Binds X.K fd ps []) (hx : Passes CX X E) (ha : PA X (e :: es) t)
    (hdb : (x == ("__debug__" : Str)) = false := by decide) (he : starEach (e :: es) X.env = (false, eval e X.env) :: starEach es X.env := by rfl) (hpl : (backTo pos (starEach es X.env)).any (·.1) = false := by rfl) :
    PE X (.Call (.Name x p) (e :: es) [] pos) (tCall sp [] E t) := by
  refine ⟨fun pins s σ H Q I h => wpAny_Call_Name_kw (ld_glob I hg hm ?_ hdb)⟩
  refine PySem.W.callWith_K (h₀ := X.base) I.ok.mod.kin hk (thn (ha.run pos pins s σ H _ I h) fun us s1 ⟨vs, H1, I1, r, q⟩ => ⟨I1.kIn, ?_⟩) he hpl
  have q' : sp vs H1 Q E := by
    have q2 : sp (vs ++ []) H1 Q E := q
    rw [List.append_nil] at q2
    exact q2
  have b := hb s1 us I1.kIn (by rw [List.append_nil, ← r.length]; exact F.len _ _ _ _ q')
  rw [List.append_nil] at b
  show wpAny _ _ (call (.ref f) us) _ _ _
  refine wpAny_call (codeAny_mono (F.run X.A X.stack s1 H1 ⟨us, []⟩ us vs Q E hr hgd I1.env0 b r q') fun r s' hq => ?_)
  cases r with
  | error e => exact hx pins σ H1 s1 e s' I1 hq
  | ok fl =>
    cases fl with
    | ret u => exact I1.after hq
    | next => exact False.elim hq
    | brk => exact False.elim hq
    | cont => exact False.elim hq
/-- repr of a list, a tuple, an int -/
def rRepr (K : PySem.W.Frag) : List V → Hp → VK → Prop := fun xs H Q => (∃ i, xs = [.int i] ∧ i.natAbs.log2 < 1920 ∧ Q (.str (toString i)) H) ∨
  ∃ (a : Addr) (d : PyData), xs = [.ref a] ∧ Dp K H (.ref a) d ∧ d.canLay0 = true ∧ d.depth ≤ 100 ∧ d.showable = true ∧ d.shown.length ≤ sizeLine ∧ Q (.str d.shown) H
theorem call_reprD (hr : Room 0 X.A) (hgd : Grd X.A) : CallR X (.builtin "repr") (rRepr X.K) := by
  intro pins s σ H xs us Q I r h
  rcases h with ⟨i, rfl, hz, q⟩ | ⟨a, d, rfl, dp, lay, dep, shw, sz, q⟩
  · obtain ⟨u, rfl, t, rfl⟩ := vals1 r
    exact PySem.P.repr_of_int hz ⟨.str _, H, I.tok _, ⟨_, rfl⟩, q⟩
  · obtain ⟨u, rfl, ru⟩ := vals1 r
    obtain ⟨as, rd⟩ := dp.reads I d _ u ru
    obtain rfl : u = Value.ref a := ru
    have nd : d.hasDict = false := PyData.hasDict_of_canLay d lay
    have un := hr.un
    refine repr_of_reads' (h₀ := s.heap) rd shw (fun z => by rw [nd] at z; cases z) hgd (by omega) (fun _ _ e => e) (fun h' u tk hk => ?_) sz
    exact ⟨.str _, H, I.kept hk, ⟨_, rfl⟩, q⟩
end
end L2
set_option Elab.async false
set_option linter.all false
set_option maxRecDepth 100000
set_option maxHeartbeats 4000000
namespace L2
open PySem PySem.Spec PyProof.Rows LamX
/-! ### the law's own call, from the heap behind the top -/
abbrev tblObj : Obj := { cls := .none, data := .fields #[] }
abbrev scrObj (vs : List Value) : Obj := { cls := .type "list", data := .seq vs.toArray }
/-- at the start the tables are tracked, and the script if the top has not written it -/
def startH (a : Addr) (o : Obj) (xs : List V) (ts : List Addr) (own : Bool) : Hp := fun b => if b ∈ ts then some (.tbl #[]) else if own = true ∧ b = a then some (.frz o (.lst xs)) else none
section
variable {a b : Addr} {o : Obj} {xs : List V} {ts : List Addr} {own : Bool}
theorem startH_tbl (h : b ∈ ts) : startH a o xs ts own b = some (.tbl #[]) := if_pos h
theorem startH_scr (h : a ∉ ts) : startH a o xs ts true a = some (.frz o (.lst xs)) := (if_neg h).trans (if_pos ⟨rfl, rfl⟩)
theorem startH_cases {u : HO} (h : startH a o xs ts own b = some u) : (b ∈ ts ∧ u = .tbl #[]) ∨ (b ∉ ts ∧ own = true ∧ b = a ∧ u = .frz o (.lst xs)) := by
  unfold startH at h
  split at h
  · rename_i hb
    exact .inl ⟨hb, (Option.some.inj h).symm⟩
  · rename_i hb
    split at h
    · rename_i hc
      exact .inr ⟨hb, hc.1, hc.2, (Option.some.inj h).symm⟩
    · cases h
end
/-- what the law's def must be, over the heap behind the top: cs, its code objects with their tables -/
structure LawG (P : Program) (w : World) (K : PySem.W.Frag) (k n : Nat) (x : Str) (mg : Str → Option Value) (fa : Addr) (h : Heap) (cs : List (Addr × Addr)) : Prop where
  hT : ∀ p ∈ cs, h.get? p.2 = some tblObj
  nT : ∀ p ∈ cs, K.lookup p.2 = none
  C : ∀ p ∈ cs, PySem.W.CodeHd h p.1 p.2
  F : ∃ (fd : FuncData) (sp : Sp), (∀ (s : Shared) (u : Value), BindsTo s fd ⟨[u], []⟩ [(x, u)]) ∧
    (∀ (H : Hp) (a : Addr) (ns : List Int), ns.length ≤ n → (∀ z ∈ ns, Builtin.Int.intBits z ≤ 1048576) → (∀ p ∈ cs, H p.2 = some (.tbl #[])) → SqL K H a (ns.map V.int) → sp [.ref a] H (fun v _ => v = .bl true) fun _ _ _ => False) ∧
    ∀ base : Heap, K.In base → base.Ns mainGlobals mg → (∀ p ∈ cs, TabB base mg p.1 p.2) → FnG P w K mg base CX0 k fa fd [x] sp
theorem law_callG {P : Program} {w : World} {K : PySem.W.Frag} {mg mb : Str → Option Value} {k n : Nat} {fa a : Addr} {cs : List (Addr × Addr)} {x : Str} {s₁ : Shared} {vs : List Value} {ns : List Int}
    (KX : K.In s₁.heap) (hns : s₁.heap.Ns mainGlobals mg) (hb : s₁.heap.Ns builtinsNs mb) (hbb : ∀ x : Str, x ≠ "__name__" → mb x = bootBuiltins x) (hlim : s₁.heap.NoLimit) (hg : s₁.gens = #[])
    (hbm : ∃ (bm : Addr) (ob : Obj), mg "__builtins__" = some (.ref bm) ∧ bm ≠ builtinsNs ∧ s₁.heap.get? bm = some ob ∧ ob.cls = .type "module" ∧ ob.dict = some builtinsNs ∧ ob.data = .plain)
    (ha : s₁.heap.get? a = some (scrObj vs)) (hi : IntsAre vs ns) (hl : ns.length ≤ n) (hn2 : n ≤ sizeLine) (hbits : ∀ z ∈ ns, Builtin.Int.intBits z ≤ 1048576) (hr : Room k callerA) (G : LawG P w K k n x mg fa s₁.heap cs) :
    codeAny (model P w) callerA (.call (.ref fa) ⟨[.ref a], []⟩) (fun r s' => r = .ok (.ret (.bool true)) ∧ OldK s₁.heap s'.heap ∧ s'.os = s₁.os ∧ AllBare s'.gens) s₁ := by
  obtain ⟨fd, sp, bnd, hsp, hF⟩ := G.F
  have rv := vals_ints hi
  generalize hts : cs.map (·.2) = ts
  have inT : ∀ p ∈ cs, p.2 ∈ ts := fun p hp => hts ▸ List.mem_map.mpr ⟨p, hp, rfl⟩
  have ofT : ∀ {b}, b ∈ ts → ∃ p ∈ cs, p.2 = b := fun {b} m => List.mem_map.mp (hts ▸ m)
  have objT : ∀ {b o}, b ∈ ts → s₁.heap.get? b = some o → o = tblObj := fun {b o} m e => by
    obtain ⟨p, hp, rfl⟩ := ofT m
    exact Option.some.inj (e.symm.trans (G.hT p hp))
  have aT : a ∉ ts := fun m => by
    have q := objT m ha
    cases congrArg Obj.cls q
  let own : Bool := (K.lookup a).isNone
  generalize hH : startH a (scrObj vs) (ns.map V.int) ts own = H
  have cas : ∀ {b u}, H b = some u → (b ∈ ts ∧ u = .tbl #[]) ∨ (b ∉ ts ∧ own = true ∧ b = a ∧ u = .frz (scrObj vs) (.lst (ns.map V.int))) := fun {b u} e => startH_cases (hH ▸ e)
  have tb : ∀ p ∈ cs, H p.2 = some (.tbl #[]) := fun p hp => hH ▸ startH_tbl (inT p hp)
  -- an object of another make is not tracked
  have unt : ∀ {b o}, s₁.heap.get? b = some o → o ≠ tblObj → o ≠ scrObj vs → H b = none := fun {b o} e n1 n2 => by
    cases q : H b with
    | none => rfl
    | some u =>
      rcases cas q with ⟨m, _⟩ | ⟨_, _, e', _⟩
      · exact (n1 (objT m e)).elim
      · rw [e', ha] at e
        exact (n2 (Option.some.inj e).symm).elim
  have untK : ∀ {b o}, K.lookup b = some o → H b = none := fun {b o} e => by
    cases q : H b with
    | none => rfl
    | some u =>
      rcases cas q with ⟨m, _⟩ | ⟨_, ho, e', _⟩
      · obtain ⟨p, hp, rfl⟩ := ofT m
        rw [G.nT p hp] at e
        cases e
      · rw [e'] at e
        have ho' : (K.lookup a).isNone = true := ho
        rw [e] at ho'
        cases ho'
  have dictN : ∀ {b o es ep}, s₁.heap.get? b = some o → o.data = .dict es ep → H b = none := fun {b o es ep} e d => unt e (fun z => by rw [z] at d; cases d) fun z => by rw [z] at d; cases d
  have nsN : ∀ {b m}, s₁.heap.Ns b m → (hidT s₁.heap H).Ns b m := fun {b m} ⟨o, es, ep, e, d, r⟩ => ⟨o, es, ep, hidT_get e (dictN e d), d, r⟩
  have KN : K.In (hidT s₁.heap H) := fun b o e => hidT_get (KX b o e) (untK e)
  have hSq : SqL K H a (ns.map V.int) := by
    cases q : K.lookup a with
    | none =>
      have e : own = true := by
        show (K.lookup a).isNone = true
        rw [q]
        rfl
      exact .inl (.inr ⟨scrObj vs, by rw [← hH, e]; exact startH_scr aT⟩)
    | some o =>
      have e := (KX a o q).symm.trans ha
      cases e
      exact .inr ⟨_, vs.toArray, _, q, rfl, rfl, rfl, by rw [List.size_toArray, hi.length]; omega, by simpa using rv⟩
  have hok : HOk P w H s₁.heap := fun b u e => by
    rcases cas e with ⟨m, rfl⟩ | ⟨_, _, rfl, rfl⟩
    · obtain ⟨p, hp, rfl⟩ := ofT m
      exact G.hT p hp
    · exact ⟨ha, by rw [List.length_map]; omega, vs, _, rv, ha⟩
  have tabs : ∀ p ∈ cs, TabB (hidT s₁.heap H) mg p.1 p.2 := fun p hp => by
    have e0 := G.hT p hp
    refine ⟨?_, ?_, fun z => ?_⟩
    · obtain ⟨o, us, file, tf, flags, tg, inF, text, tt, e1, r1, r2, r3, rest⟩ := G.C p hp
      refine ⟨o, us, file, tf, flags, tg, inF, text, tt, hidT_get e1 (unt e1 (fun z => ?_) fun z => ?_), r1, r2, r3, rest⟩
      · rw [z] at r2
        cases r2
        simp at r3
      · rw [z] at r2
        cases r2
    · obtain ⟨bm, ob, b1, b2, b3, b4, b5, b6⟩ := hbm
      refine ⟨bm, ob, b1, b2, fun q => ?_, fun q => ?_, hidT_get b3 (unt b3 (fun z => ?_) fun z => ?_), b4, b5, b6⟩
      · obtain ⟨o, es, ep, e, hd, _⟩ := hns
        rw [← q, b3] at e
        cases e
        rw [hd] at b6
        cases b6
      · rw [q, e0] at b3
        cases b3
        cases b6
      · rw [z] at b6
        cases b6
      · rw [z] at b6
        cases b6
    · obtain ⟨o, es, ep, e, hd, _⟩ := hns
      rw [z, e0] at e
      cases e
      cases hd
  have env : Env0 P w K mg (hidT s₁.heap H) callerA [] s₁ H := ⟨rfl, ⟨KN, nsN hns, ⟨mb, nsN hb, hbb⟩, let ⟨mc, h1, h2⟩ := hlim; ⟨mc, nsN h1, h2⟩⟩, fun b o e => of_hidT e, Nat.le_of_eq (hidT_size _ _), trivial, (fun b hb => nomatch hb), hok, .of_eq hg⟩
  refine codeAny_mono ((hF _ KN (nsN hns) tabs).run callerA [] s₁ H ⟨[.ref a], []⟩ [.ref a] [.ref a] _ _ hr grd_caller env (bnd s₁ (.ref a)) (.cons rfl .nil) (hsp H a ns hl hbits tb hSq)) fun r s' h => ?_
  cases r with
  | error e => exact (show False from h).elim
  | ok fl =>
   cases fl with
   | next => exact False.elim h
   | brk => exact False.elim h
   | cont => exact False.elim h
   | ret u =>
    obtain ⟨v, H', os, bare, un, hok', r', q⟩ := h
    obtain rfl : v = .bl true := q
    obtain rfl : u = Value.bool true := r'
    have kp : ∀ b o, b ∉ ts → s₁.heap.get? b = some o → s'.heap.get? b = some o := fun b o nb e => by
      cases q : H b with
      | none => exact un.keep b o e q (fun z => nomatch (show b ∈ ([] : List Addr) from z)) (fun z => nomatch z)
      | some u =>
        rcases cas q with ⟨m, _⟩ | ⟨_, _, rfl, rfl⟩
        · exact (nb m).elim
        · obtain ⟨w1, _⟩ := hok' _ _ (un.frzs _ _ _ q)
          rw [ha] at e
          cases e
          exact w1
    have gr : ∀ b ∈ ts, ∃ p ∈ cs, p.2 = b ∧ ∃ more : Array Value, s'.heap.get? b = some { cls := .none, data := .fields more } := fun b m => by
      obtain ⟨p, hp, rfl⟩ := ofT m
      obtain ⟨more, z⟩ := un.tbls p.2 #[] (tb p hp)
      exact ⟨p, hp, rfl, _, hok' p.2 _ z⟩
    refine ⟨rfl, ⟨fun b o e => ?_, fun b o e => ?_⟩, os, bare⟩
    · by_cases m : b ∈ ts
      · obtain ⟨p, hp, rfl, more, hm⟩ := gr b m
        cases objT m e
        exact .inr (.inl ⟨((G.C p hp).tab (G.hT p hp)).isCodeTable, rfl, #[], more, rfl, by rw [Array.empty_append]; exact hm⟩)
      · exact .inl (kp b o m e)
    · by_cases m : b ∈ ts
      · obtain ⟨p, hp, rfl, more, hm⟩ := gr b m
        exact ⟨_, hm⟩
      · exact ⟨o, kp b o m e⟩
theorem walk_G {l : PySem.W.OpenLaw} {n k : Nat} {q : Program} {loose : List Str} {XP : (Str → Option Value) → Heap → Prop} {YP : World → Heap → Prop} {d : DefRec} {K : Params → PySem.W.Frag} {x : Str}
    (hn : l.most = some n) (hn2 : n ≤ sizeLine) (hdf : d.params.defaults = []) (hr : Room k callerA) (hY : ∀ (w : World) (h : Heap), YP w h → (K w.params).In h)
    (F : ∀ (w : World) (mg : Str → Option Value) (fa : Addr) (h : Heap), YP w h → (K w.params).In h → h.Ns mainGlobals mg → mg d.name = some (.ref fa) → ∃ cs, LawG l.prog w (K w.params) k n x mg fa h cs) :
    PySem.W.WalkO q loose XP YP l.row.toRowW d [] (fun f vs => PySem.call f vs) := by
  refine Att.attach_callB hn hdf fun w s₀ s₁ mg mb fa o pm cd doc a vs ns G Y ho hd hcd hmg hobj hints hlen hbits hg => ?_
  obtain ⟨cs, L⟩ := F w mg fa _ Y (hY w _ Y) G.T.g hmg
  exact law_callG (hY w _ Y) G.T.g G.T.b G.T.builtins G.T.nolimit hg G.T.bmain hobj hints hlen hn2 hbits hr L
end L2
set_option Elab.async false
set_option linter.all false
set_option maxRecDepth 100000
set_option maxHeartbeats 4000000
namespace L2
open PySem PySem.Spec PyProof.Rows LamX
/-- the law's end, the tables of the top's code objects at hand -/
theorem walk_T {l : PySem.W.OpenLaw} {n k : Nat} {q : Program} {loose : List Str} {XP : (Str → Option Value) → Heap → Prop} {YP : World → Heap → Prop} {d : DefRec} {K : Params → PySem.W.Frag} {x : Str}
    (hn : l.most = some n) (hn2 : n ≤ sizeLine) (hdf : d.params.defaults = []) (hr : Room k callerA) (hY : ∀ (w : World) (h : Heap), YP w h → (K w.params).In h)
    (F : ∀ (w : World) (mg : Str → Option Value) (fa : Addr) (h : Heap), (K w.params).In h → h.Ns mainGlobals mg → mg d.name = some (.ref fa) →
      (∀ (y : Str) (d' : DefRec) (c P : Addr), (PyProof.Rows.recsOf q).find? (fun e => e.name == y) = some d' → PySem.W.tabIn (K w.params) y = some (c, P) → PySem.W.CodeHd h c P ∧ h.get? P = some tblObj) → ∃ cs, LawG l.prog w (K w.params) k n x mg fa h cs) :
    PySem.W.WalkO q loose XP YP l.row.toRowW d [] (fun f vs => PySem.call f vs) := by
  refine Att.attach_callB hn hdf fun w s₀ s₁ mg mb fa o pm cd doc a vs ns G Y ho hd hcd hmg hobj hints hlen hbits hg => ?_
  obtain ⟨cs, L⟩ := F w mg fa _ (hY w _ Y) G.T.g hmg fun y d' c P hr ht => PySem.W.tab_of G.T (hY w _ Y) hr ht
  exact law_callG (hY w _ Y) G.T.g G.T.b G.T.builtins G.T.nolimit hg G.T.bmain hobj hints hlen hn2 hbits hr L
/-! ### checks over the written part -/
def bmVE : List Value := [.type "ValueError", .type "Exception", .type "BaseException", .type "object"]
open PySem.W in
def ecB (K : Frag) (D : Addr) : Bool :=
  decide (findIn K (.ref D) "__getattribute__" = some (some (.builtin "BaseException.__getattribute__"))) && (decide (findIn K (.ref D) "__getattr__" = some none) && (decide (subIn K (.ref D) (.type "BaseException") = some true) &&
    (hasDictIn K D && (decide (findIn K (.ref D) "__class__" = some (some (.builtin "object.__class__"))) && (decide (specialIn K (.builtin "object.__class__") "__get__" = some (some (.builtin "getset_descriptor.__get__"))) &&
    (decide (takesIn K (.builtin "object.__class__") = some true) && decide (mroIn K D (.type "object") = some true)))))))
theorem ecB_ok {K : PySem.W.Frag} {D : Addr} (h : ecB K D = true) : ExcC K D := by
  unfold ecB at h
  simp only [Bool.and_eq_true, decide_eq_true_eq] at h
  obtain ⟨h1, h2, h3, h4, h5, h6, h7, h8⟩ := h
  exact ⟨h1, h2, h3, h4, h5, h6, h7, h8⟩
/-- a class of errors without fields, under the one at HE -/
structure ErrK (K : PySem.W.Frag) (C HE : Addr) : Prop where
  kC : PySem.W.keepIn K (.ref C) = true
  q : PySem.W.excIn K C [.type "ValueError", .type "Exception", .type "BaseException", .type "object"] "ValueError.__new__" = true
  sB : PySem.W.subIn K (.ref C) (.type "BaseException") = some true
  tC : PySem.W.typeIn K (.ref C) = some (.type "type")
  ec : ExcC K C
  em : PySem.W.exmOne K (.ref C) (.ref HE) = some true
  kit : PySem.W.kitOne K (.ref C) (.ref C) = some true
open PySem.W in
def errB (K : Frag) (C HE : Addr) : Bool :=
  keepIn K (.ref C) && (excIn K C bmVE "ValueError.__new__" && (decide (subIn K (.ref C) (.type "BaseException") = some true) && (decide (typeIn K (.ref C) = some (.type "type")) && (ecB K C && (decide (exmOne K (.ref C) (.ref HE) = some true) && decide (kitOne K (.ref C) (.ref C) = some true))))))
theorem errB_ok {K : PySem.W.Frag} {C HE : Addr} (h : errB K C HE = true) : ErrK K C HE := by
  unfold errB at h
  simp only [Bool.and_eq_true, decide_eq_true_eq] at h
  obtain ⟨h1, h2, h3, h4, h5, h6, h7⟩ := h
  exact ⟨h1, h2, h3, h4, ecB_ok h5, h6, h7⟩
end L2
set_option Elab.async false
set_option linter.all false
set_option maxRecDepth 100000
set_option maxHeartbeats 4000000
namespace Kn
open PySem L2
/-! ### data -/
theorem eqv_str (d : PyData) (s : Str) : PyData.eqv d (.str s) = true ↔ d = .str s := by
  cases d <;> simp [PyData.eqv]
theorem eqv_one_str (d : PyData) (s : Str) : PyData.eqv d (.tuple [.str s]) = true ↔ d = .tuple [.str s] := by
  cases d with
  | tuple xs =>
    match xs with
    | [] => simp [PyData.eqv, PyData.eqvAll]
    | [x] => simp [PyData.eqv, PyData.eqvAll, eqv_str]
    | x :: y :: r => simp [PyData.eqv, PyData.eqvAll]
  | _ => simp [PyData.eqv]

/-- a kind -/
inductive Kd where
  | text
  | to (a b : Kd)
  deriving DecidableEq
namespace Kd
def data : Kd → PyData
  | .text => .tuple [.str "text"]
  | .to a b => .tuple [.str "to", a.data, b.data]
def ends : Kd → Nat
  | .text => 1
  | .to a b => a.ends + b.ends
theorem ends_pos : ∀ k : Kd, 1 ≤ k.ends
  | .text => Nat.le_refl _
  | .to a b => Nat.le_trans a.ends_pos (Nat.le_add_right _ _)
def deep : Kd → Nat
  | .text => 1
  | .to a b => 1 + max a.deep b.deep
theorem deep_ends : ∀ k : Kd, k.deep ≤ k.ends
  | .text => Nat.le_refl _
  | .to a b => by
    have h1 := deep_ends a
    have h2 := deep_ends b
    have h3 := a.ends_pos
    have h4 := b.ends_pos
    simp only [deep, ends]
    omega
theorem data_depth : ∀ k : Kd, k.data.depth = k.deep
  | .text => by simp [data, deep, PyData.depth, PyData.depthAll]
  | .to a b => by
    have h1 := data_depth a
    have h2 := data_depth b
    simp only [data, deep, PyData.depth, PyData.depthAll, h1, h2]
    omega
theorem data_lay : ∀ k : Kd, k.data.canLay0 = true
  | .text => by
    simp only [data, PyData.canLay0, PyData.canLayAll0, Bool.and_true]
    decide +kernel
  | .to a b => by
    simp only [data, PyData.canLay0, PyData.canLayAll0, data_lay a, data_lay b, Bool.and_true]
    decide +kernel
end Kd
/-- the kind that a datum is -/
def parse : PyData → Option Kd
  | .tuple [.str s] => if s = "text" then some .text else none
  | .tuple [.str s, x, y] => if s = "to" then (parse x).bind fun a => (parse y).bind fun b => some (.to a b) else none
  | _ => none
termination_by d => sizeOf d
theorem parse_data : ∀ k : Kd, parse k.data = some k
  | .text => by simp [Kd.data, parse]
  | .to a b => by simp [Kd.data, parse, parse_data a, parse_data b]
theorem of_parse (d : PyData) : ∀ k : Kd, parse d = some k → d = k.data := by
  fun_induction parse d with
  | case1 =>
    intro k h
    cases h
    rfl
  | case2 s e => intro k h; cases h
  | case3 x y ih1 ih2 =>
    intro k h
    obtain ⟨a, ha, h⟩ := Option.bind_eq_some_iff.mp h
    obtain ⟨b, hb, h⟩ := Option.bind_eq_some_iff.mp h
    cases h
    rw [ih1 a ha, ih2 b hb]
    rfl
  | case4 s x y e => intro k h; cases h
  | case5 d h1 h2 => intro k h; cases h
/-- how many ends a datum has, built as kinds are -/
def endsD (d : PyData) : Option Nat := (parse d).map Kd.ends
/-- is_kind's answer -/
def isKd (d : PyData) : Bool := match endsD d with
  | some n => decide (n ≤ 60)
  | none => false
/-- all of them, summed -/
def tot : List PyData → Option Nat
  | [] => some 0
  | d :: r => (endsD d).bind fun n => (tot r).map fun m => n + m
theorem tot_len : ∀ {ds : List PyData} {n : Nat}, tot ds = some n → ds.length ≤ n
  | [], n, _ => Nat.zero_le _
  | d :: r, n, h => by
    obtain ⟨a, ha, h⟩ := Option.bind_eq_some_iff.mp h
    obtain ⟨b, hb, e⟩ := Option.map_eq_some_iff.mp h
    obtain ⟨k, _, ek⟩ := Option.map_eq_some_iff.mp ha
    have := tot_len hb
    have := k.ends_pos
    rw [List.length_cons]
    omega
theorem tot_snoc : ∀ (ds : List PyData) (d : PyData), tot (ds ++ [d]) = (tot ds).bind fun m => (endsD d).map fun n => m + n
  | [], d => by
    simp only [List.nil_append, tot, Option.bind_some]
    cases endsD d <;> simp
  | c :: r, d => by
    show (endsD c).bind (fun n => (tot (r ++ [d])).map fun m => n + m) = ((endsD c).bind fun n => (tot r).map fun m => n + m).bind fun m => (endsD d).map fun n => m + n
    rw [tot_snoc r d]
    cases endsD c <;> cases tot r <;> cases endsD d <;> simp
    omega
/-- what the loop of is_kind keeps: e ends so far, ds still to look at -/
def ans (e : Nat) (ds : List PyData) : Bool := match tot ds with
  | some n => decide (e + n ≤ 60)
  | none => false
theorem ans_start (d : PyData) : ans 0 [d] = isKd d := by
  unfold ans isKd tot tot
  cases endsD d <;> simp
theorem ans_done (e : Nat) (h : e ≤ 60) : ans e [] = true := by
  simp [ans, tot, h]
theorem ans_text (e : Nat) (ds : List PyData) : ans e (ds ++ [.tuple [.str "text"]]) = ans (e + 1) ds := by
  unfold ans
  have q : endsD (.tuple [.str "text"]) = some 1 := by simp [endsD, parse, Kd.ends]
  rw [tot_snoc, q]
  cases tot ds with
  | none => rfl
  | some n =>
    show decide (e + (n + 1) ≤ 60) = decide (e + 1 + n ≤ 60)
    congr 1
    exact propext ⟨fun h => by omega, fun h => by omega⟩
theorem ans_to (e : Nat) (ds : List PyData) (x y : PyData) : ans e (ds ++ [.tuple [.str "to", x, y]]) = ans e (ds ++ [y] ++ [x]) := by
  unfold ans
  have q : endsD (.tuple [.str "to", x, y]) = (endsD x).bind fun a => (endsD y).map fun b => a + b := by
    unfold endsD
    rw [parse]
    simp only [if_true]
    cases parse x <;> cases parse y <;> simp [Kd.ends]
  rw [tot_snoc, tot_snoc, tot_snoc, q]
  cases tot ds <;> cases endsD x <;> cases endsD y <;> simp
  omega
theorem ans_many (e : Nat) (ds : List PyData) (h : 60 < e + ds.length) : ans e ds = false := by
  unfold ans
  cases q : tot ds with
  | none => rfl
  | some n =>
    have := tot_len q
    exact decide_eq_false (by omega)
/-- a datum that is neither -/
theorem ans_no (e : Nat) (ds : List PyData) (d : PyData) (h1 : d ≠ .tuple [.str "text"]) (h2 : ∀ x y, d ≠ .tuple [.str "to", x, y]) : ans e (ds ++ [d]) = false := by
  have q : endsD d = none := by
    unfold endsD
    rw [Option.map_eq_none_iff]
    cases r : parse d with
    | none => rfl
    | some k =>
      have e := of_parse d k r
      cases k with
      | text => exact (h1 e).elim
      | to a b => exact (h2 _ _ e).elim
  unfold ans
  rw [tot_snoc, q]
  cases tot ds <;> rfl
theorem isKd_data (k : Kd) : isKd k.data = decide (k.ends ≤ 60) := by
  unfold isKd endsD
  rw [parse_data]
  rfl
theorem isKd_true {d : PyData} (h : isKd d = true) : ∃ k : Kd, d = k.data ∧ k.ends ≤ 60 := by
  unfold isKd endsD at h
  cases q : parse d with
  | none => rw [q] at h; cases h
  | some k =>
    rw [q] at h
    exact ⟨k, of_parse d k q, of_decide_eq_true h⟩

theorem nil_or_snoc {α : Type} (l : List α) : l = [] ∨ ∃ l' x, l = l' ++ [x] := by
  rcases List.eq_nil_or_concat l with h | ⟨l', x, h⟩
  · exact .inl h
  · exact .inr ⟨l', x, by rw [h, List.concat_eq_append]⟩
theorem sz_pos (d : PyData) : 0 < sizeOf d := by cases d <;> simp <;> omega
theorem sz_to (x y : PyData) : sizeOf x + sizeOf y < sizeOf (PyData.tuple [.str "to", x, y]) := by
  simp
  omega
/-! ### data in the heap -/
theorem same_new {H : Hp} {D : Addr} {o : HO} (hD : H D = none) : Same H (upd H D o) := fun b u e => by
  rw [upd_ne (ne_of_none e hD)]
  exact e
mutual
theorem dp_same {K : PySem.W.Frag} {H H' : Hp} (e : Same H H') : ∀ {v : V} {d : PyData}, Dp K H v d → Dp K H' v d
  | _, _, .non => .non
  | _, _, .bl b => .bl b
  | _, _, .int i => .int i
  | _, _, .str x => .str x
  | _, _, .lst h r => .lst (e.seq h) (dpAll_same e r)
  | _, _, .tup h r => .tup (by
      rcases h with (h | ⟨o, h⟩) | h
      · exact .inl (.inl (e _ _ h))
      · exact .inl (.inr ⟨o, e _ _ h⟩)
      · exact .inr h) (dpAll_same e r)
theorem dpAll_same {K : PySem.W.Frag} {H H' : Hp} (e : Same H H') : ∀ {vs : List V} {ds : List PyData}, DpAll K H vs ds → DpAll K H' vs ds
  | _, _, .nil => .nil
  | _, _, .cons h r => .cons (dp_same e h) (dpAll_same e r)
end
theorem seqT_same {K : PySem.W.Frag} {H H' : Hp} (e : Same H H') {a : Addr} {xs : List V} (h : SqT K H a xs) : SqT K H' a xs := by
  rcases h with (h | ⟨o, h⟩) | h
  · exact .inl (.inl (e _ _ h))
  · exact .inl (.inr ⟨o, e _ _ h⟩)
  · exact .inr h
theorem dpAll_len {K : PySem.W.Frag} {H : Hp} : ∀ {vs : List V} {ds : List PyData}, DpAll K H vs ds → vs.length = ds.length
  | _, _, .nil => rfl
  | _, _, .cons _ r => by rw [List.length_cons, List.length_cons, dpAll_len r]
theorem dpAll_snoc {K : PySem.W.Frag} {H : Hp} : ∀ {vs : List V} {ds : List PyData} {v : V} {d : PyData}, DpAll K H vs ds → Dp K H v d → DpAll K H (vs ++ [v]) (ds ++ [d])
  | _, _, _, _, .nil, h => .cons h .nil
  | _, _, _, _, .cons a r, h => .cons a (dpAll_snoc r h)
theorem dpAll_unsnoc {K : PySem.W.Frag} {H : Hp} : ∀ {vs : List V} {ds : List PyData} {v : V}, DpAll K H (vs ++ [v]) ds → ∃ ds' d, ds = ds' ++ [d] ∧ DpAll K H vs ds' ∧ Dp K H v d
  | [], _, v, .cons h .nil => ⟨[], _, rfl, .nil, h⟩
  | x :: r, _, v, .cons h t => by
    obtain ⟨ds', d, e, h1, h2⟩ := dpAll_unsnoc (vs := r) t
    exact ⟨_ :: ds', d, by rw [e]; rfl, .cons h h1, h2⟩
/-- the name of a datum's class -/
def tyName : PyData → String
  | .none => "NoneType"
  | .bool _ => "bool"
  | .int _ => "int"
  | .str _ => "str"
  | .list _ => "list"
  | .tuple _ => "tuple"
  | .dict _ => "dict"
theorem tyX_list {K : PySem.W.Frag} {H : Hp} {a : Addr} {xs : List V} (h : SqL K H a xs) : TyX K H (.ref a) (.type "list") := by
  rcases h with (h | ⟨o, h⟩) | ⟨o, its, n, h, c, _⟩
  · exact .base (.lst h)
  · exact .base (.frz h)
  · exact .kList h c
theorem tyX_tup {K : PySem.W.Frag} {H : Hp} {a : Addr} {xs : List V} (h : SqT K H a xs) : TyX K H (.ref a) (.type "tuple") := by
  rcases h with (h | ⟨o, h⟩) | ⟨o, its, n, h, c, _⟩
  · exact .base (.tup h)
  · exact .fTuple h
  · exact .kTuple h c
theorem tyX_dp {K : PySem.W.Frag} {H : Hp} : ∀ {v : V} {d : PyData}, Dp K H v d → TyX K H v (.type (tyName d))
  | _, _, .non => .base .non
  | _, _, .bl b => .base (.bl b)
  | _, _, .int i => .base (.int i)
  | _, _, .str x => .base (.str x)
  | _, _, .lst h _ => tyX_list h
  | _, _, .tup h _ => tyX_tup h
def isTup : PyData → Bool
  | .tuple _ => true
  | _ => false
theorem kit_tuple {K : PySem.W.Frag} : ∀ d : PyData, PySem.W.kitOne K (.type (tyName d)) (.type "tuple") = some (isTup d)
  | .none => (kit_ty (by decide +kernel) : PySem.W.kitOne K (.type "NoneType") (.type "tuple") = some false)
  | .bool _ => (kit_ty (by decide +kernel) : PySem.W.kitOne K (.type "bool") (.type "tuple") = some false)
  | .int _ => (kit_ty (by decide +kernel) : PySem.W.kitOne K (.type "int") (.type "tuple") = some false)
  | .str _ => (kit_ty (by decide +kernel) : PySem.W.kitOne K (.type "str") (.type "tuple") = some false)
  | .list _ => (kit_ty (by decide +kernel) : PySem.W.kitOne K (.type "list") (.type "tuple") = some false)
  | .tuple _ => (kit_ty (by decide +kernel) : PySem.W.kitOne K (.type "tuple") (.type "tuple") = some true)
  | .dict _ => (kit_ty (by decide +kernel) : PySem.W.kitOne K (.type "dict") (.type "tuple") = some false)
theorem dpAll_three {K : PySem.W.Frag} {H : Hp} {vs : List V} {ds : List PyData} (h : DpAll K H vs ds) (hl : vs.length = 3) : ∃ a b c x y z, vs = [a, b, c] ∧ ds = [x, y, z] ∧ Dp K H a x ∧ Dp K H b y ∧ Dp K H c z := by
  cases h with
  | nil => cases hl
  | cons h1 h =>
    cases h with
    | nil => cases hl
    | cons h2 h =>
      cases h with
      | nil => cases hl
      | cons h3 h =>
        cases h with
        | nil => exact ⟨_, _, _, _, _, _, rfl, rfl, h1, h2, h3⟩
        | cons _ _ => simp at hl
end Kn
set_option Elab.async false
set_option linter.all false
set_option maxRecDepth 100000
set_option maxHeartbeats 4000000
namespace Kn
open PySem L2
/-! ### tuples stay -/
/-- what reads as a tuple stays one -/
def SameT (H H' : Hp) : Prop := ∀ b xs, Rd H b (.tup xs) → Rd H' b (.tup xs)
theorem SameT.refl (H : Hp) : SameT H H := fun _ _ h => h
theorem SameT.trans {H H1 H2 : Hp} (a : SameT H H1) (b : SameT H1 H2) : SameT H H2 := fun c xs h => b c xs (a c xs h)
theorem SameT.of {H H' : Hp} (e : Same H H') : SameT H H' := fun b xs h => by
  rcases h with h | ⟨o, h⟩
  · exact .inl (e _ _ h)
  · exact .inr ⟨o, e _ _ h⟩
/-- all but what stands at l stays -/
def But (l : Addr) (H H' : Hp) : Prop := ∀ b o, H b = some o → b ≠ l → H' b = some o
theorem But.refl (l : Addr) (H : Hp) : But l H H := fun _ _ h _ => h
theorem But.of {l : Addr} {H H' : Hp} (e : Same H H') : But l H H' := fun b o h _ => e b o h
theorem But.trans {l : Addr} {H H1 H2 : Hp} (a : But l H H1) (b : But l H1 H2) : But l H H2 := fun c o h n => b c o (a c o h n) n
theorem But.tups {l : Addr} {H H' : Hp} {xs : List V} (a : But l H H') (h : H l = some (.lst xs)) : SameT H H' := fun b ys hb => by
  have n : b ≠ l := by
    rintro rfl
    rcases hb with hb | ⟨o, hb⟩ <;> rw [h] at hb <;> cases hb
  rcases hb with hb | ⟨o, hb⟩
  · exact .inl (a _ _ hb n)
  · exact .inr ⟨o, a _ _ hb n⟩
theorem but_upd {l : Addr} {H : Hp} {o : HO} : But l H (upd H l o) := fun b u e n => by
  rw [upd_ne n]
  exact e
theorem sameT_sq {K : PySem.W.Frag} {H H' : Hp} (e : SameT H H') {a : Addr} {xs : List V} (h : SqT K H a xs) : SqT K H' a xs := by
  rcases h with h | h
  · exact .inl (e _ _ h)
  · exact .inr h
/-- a kind stands at v -/
def KdAt (K : PySem.W.Frag) (H : Hp) : V → Kd → Prop
  | v, .text => ∃ p, v = .ref p ∧ SqT K H p [.str "text"]
  | v, .to a b => ∃ p x y, v = .ref p ∧ SqT K H p [.str "to", x, y] ∧ KdAt K H x a ∧ KdAt K H y b
theorem KdAt.same {K : PySem.W.Frag} {H H' : Hp} (e : SameT H H') : ∀ {k : Kd} {v : V}, KdAt K H v k → KdAt K H' v k
  | .text, v, ⟨p, h1, h2⟩ => ⟨p, h1, sameT_sq e h2⟩
  | .to a b, v, ⟨p, x, y, h1, h2, h3, h4⟩ => ⟨p, x, y, h1, sameT_sq e h2, KdAt.same e h3, KdAt.same e h4⟩
theorem KdAt.dp {K : PySem.W.Frag} {H : Hp} : ∀ {k : Kd} {v : V}, KdAt K H v k → Dp K H v k.data
  | .text, v, ⟨p, h1, h2⟩ => by
    subst h1
    exact .tup h2 (.cons (.str _) .nil)
  | .to a b, v, ⟨p, x, y, h1, h2, h3, h4⟩ => by
    subst h1
    exact .tup h2 (.cons (.str _) (.cons (KdAt.dp h3) (.cons (KdAt.dp h4) .nil)))
theorem KdAt.of_dp {K : PySem.W.Frag} {H : Hp} : ∀ {k : Kd} {v : V}, Dp K H v k.data → KdAt K H v k
  | .text, v, h => by
    have h : Dp K H v (.tuple [.str "text"]) := h
    cases h with
    | tup hT hA =>
      cases hA with
      | cons h1 h2 =>
        cases h1
        cases h2
        exact ⟨_, rfl, hT⟩
  | .to a b, v, h => by
    have h : Dp K H v (.tuple [.str "to", a.data, b.data]) := h
    cases h with
    | tup hT hA =>
      cases hA with
      | cons h1 h2 =>
        cases h1
        cases h2 with
        | cons h3 h4 =>
          cases h4 with
          | cons h5 h6 =>
            cases h6
            exact ⟨_, _, _, rfl, hT, KdAt.of_dp h3, KdAt.of_dp h5⟩
theorem okD_kind {k : Kd} (h : k.ends ≤ 64) : SeqAt.shaped k.data = true := by
  unfold SeqAt.shaped
  rw [k.data_lay, k.data_depth, Bool.true_and]
  exact decide_eq_true (Nat.le_trans k.deep_ends h)

/-! ### the rows of a kind's ends -/
/-- which ends are the parts of the result of k, whose first end is b -/
def partsFrom : Kd → Nat → List Nat
  | .text, _ => []
  | .to a r, b => (b + a.ends - 1) :: partsFrom r (b + a.ends)
/-- asked, parts, the kind whose result it is -/
abbrev Row := Bool × List Nat × Kd
/-- the rows of all ends of k but its result -/
def inner : Kd → Bool → Nat → List Row
  | .text, _, _ => []
  | .to a r, s, b => inner a (!s) b ++ (!s, partsFrom a b, a) :: inner r s (b + a.ends)
def rowsOf (k : Kd) (s : Bool) (b : Nat) : List Row := inner k s b ++ [(s, partsFrom k b, k)]
theorem inner_len : ∀ (k : Kd) (s : Bool) (b : Nat), (inner k s b).length + 1 = k.ends
  | .text, _, _ => rfl
  | .to a r, s, b => by
    have h1 := inner_len a (!s) b
    have h2 := inner_len r s (b + a.ends)
    simp only [inner, List.length_append, List.length_cons, Kd.ends]
    omega
theorem rowsOf_len (k : Kd) (s : Bool) (b : Nat) : (rowsOf k s b).length = k.ends := by
  have := inner_len k s b
  simp only [rowsOf, List.length_append, List.length_cons, List.length_nil]
  omega
def intV (n : Nat) : V := .int (n : Int)
def RowAt (K : PySem.W.Frag) (H : Hp) (v : V) (r : Row) : Prop := ∃ p t w, v = .ref p ∧ SqT K H p [.bl r.1, .ref t, w] ∧ SqT K H t (r.2.1.map intV) ∧ KdAt K H w r.2.2
theorem RowAt.same {K : PySem.W.Frag} {H H' : Hp} (e : SameT H H') {v : V} {r : Row} : RowAt K H v r → RowAt K H' v r := fun ⟨p, t, w, h1, h2, h3, h4⟩ => ⟨p, t, w, h1, sameT_sq e h2, sameT_sq e h3, h4.same e⟩
def RowsAt (K : PySem.W.Frag) (H : Hp) : List V → List Row → Prop := Paired (RowAt K H)
theorem RowsAt.same {K : PySem.W.Frag} {H H' : Hp} (e : SameT H H') : ∀ {vs : List V} {rs : List Row}, RowsAt K H vs rs → RowsAt K H' vs rs
  | _, _, .nil => .nil
  | _, _, .cons h t => .cons (h.same e) (RowsAt.same e t)
theorem RowsAt.app {K : PySem.W.Frag} {H : Hp} : ∀ {vs ws : List V} {rs ss : List Row}, RowsAt K H vs rs → RowsAt K H ws ss → RowsAt K H (vs ++ ws) (rs ++ ss)
  | _, _, _, _, .nil, h => h
  | _, _, _, _, .cons a t, h => .cons a (RowsAt.app t h)
theorem RowsAt.len {K : PySem.W.Frag} {H : Hp} {vs : List V} {rs : List Row} (h : RowsAt K H vs rs) : vs.length = rs.length := Paired.length h
end Kn
set_option Elab.async false
set_option linter.all false
set_option maxRecDepth 100000
set_option maxHeartbeats 4000000
namespace My
open PySem L2 Kn
def top (i : Nat) : Stmt := PySem.Challenge.pw_oneuseheads_k15_ends_of_kinds.main.body.getD i (.Pass ⟨0, 0, 0, 0⟩)
/-! ### is_kind, need_kind -/
structure TxtK (K : PySem.W.Frag) (mg : Str → Option Value) (tA : Addr) : Prop where
  gT : mg "TEXT" = some (.ref tA)
  tup : ∀ H, SqT K H tA [.str "text"]
  mE : ∃ tk, mg "MOST_ENDS" = some (.int 60 tk)
  isi : mg "isinstance" = none
  len : mg "len" = none
  tuple : mg "tuple" = none
/-- a datum as the laws hand them in -/
def OkD (d : PyData) : Prop := SeqAt.shaped d = true
abbrev s_is_kind : Stmt := top 7
def spIsKind (K : PySem.W.Frag) : Sp := fun vs H Q _ => ∃ (v : V) (d : PyData), vs = [v] ∧ Dp K H v d ∧ OkD d ∧ ∀ H', Same H H' → Q (.bl (isKd d)) H'
/-- between two turns of is_kind's loop -/
def WKind (K : PySem.W.Frag) (H : Hp) (v : V) (q : Addr) (R : Bool) (m : Nat) (σ : St) (H' : Hp) : Prop := ∃ (e : Nat) (vs : List V) (ds : List PyData) (v3 : Option V),
  σ = [some v, some (.int e), some (.ref q), v3] ∧ Same H H' ∧ H' q = some (.lst vs) ∧ DpAll K H vs ds ∧ (∀ d ∈ ds, OkD d) ∧ e + ds.length ≤ 60 ∧ ans e ds = R ∧ m = (ds.map sizeOf).sum
theorem okD_text : OkD (.tuple [.str "text"]) := by
  have h := Kd.data_lay .text
  have h2 := Kd.data_depth .text
  unfold OkD SeqAt.shaped
  rw [show PyData.canLay0 (.tuple [.str "text"]) = true from h, show PyData.depth (.tuple [.str "text"]) = 1 from h2]
  rfl
theorem okD_str (s : Str) (h : PyData.canLay0 (.str s) = true) : OkD (.str s) := by
  unfold OkD SeqAt.shaped
  rw [h]
  simp only [PyData.depth]
  rfl
theorem okD_items {d : PyData} {xs : List PyData} (h : OkD (.tuple xs)) (hd : d ∈ xs) : OkD d := by
  unfold OkD SeqAt.shaped at h ⊢
  rw [Bool.and_eq_true, decide_eq_true_eq] at h ⊢
  obtain ⟨h1, h2⟩ := h
  simp only [PyData.canLay0, PyData.depth] at h1 h2
  have key : ∀ (l : List PyData), PyData.canLayAll0 l = true → d ∈ l → d.canLay0 = true ∧ d.depth ≤ PyData.depthAll l := by
    intro l
    induction l with
    | nil => intro _ hm; cases hm
    | cons x r ih =>
      intro hl hm
      simp only [PyData.canLayAll0, Bool.and_eq_true] at hl
      simp only [PyData.depthAll]
      rcases List.mem_cons.mp hm with rfl | hm
      · exact ⟨hl.1, Nat.le_max_left _ _⟩
      · obtain ⟨a, b⟩ := ih hl.2 hm
        exact ⟨a, Nat.le_trans b (Nat.le_max_right _ _)⟩
  obtain ⟨a, b⟩ := key xs h1 hd
  exact ⟨a, by omega⟩
theorem seqLast {α : Type} (l : List α) (x : α) : (l ++ [x])[(l ++ [x]).length - 1]? = some x := by simp
section
variable {P : Program} {w : World} {K : PySem.W.Frag} {mg : Str → Option Value} {base : Heap} {tA : Addr}
theorem sc_is_kind : FnScope ["value", "ends", "pending", "part"] ["value"] (defScope s_is_kind) := ⟨rfl, rfl, rfl, by decide +kernel, rfl, by decide +kernel, by decide +kernel⟩
theorem ok_is_kind {f : Addr} {fd : FuncData} (F : Fun K "is_kind" "is_kind" s_is_kind f fd) (T : TxtK K mg tA) : FnOk P w K mg base CX0 1 f fd ["value"] (spIsKind K) := by
  refine F.ok sc_is_kind (fun vs H Q E h => ?_) (fun cdv A outer s H vs Q E hr h => ?_)
  · obtain ⟨v, d, rfl, _⟩ := h
    rfl
  · obtain ⟨v, d, rfl, hd, hs, k⟩ := h
    obtain ⟨tk, mE⟩ := T.mE
    refine ⟨_, pss_cons (ps_set (i := 1) sc_is_kind.nd rfl (Or.inl rfl) pe_int)
      (pss_cons (ps_set (i := 2) sc_is_kind.nd rfl (Or.inl rfl) (pe_lst (pa_cons (pv 0) pa_nil)))
      (pss_cons (ps_while PassesOwn.never (pt_truth (pv 2) (by intro _; rfl))
        (pss_cons (ps_set (i := 3) sc_is_kind.nd rfl (Or.inl rfl) (pe_bm0 PySem.F.plainAttrs_list PySem.F.slot_list_pop PySem.F.type_list_pop mt_pop (pv 2)))
        (pss_cons (ps_if (pt_cmpR (op_eqD hr.units) (pv 3) (pe_cls T.gT) (nomark _))
          (pss_one (ps_aug (i := 1) sc_is_kind.nd rfl (Or.inl rfl) pe_int ip_add))
          (pss_one (ps_if (PW.pt (pw_and (pt_val (by exact (pe_callB call_isi (by rfl) T.isi (by decide +kernel) (pa_cons (pv 3) (pa_cons (pe_bltn (v := .ty "tuple") rfl T.tuple (by decide +kernel) rfl) pa_nil)))))
              (pw_and (pt_cmpR op_eq (by exact (pe_callB call_len (by rfl) T.len (by decide +kernel) (pa_cons (pv 3) pa_nil))) pe_int (nomark _))
              (pw_and1 (pt_cmpR (op_eqD hr.units) (by exact (pe_ix ix_tup (pv 3) pe_int (fun _ _ => rfl))) pe_str (nomark _))))))
            (pss_cons (ps_expr (pe_bm PySem.F.plainAttrs_list PySem.F.slot_list_append PySem.F.type_list_append mt_append (pv 2) (pa_cons (pe_ix ix_tup (pv 3) pe_int (fun _ _ => rfl)) pa_nil)))
            (pss_one (ps_expr (pe_bm PySem.F.plainAttrs_list PySem.F.slot_list_append PySem.F.type_list_append mt_append (pv 2) (pa_cons (pe_ix ix_tup (pv 3) pe_int (fun _ _ => rfl)) pa_nil)))))
            (pss_one (ps_ret pe_bl)))))
        (pss_one (ps_if (pt_cmpR op_gt (pe_op op_add (pv 1) (by exact (pe_callB call_len (by rfl) T.len (by decide +kernel) (pa_cons (pv 2) pa_nil)))) (pe_glob (v := .int 60) rfl mE ⟨_, rfl⟩) (nomark _)) (pss_one (ps_ret pe_bl)) pss_nil)))))
      (pss_one (ps_ret pe_bl)))), ?_⟩
    refine ⟨_, rfl, by show 1 ≤ sizeLine; decide, fun q hq => ?_⟩
    have S0 : Same H (upd H q (.lst [v])) := same_new hq
    have qS : ∀ {H' : Hp} {xs : List V}, Same H H' → Same H (upd H' q (.lst xs)) := fun {H' xs} s b o e => by
      rw [upd_ne (ne_of_none e hq)]
      exact s b o e
    refine ⟨WKind K H v q (isKd d), ⟨_, 0, [v], [d], none, rfl, S0, upd_same, .cons hd .nil, fun x hx => by rw [List.mem_singleton.mp hx]; exact hs, (by simp), ans_start d, rfl⟩, ?_⟩
    rintro m σ H' ⟨e, vs, ds, v3, rfl, S, hL, hD, hO, he, ha, rfl⟩
    refine ⟨_, rfl, _, .inl ⟨vs, SqL.of hL, rfl⟩, ?_⟩
    rcases nil_or_snoc vs with rfl | ⟨vs', x, rfl⟩
    · refine iteF ?_
      cases hD
      rw [ans_done e (by simpa using he)] at ha
      show Q (.bl true) H'
      rw [ha]
      exact k H' S
    · obtain ⟨ds', dx, rfl, hD', hx⟩ := dpAll_unsnoc hD
      have hox : OkD dx := hO dx (by simp)
      have hO' : ∀ y ∈ ds', OkD y := fun y hy => hO y (by simp [hy])
      rw [List.length_append] at he
      have hel : ds'.length + 1 = (ds' ++ [dx]).length := by simp
      rw [if_pos (show (!(vs' ++ [x]).isEmpty) = true by simp)]
      refine ⟨fun σ' H'' => ∃ m', m' < ((ds' ++ [dx]).map sizeOf).sum ∧ WKind K H v q (isKd d) m' σ' H'', fun _ _ h => h, ?_⟩
      -- part = pending.pop()
      refine ⟨_, rfl, .inl ⟨rfl, _, SqL.of hL⟩, q, _, x, rfl, rfl, hL, seqLast _ _, ?_⟩
      rw [List.dropLast_concat]
      have S1 : Same H (upd H' q (.lst vs')) := qS S
      -- if part == TEXT
      refine ⟨_, rfl, dx, .tuple [.str "text"], dp_same S1 hx, .tup (T.tup _) (.cons (.str _) .nil), hox, okD_text, _, rfl, ?_⟩
      refine ite2 (fun ht => ?_) (fun ht => ?_)
      · rw [eqv_one_str] at ht
        subst ht
        rw [ans_text] at ha
        refine ⟨_, rfl, _, _, rfl, rfl, ?_⟩
        have SS := S1
        have LL : (upd H' q (.lst vs')) q = some (.lst vs') := upd_same
        have OO := hO'
        refine ⟨_, rfl, _, rfl, _, _, rfl, .inl ⟨_, SqL.of LL, rfl⟩, _, _, rfl, rfl, _, _, rfl, rfl, _, rfl, ?_⟩
        have hll : (vs').length = (ds').length := dpAll_len hD'
        refine ite2 (fun hc => ?_) (fun hc => ?_)
        · have hc' : (60 : Int) < ((e : Int) + 1) + (((vs').length : Nat) : Int) := of_decide_eq_true hc
          have hgt : 60 < (e + 1) + (ds').length := by omega
          rw [ans_many _ _ hgt] at ha
          show Q (.bl false) _
          rw [ha]
          exact k _ SS
        · have hc' : ¬ (60 : Int) < ((e : Int) + 1) + (((vs').length : Nat) : Int) := fun z => hc (decide_eq_true z)
          have hle : (e + 1) + (ds').length ≤ 60 := by omega
          exact ⟨_, (by simp only [List.map_append, List.sum_append, List.map_cons, List.map_nil, List.sum_cons, List.sum_nil]; have := sz_pos (.tuple [.str "text"]); omega), (e + 1), vs', ds', _, rfl, SS, LL, hD', OO, hle, ha, rfl⟩
      · have nt : dx ≠ .tuple [.str "text"] := fun z => ht ((eqv_one_str dx "text").mpr z)
        -- elif isinstance(part, tuple) and len(part) == 3 and part[0] == 'to'
        refine ⟨_, rfl, x, .ty "tuple", _, _, isTup dx, rfl, .ty _, tyX_dp (dp_same S1 hx), kit_tuple dx, _, rfl, ?_⟩
        have no : (∀ y z, dx ≠ .tuple [.str "to", y, z]) → isKd d = false := fun h => by
          rw [← ha]
          exact ans_no e ds' dx nt h
        cases hx with
        | non => exact iteF (iteF (by show Q (.bl false) _; rw [← no (fun _ _ z => nomatch z)]; exact k _ S1))
        | bl _ => exact iteF (iteF (by show Q (.bl false) _; rw [← no (fun _ _ z => nomatch z)]; exact k _ S1))
        | int _ => exact iteF (iteF (by show Q (.bl false) _; rw [← no (fun _ _ z => nomatch z)]; exact k _ S1))
        | str _ => exact iteF (iteF (by show Q (.bl false) _; rw [← no (fun _ _ z => nomatch z)]; exact k _ S1))
        | lst _ _ => exact iteF (iteF (by show Q (.bl false) _; rw [← no (fun _ _ z => nomatch z)]; exact k _ S1))
        | @tup a xs items hT hA =>
          refine iteT ?_
          refine ⟨_, rfl, _, _, rfl, .inr ⟨xs, seqT_same S1 hT, rfl⟩, rfl, _, rfl, ?_⟩
          refine ite2 (fun h3 => ?_) (fun h3 => ?_)
          · have h3' : xs.length = 3 := by
              have z := of_decide_eq_true h3
              have z2 : ((xs.length : Nat) : Int) = 3 := by injection z
              omega
            obtain ⟨w0, w1, w2, d0, d1, d2, rfl, rfl, a0, a1, a2⟩ := dpAll_three hA h3'
            · have S1T := seqT_same S1 hT
              refine ⟨_, rfl, a, [w0, w1, w2], _, w0, rfl, rfl, S1T, atI_nat (j := 0) rfl, d0, .str "to", dp_same S1 a0, .str _, okD_items hox (by simp), okD_str _ (by decide +kernel), _, rfl, ?_⟩
              refine ite2 (fun h0 => ?_) (fun h0 => ?_)
              · rw [eqv_str] at h0
                subst h0
                rw [ans_to] at ha
                refine ⟨_, rfl, .inl ⟨rfl, _, SqL.of upd_same⟩, _, rfl, a, [w0, w1, w2], _, w2, rfl, rfl, S1T, atI_nat (j := 2) rfl, q, _, _, rfl, rfl, upd_same, small1000 ?_, ?_⟩
                · have := dpAll_len hD'
                  omega
                rw [upd_upd]
                have S2 : Same H (upd H' q (.lst (vs' ++ [w2]))) := qS S
                refine ⟨_, rfl, .inl ⟨rfl, _, SqL.of upd_same⟩, _, rfl, a, [w0, w1, w2], _, w1, rfl, rfl, seqT_same S2 hT, atI_nat (j := 1) rfl, q, _, _, rfl, rfl, upd_same, small1000 ?_, ?_⟩
                · have := dpAll_len hD'
                  rw [List.length_append]
                  show vs'.length + 1 ≤ 1000
                  omega
                rw [upd_upd]
                have SS : Same H (upd H' q (.lst (vs' ++ [w2] ++ [w1]))) := qS S
                have LL : (upd H' q (.lst (vs' ++ [w2] ++ [w1]))) q = some (.lst (vs' ++ [w2] ++ [w1])) := upd_same
                have DD : DpAll K H (vs' ++ [w2] ++ [w1]) (ds' ++ [d2] ++ [d1]) := dpAll_snoc (dpAll_snoc hD' a2) a1
                have OO : ∀ y ∈ ds' ++ [d2] ++ [d1], OkD y := fun y hy => by
                  rcases List.mem_append.mp hy with hy | hy
                  · rcases List.mem_append.mp hy with hy | hy
                    · exact hO' y hy
                    · rw [List.mem_singleton.mp hy]
                      exact okD_items hox (by simp)
                  · rw [List.mem_singleton.mp hy]
                    exact okD_items hox (by simp)
                refine ⟨_, rfl, _, rfl, _, _, rfl, .inl ⟨_, SqL.of LL, rfl⟩, _, _, rfl, rfl, _, _, rfl, rfl, _, rfl, ?_⟩
                have hll : (vs' ++ [w2] ++ [w1]).length = (ds' ++ [d2] ++ [d1]).length := dpAll_len DD
                refine ite2 (fun hc => ?_) (fun hc => ?_)
                · have hc' : (60 : Int) < (e : Int) + (((vs' ++ [w2] ++ [w1]).length : Nat) : Int) := of_decide_eq_true hc
                  have hgt : 60 < e + (ds' ++ [d2] ++ [d1]).length := by omega
                  rw [ans_many _ _ hgt] at ha
                  show Q (.bl false) _
                  rw [ha]
                  exact k _ SS
                · have hc' : ¬ (60 : Int) < (e : Int) + (((vs' ++ [w2] ++ [w1]).length : Nat) : Int) := fun z => hc (decide_eq_true z)
                  have hle : e + (ds' ++ [d2] ++ [d1]).length ≤ 60 := by omega
                  exact ⟨_, (by simp only [List.map_append, List.sum_append, List.map_cons, List.map_nil, List.sum_cons, List.sum_nil]; have := sz_to d1 d2; omega), e, vs' ++ [w2] ++ [w1], ds' ++ [d2] ++ [d1], _, rfl, SS, LL, DD, OO, hle, ha, rfl⟩
              · have := no (fun y z e => h0 (by cases e; exact (eqv_str _ _).mpr rfl))
                show Q (.bl false) _
                rw [← this]
                exact k _ S1
          · have := no (fun y z e => h3 (by
              cases e
              have := dpAll_len hA
              rw [this]
              rfl))
            show Q (.bl false) _
            rw [← this]
            exact k _ S1
end
/-! ### a class of errors without fields -/
structure ErrC (K : PySem.W.Frag) (mg : Str → Option Value) (x : Str) (C HE : Addr) : Prop where
  gC : mg x = some (.ref C)
  kC : PySem.W.keepIn K (.ref C) = true
  q : PySem.W.excIn K C [.type "ValueError", .type "Exception", .type "BaseException", .type "object"] "ValueError.__new__" = true
  sB : PySem.W.subIn K (.ref C) (.type "BaseException") = some true
  tC : PySem.W.typeIn K (.ref C) = some (.type "type")
  ec : ExcC K C
  em : PySem.W.exmOne K (.ref C) (.ref HE) = some true
abbrev s_need_kind : Stmt := top 8
def spNeed (K : PySem.W.Frag) (C : Addr) : Sp := fun vs H Q E => ∃ (v : V) (d : PyData), vs = [v] ∧ Dp K H v d ∧ OkD d ∧ (isKd d = true → ∀ H', Same H H' → Q .non H') ∧ (isKd d = false → ∀ H', Same H H' → E (.ref C) none H')
section
variable {P : Program} {w : World} {K : PySem.W.Frag} {mg : Str → Option Value} {base : Heap} {tA BK HE : Addr}
theorem sc_need_kind : FnScope ["kind"] ["kind"] (defScope s_need_kind) := ⟨rfl, rfl, rfl, by decide +kernel, rfl, by decide +kernel, by decide +kernel⟩
theorem ok_need_kind {f f1 : Addr} {fd fd1 : FuncData} (F : Fun K "need_kind" "need_kind" s_need_kind f fd) (C : ErrC K mg "BadKind" BK HE)
    (G : FnOk P w K mg base CX0 1 f1 fd1 ["value"] (spIsKind K)) (g1 : mg "is_kind" = some (.ref f1)) (k1 : PySem.W.keepIn K (.ref f1) = true) (b1 : Binds K fd1 ["value"] []) : FnOk P w K mg base (L2.CX P w) 2 f fd ["kind"] (spNeed K BK) := by
  refine F.okX sc_need_kind (fun vs H Q E h => ?_) (fun cdv A outer s H vs Q E hr h => ?_)
  · obtain ⟨v, d, rfl, _⟩ := h
    rfl
  · obtain ⟨v, d, rfl, hd, hs, kT, kF⟩ := h
    refine ⟨_, pss_one (ps_if (pt_not (pt_val (by exact (pe_call G hr rfl g1 k1 b1 .nil pass0 (pa_cons (pv 0) pa_nil)))))
      (pss_one (ps_raise rfl (takes_of rfl rfl rfl rfl) (pmk_own PySem.F.excBase_ValueError C.q C.gC C.kC (raises_own C.sB C.tC) rfl))) pss_nil), ?_⟩
    refine ⟨_, rfl, v, d, rfl, hd, hs, fun H' S => ⟨_, rfl, ?_⟩⟩
    cases e : isKd d with
    | true => exact iteF (kT e H' S)
    | false => exact iteT (kF e H' S)
end
/-! ### end_rows -/
abbrev s_add_rows : Stmt := top 13
/-- n: how deep the kind may be -/
def spAdd (K : PySem.W.Frag) : Nat → Sp
  | 0 => fun _ _ _ _ => False
  | n + 1 => fun vs H Q _ => ∃ (v : V) (k : Kd) (s : Bool) (l : Addr) (ws : List V), vs = [v, .bl s, .ref l] ∧ KdAt K H v k ∧ k.deep ≤ n + 1 ∧ k.ends ≤ 60 ∧ H l = some (.lst ws) ∧ ws.length + k.ends ≤ 60 ∧
      ∀ (H' : Hp) (ws' : List V), But l H H' → H' l = some (.lst (ws ++ ws')) → RowsAt K H' ws' (rowsOf k s ws.length) → Q .non H'
def WAdd (K : PySem.W.Frag) (H : Hp) (v : V) (k : Kd) (s : Bool) (l q : Addr) (ws : List V) (m : Nat) (σ : St) (H' : Hp) : Prop := ∃ (r : Kd) (wr : V) (fs : List Nat) (ws1 : List V) (rs : List Row),
  σ = [some v, some (.bl s), some (.ref l), some (.ref q), some wr] ∧ KdAt K H' wr r ∧ H' q = some (.lst (fs.map intV)) ∧ H' l = some (.lst (ws ++ ws1)) ∧ RowsAt K H' ws1 rs ∧
  rs ++ inner r s (ws.length + ws1.length) = inner k s ws.length ∧ fs ++ partsFrom r (ws.length + ws1.length) = partsFrom k ws.length ∧ r.deep ≤ k.deep ∧ ws1.length + r.ends = k.ends ∧ fs.length ≤ ws1.length ∧ But l H H' ∧ m = r.ends
theorem text_or (k : Kd) : (k = .text) ∨ ∃ a b, k = .to a b := by
  cases k with
  | text => exact .inl rfl
  | to a b => exact .inr ⟨a, b, rfl⟩
theorem eqv_text (k : Kd) : PyData.eqv k.data (.tuple [.str "text"]) = decide (k = .text) := by
  cases k with
  | text => exact (eqv_one_str _ "text").mpr rfl
  | to a b =>
    cases e : PyData.eqv (Kd.to a b).data (.tuple [.str "text"]) with
    | false => rfl
    | true =>
      have := (eqv_one_str _ "text").mp e
      cases this
section
variable {P : Program} {w : World} {K : PySem.W.Frag} {mg : Str → Option Value} {base : Heap} {tA : Addr}
theorem sc_add_rows : FnScope ["kind", "asked", "rows", "found", "rest"] ["kind", "asked", "rows"] (defScope s_add_rows) := ⟨rfl, rfl, rfl, by decide +kernel, rfl, by decide +kernel, by decide +kernel⟩
theorem ok_add_rows {f : Addr} {fd : FuncData} (F : Fun K "_add_rows" "_add_rows" s_add_rows f fd) (T : TxtK K mg tA) (gA : mg "_add_rows" = some (.ref f)) (kA : PySem.W.keepIn K (.ref f) = true) (bA : Binds K fd ["kind", "asked", "rows"] []) :
    ∀ n : Nat, FnOk P w K mg base CX0 n f fd ["kind", "asked", "rows"] (spAdd K n) := by
  intro n
  induction n with
  | zero => exact ⟨fun _ _ _ _ h => h.elim, fun _ _ _ _ _ _ _ _ _ _ _ _ _ h => h.elim⟩
  | succ n G =>
    refine F.ok sc_add_rows (fun vs H Q E h => ?_) (fun cdv A outer s0 H vs Q E hr h => ?_)
    · obtain ⟨v, k, s, l, ws, rfl, _⟩ := h
      rfl
    · obtain ⟨v, k, s, l, ws, rfl, hk, hdp, h60, hl, hlen, cont⟩ := h
      refine ⟨_, pss_cons (ps_set (i := 3) sc_add_rows.nd rfl (Or.inl rfl) (pe_lst pa_nil))
        (pss_cons (ps_set (i := 4) sc_add_rows.nd rfl (Or.inl rfl) (pv 0))
        (pss_cons (ps_while PassesOwn.never (pt_cmpR (op_neD hr.units) (pv 4) (pe_cls T.gT) (nomark _))
          (pss_cons (ps_expr (by exact (pe_call G hr rfl gA kA bA .nil pass0 (pa_cons (pe_ix ix_tup (pv 4) pe_int (fun _ _ => rfl)) (pa_cons (pe_not (pv 1)) (pa_cons (pv 2) pa_nil))))))
          (pss_cons (ps_expr (pe_bm PySem.F.plainAttrs_list PySem.F.slot_list_append PySem.F.type_list_append mt_append (pv 3) (pa_cons (pe_op op_sub (by exact (pe_callB call_len (by rfl) T.len (by decide +kernel) (pa_cons (pv 2) pa_nil))) pe_int) pa_nil)))
          (pss_one (ps_set (i := 4) sc_add_rows.nd rfl (Or.inl rfl) (pe_ix ix_tup (pv 4) pe_int (fun _ _ => rfl)))))))
        (pss_one (ps_expr (pe_bm PySem.F.plainAttrs_list PySem.F.slot_list_append PySem.F.type_list_append mt_append (pv 2) (pa_cons (pe_tup (pa_cons (pv 1) (pa_cons (by exact (pe_callTy call_tuple_of (by rfl) T.tuple (by decide +kernel) (pa_cons (pv 3) pa_nil))) (pa_cons (pv 0) pa_nil)))) pa_nil)))))), ?_⟩
      refine ⟨Nat.zero_le _, fun q hq => ⟨_, rfl, ?_⟩⟩
      have nql : l ≠ q := ne_of_none hl hq
      have S0 : Same H (upd H q (.lst [])) := same_new hq
      refine ⟨WAdd K H v k s l q ws, ⟨_, k, v, [], [], [], rfl, hk.same (SameT.of S0), upd_same, by rw [upd_ne nql, hl, List.append_nil], .nil, rfl, rfl, Nat.le_refl _, Nat.zero_add _, Nat.le_refl _, But.of S0, rfl⟩, ?_⟩
      rintro m σ H' ⟨r, wr, fs, ws1, rs, rfl, hr1, hfq, hlq, hrs, ei, ep, hd1, he1, hf1, bt, rfl⟩
      have T1 : SameT H H' := bt.tups hl
      refine ⟨_, rfl, r.data, .tuple [.str "text"], hr1.dp, .tup (T.tup _) (.cons (.str _) .nil), okD_kind (by omega), okD_text, _, rfl, ?_⟩
      rw [eqv_text]
      rcases text_or r with rfl | ⟨a, r2, rfl⟩
      · refine iteF ?_
        -- rows.append((asked, tuple(found), kind))
        have hv : KdAt K H' v k := hk.same T1
        have nlq' : l ≠ q := nql
        refine ⟨_, rfl, .inl ⟨rfl, _, SqL.of hlq⟩, _, rfl, _, rfl, q, _, rfl, .inl ⟨SqL.of hfq, fun t ht => ⟨_, rfl, by show 3 ≤ sizeLine; decide, fun p hp => ?_⟩⟩⟩
        have nlt : l ≠ t := ne_of_none hlq ht
        have S2 : Same H' (upd (upd H' t (.tup (fs.map intV))) p (.tup [.bl s, .ref t, v])) := (same_new ht).trans (same_new hp)
        have nlp : l ≠ p := ne_of_none ((same_new ht) _ _ hlq) hp
        have e2 : (upd (upd H' t (.tup (fs.map intV))) p (.tup [.bl s, .ref t, v])) l = some (.lst (ws ++ ws1)) := S2 _ _ hlq
        have ept : (upd (upd H' t (.tup (fs.map intV))) p (.tup [.bl s, .ref t, v])) t = some (.tup (fs.map intV)) := (same_new hp) _ _ upd_same
        have epp : (upd (upd H' t (.tup (fs.map intV))) p (.tup [.bl s, .ref t, v])) p = some (.tup [.bl s, .ref t, v]) := upd_same
        revert S2 e2 ept epp
        generalize upd (upd H' t (.tup (fs.map intV))) p (.tup [.bl s, .ref t, v]) = H2
        intro S2 e2 ept epp
        refine ⟨l, _, _, rfl, rfl, e2, small1000 ?_, ?_⟩
        · rw [List.length_append]
          have := Kd.ends_pos k
          omega
        rw [List.append_assoc]
        have T2 : SameT H2 (upd H2 l (.lst (ws ++ (ws1 ++ [.ref p])))) := (but_upd (l := l)).tups e2
        refine cont _ (ws1 ++ [.ref p]) (bt.trans ((But.of S2).trans but_upd)) upd_same ?_
        have e3 : rs ++ [(s, partsFrom k ws.length, k)] = rowsOf k s ws.length := by
          have e5 : rs = inner k s ws.length := (List.append_nil rs).symm.trans ei
          rw [e5]
          rfl
        rw [← e3]
        refine (hrs.same ((SameT.of S2).trans T2)).app (.cons ⟨p, t, v, rfl, sameT_sq T2 (.inl (.inl epp)), ?_, (hv.same (SameT.of S2)).same T2⟩ .nil)
        have e4 : fs = partsFrom k ws.length := (List.append_nil fs).symm.trans ep
        rw [← e4]
        exact sameT_sq T2 (.inl (.inl ept))
      · refine iteT ⟨fun σ' H'' => ∃ m', m' < (Kd.to a r2).ends ∧ WAdd K H v k s l q ws m' σ' H'', fun _ _ h => h, ?_⟩
        obtain ⟨p, x, y, rfl, hT, hxa, hyr⟩ := hr1
        have da : a.deep ≤ n := by
          simp only [Kd.deep] at hd1
          omega
        have pa : 1 ≤ a.deep := by cases a <;> simp [Kd.deep]
        have pe := a.ends_pos
        simp only [Kd.ends] at he1
        obtain ⟨n', rfl⟩ : ∃ n', n = n' + 1 := ⟨n - 1, by omega⟩
        have hb : (ws ++ ws1).length = ws.length + ws1.length := List.length_append
        refine ⟨_, rfl, p, _, _, x, rfl, rfl, hT, atI_nat (j := 1) rfl, _, rfl, s, rfl, _, rfl, x, a, !s, l, ws ++ ws1, rfl, hxa, da, by omega, hlq, by omega, fun H2 ws2 b2 hl2 hr2 => ?_⟩
        have T2 : SameT H' H2 := b2.tups hlq
        have hfq2 : H2 q = some (.lst (fs.map intV)) := b2 _ _ hfq nql.symm
        have l2 : ws2.length = a.ends := by rw [hr2.len, rowsOf_len]
        have q12 : (ws1 ++ ws2).length = ws1.length + a.ends := by rw [List.length_append, l2]
        refine ⟨_, rfl, .inl ⟨rfl, _, SqL.of hfq2⟩, _, rfl, _, _, rfl, .inl ⟨_, SqL.of hl2, rfl⟩, _, _, rfl, rfl, q, _, _, rfl, rfl, hfq2, small1000 ?_, ?_⟩
        · rw [List.length_map]
          omega
        have T3 : SameT H2 (upd H2 q (.lst (fs.map intV ++ [V.int (((ws ++ ws1 ++ ws2).length : Nat) - 1)]))) := (but_upd (l := q)).tups hfq2
        refine ⟨_, rfl, p, _, _, y, rfl, rfl, sameT_sq (T2.trans T3) hT, atI_nat (j := 2) rfl, r2.ends, ?_, r2, y, fs ++ [ws.length + ws1.length + a.ends - 1], ws1 ++ ws2, rs ++ rowsOf a (!s) (ws ++ ws1).length, rfl, hyr.same (T2.trans T3), ?_, ?_, ?_, ?_, ?_, ?_, ?_, ?_, ?_, rfl⟩
        · simp only [Kd.ends]
          omega
        · rw [upd_same, List.map_append]
          have : (V.int (((ws ++ ws1 ++ ws2).length : Nat) - 1)) = intV (ws.length + ws1.length + a.ends - 1) := by
            unfold intV
            congr 1
            rw [List.length_append, hb, l2]
            omega
          show some (HO.lst (fs.map intV ++ [V.int (((ws ++ ws1 ++ ws2).length : Nat) - 1)])) = _
          rw [this]
          rfl
        · rw [upd_ne nql, hl2, List.append_assoc]
        · exact (hrs.same (T2.trans T3)).app (hr2.same T3)
        · rw [q12, hb, ← ei]
          simp only [inner, rowsOf, List.append_assoc, List.cons_append, List.nil_append, Nat.add_assoc]
        · rw [q12, ← ep]
          simp only [partsFrom, List.append_assoc, List.cons_append, List.nil_append, Nat.add_assoc]
        · simp only [Kd.deep] at hd1
          omega
        · rw [List.length_append]
          omega
        · rw [List.length_append, List.length_append]
          show fs.length + 1 ≤ _
          omega
        · exact fun b o e nb => by
            have nq : b ≠ q := ne_of_none e hq
            rw [upd_ne nq]
            exact b2 _ _ (bt b o e nb) nb
end
abbrev s_end_rows : Stmt := top 12
def spEndRows (K : PySem.W.Frag) : Sp := fun vs H Q _ => ∃ (v : V) (k : Kd), vs = [v] ∧ KdAt K H v k ∧ k.ends ≤ 60 ∧ ∀ (H' : Hp) (l : Addr) (ws : List V), Same H H' → H l = none → H' l = some (.lst ws) → RowsAt K H' ws (rowsOf k true 0) → Q (.ref l) H'
section
variable {P : Program} {w : World} {K : PySem.W.Frag} {mg : Str → Option Value} {base : Heap} {tA BK HE : Addr}
theorem sc_end_rows : FnScope ["kind", "rows"] ["kind"] (defScope s_end_rows) := ⟨rfl, rfl, rfl, by decide +kernel, rfl, by decide +kernel, by decide +kernel⟩
theorem ok_end_rows {f f1 : Addr} {fd fd1 : FuncData} (F : Fun K "end_rows" "end_rows" s_end_rows f fd) (G : FnOk P w K mg base CX0 60 f1 fd1 ["kind", "asked", "rows"] (spAdd K 60)) (g1 : mg "_add_rows" = some (.ref f1)) (k1 : PySem.W.keepIn K (.ref f1) = true)
    (b1 : Binds K fd1 ["kind", "asked", "rows"] []) : FnOk P w K mg base CX0 61 f fd ["kind"] (spEndRows K) := by
  refine F.ok sc_end_rows (fun vs H Q E h => ?_) (fun cdv A outer s H vs Q E hr h => ?_)
  · obtain ⟨v, k, rfl, _⟩ := h
    rfl
  · obtain ⟨v, k, rfl, hk, h60, cont⟩ := h
    refine ⟨_, pss_cons (ps_set (i := 1) sc_end_rows.nd rfl (Or.inl rfl) (pe_lst pa_nil))
      (pss_cons (ps_expr (by exact (pe_call G hr rfl g1 k1 b1 .nil pass0 (pa_cons (pv 0) (pa_cons pe_bl (pa_cons (pv 1) pa_nil)))))) (pss_one (ps_ret (pv 1)))), ?_⟩
    refine ⟨Nat.zero_le _, fun l hl => ?_⟩
    have dk := k.deep_ends
    refine ⟨_, rfl, _, rfl, v, k, true, l, [], rfl, hk.same (SameT.of (same_new hl)), by show k.deep ≤ 60; omega, h60, upd_same, by show 0 + k.ends ≤ 60; omega, fun H' ws' b hl' hr' => ?_⟩
    refine ⟨_, rfl, cont H' l ws' (fun b' o e => ?_) hl hl' hr'⟩
    exact b _ _ ((same_new hl) _ _ e) (ne_of_none e hl)
theorem rows_get {H : Hp} : ∀ {vs : List V} {rs : List Row} {i : Nat} {x : V}, RowsAt K H vs rs → vs[i]? = some x → ∃ r, rs[i]? = some r ∧ RowAt K H x r
  | _, _, i, x, .nil, h => by simp at h
  | _, _, 0, x, .cons a _, h => by
    cases h
    exact ⟨_, rfl, a⟩
  | _, _, i + 1, x, .cons _ t, h => by
    obtain ⟨r, e, q⟩ := rows_get (i := i) (x := x) t (by simpa using h)
    exact ⟨r, by simpa using e, q⟩
theorem take_snoc {α β : Type} (f : α → β) {l : List α} {i : Nat} {x : α} (h : l[i]? = some x) : (l.take (i + 1)).map f = (l.take i).map f ++ [f x] := by
  rw [List.take_add_one, h, List.map_append]
  rfl
/-! ### signs -/
abbrev s_signs : Stmt := top 14
/-- what is told of a datum: by g where it is a kind, BadKind otherwise -/
def spTell (C : Addr) (K : PySem.W.Frag) (g : Kd → VK → Hp → Prop) : Sp := fun vs H Q E => ∃ (v : V) (d : PyData), vs = [v] ∧ Dp K H v d ∧ OkD d ∧ (∀ k, d = k.data → k.ends ≤ 60 → g k Q H) ∧ (isKd d = false → ∀ H', Same H H' → E (.ref C) none H')
def gSigns (K : PySem.W.Frag) (k : Kd) (Q : VK) (H : Hp) : Prop := ∀ (H' : Hp) (t : Addr), Same H H' → SqT K H' t ((rowsOf k true 0).map fun r => V.bl r.1) → Q (.ref t) H'
theorem sc_signs : FnScope ["kind", "row"] ["kind"] (defScope s_signs) := ⟨rfl, rfl, rfl, by decide +kernel, rfl, by decide +kernel, by decide +kernel⟩
theorem ok_signs {f f1 f2 : Addr} {fd fd1 fd2 : FuncData} (F : Fun K "signs" "signs" s_signs f fd) (T : TxtK K mg tA) (G1 : FnOk P w K mg base (L2.CX P w) 2 f1 fd1 ["kind"] (spNeed K BK)) (g1 : mg "need_kind" = some (.ref f1)) (k1 : PySem.W.keepIn K (.ref f1) = true) (b1 : Binds K fd1 ["kind"] [])
    (G2 : FnOk P w K mg base CX0 61 f2 fd2 ["kind"] (spEndRows K)) (g2 : mg "end_rows" = some (.ref f2)) (k2 : PySem.W.keepIn K (.ref f2) = true) (b2 : Binds K fd2 ["kind"] []) : FnOk P w K mg base (L2.CX P w) 62 f fd ["kind"] (spTell BK K (gSigns K)) := by
  refine F.okX sc_signs (fun vs H Q E h => ?_) (fun cdv A outer s H vs Q E hr h => ?_)
  · obtain ⟨v, d, rfl, _⟩ := h
    rfl
  · obtain ⟨v, d, rfl, hd, hs, kT, kF⟩ := h
    have hr2 : Room 2 _ := hr.mono (by decide)
    refine ⟨_, pss_cons (ps_expr (by exact (pe_call G1 hr2 rfl g1 k1 b1 .nil (passes_call (takes_of rfl rfl rfl rfl) (fun _ _ _ _ h => h)) (pa_cons (pv 0) pa_nil))))
      (pss_one (ps_ret (by exact (pe_callTy call_tuple_of (by rfl) T.tuple (by decide +kernel) (pa_cons (pe_lc (own := [("row", 1)]) (g := gName 1) (te := tOp (rIxT K) (tVar 1) (tC (.int 0))) rfl sc_signs.nd (pi_list (pe_call G2 hr rfl g2 k2 b2 .nil pass0 (pa_cons (pv 0) pa_nil)))
        (blkOk_by (own := [("row", 1)]) (N := ["kind", "row"]) (sc := defScope s_signs) (by decide +kernel)) (fun _ _ _ _ _ => pg_name (i := 1) sc_signs.nd rfl (Or.inl rfl)) (fun _ _ _ _ _ => pts_nil) (fun _ _ _ _ _ => by exact pe_ix ix_tup (pv 1) pe_int (fun _ _ => rfl))) pa_nil))))), ?_⟩
    refine ⟨_, rfl, v, d, rfl, hd, hs, fun e H1 S1 => ?_, kF⟩
    obtain ⟨k, rfl, h60⟩ := isKd_true e
    refine ⟨_, rfl, v, k, rfl, (KdAt.of_dp hd).same (SameT.of S1), h60, fun H2 l ws S2 nl hl hrw => ⟨l, rfl, ⟨_, SqL.of hl⟩, fun D hD => ?_⟩⟩
    refine lc_list (K := K) (a := l) (xs := ws) (fun i H' => H' = upd H2 D (.lst (((rowsOf k true 0).take i).map fun r => V.bl r.1))) rfl (fun i H' _ e => by subst e; exact (same_new hD).seq (SqL.of hl)) ?_ ?_
    · rintro i x H' hx rfl
      obtain ⟨r, hri, p, t, w', rfl, hp, ht, hw⟩ := rows_get hrw hx
      refine ⟨rfl, ?_⟩
      dsimp only [tYes]
      refine iteT ?_
      refine ⟨_, rfl, p, _, _, V.bl r.1, rfl, rfl, seqT_same (same_new hD) hp, atI_nat (j := 0) rfl, _, upd_same, ?_, ?_⟩
      · have hi := (List.getElem?_eq_some_iff.mp hri).1
        rw [rowsOf_len] at hi
        rw [List.length_map, List.length_take]
        exact small1000 (by omega)
      · rw [upd_upd, take_snoc _ hri]
    · rintro H' rfl
      refine ⟨D, _, rfl, .inl ⟨SqL.of upd_same, fun t ht => ?_⟩⟩
      refine kT k rfl h60 _ t (S1.trans (S2.trans ((same_new hD).trans (same_new ht)))) (.inl (.inl ?_))
      rw [upd_same, hrw.len, List.take_length]
end
/-! ### a dict filled by a comprehension over any walk -/
theorem dc_it {J : It} {n : Nat} {G : Hp → Prop} {Y : Nat → Hp → V → Hp → Prop} (w : Walk J n G Y) {g : TG} {tt : TT} {tk tv : TE} {vs : List Nat} {σ : St} {H1 : Hp} {D : Addr} {Qd : Hp → Prop} (Pv : Nat → Hp → Prop) (h0 : Pv 0 (upd H1 D (.dK []))) (hG : ∀ i H, i ≤ n → Pv i H → G H)
    (hs : ∀ i x H H', i < n → Pv i H → Y i H x H' → g x (wipe σ vs) H' fun σ2 H2 => wipe σ2 vs = wipe σ vs ∧ tt σ2 H2 fun b H3 =>
      if b = true then tk σ2 H3 fun y H4 => tv σ2 H4 fun z H5 => ∃ kvs k, y = kV k ∧ H5 D = some (.dK kvs) ∧ kvs.length < sizeLine ∧ Pv (i + 1) (upd H5 D (.dK (putK kvs k z))) else Pv (i + 1) H3) (hd : ∀ H, Pv n H → Qd H) :
    ∃ W : Nat → Nat → Hp → Prop, (∃ m, W 0 m (upd H1 D (.dK []))) ∧ ∀ i m H, W i m H →
      (J.stop i H ∧ Qd H) ∨ (J.go i H ∧ ∃ Nx : Hp → Prop, (∀ H', Nx H' → ∃ m', m' < m ∧ W (i + 1) m' H') ∧ ∀ x H', J.yld i H x H' → g x (wipe σ vs) H' fun σ2 H2 => wipe σ2 vs = wipe σ vs ∧ tt σ2 H2 fun b H3 =>
        if b = true then tk σ2 H3 fun y H4 => tv σ2 H4 fun z H5 => ∃ kvs k, y = kV k ∧ H5 D = some (.dK kvs) ∧ kvs.length < sizeLine ∧ Nx (upd H5 D (.dK (putK kvs k z))) else Nx H3) := by
  refine ⟨fun i m H => m = n - i ∧ i ≤ n ∧ Pv i H, ⟨n, by simp, Nat.zero_le _, h0⟩, ?_⟩
  rintro i m H ⟨rfl, hi, p⟩
  have q := hG i H hi p
  by_cases hlt : i < n
  · exact .inr ⟨w.goes i H hlt q, Pv (i + 1), fun H' p' => ⟨n - (i + 1), by omega, rfl, hlt, p'⟩, fun x H' y => hs i x H H' hlt p (w.yields i H x H' hlt q y)⟩
  · have e : i = n := by omega
    subst e
    exact .inl ⟨w.stops H q, hd H p⟩
/-! ### dicts from 0, 1, .. -/
def pairsFrom : Nat → List Addr → List (Key × V)
  | _, [] => []
  | i, t :: r => (.inl (i : Int), .ref t) :: pairsFrom (i + 1) r
theorem pairs_len : ∀ (i : Nat) (ts : List Addr), (pairsFrom i ts).length = ts.length
  | _, [] => rfl
  | i, _ :: r => congrArg (· + 1) (pairs_len (i + 1) r)
theorem pairs_snoc : ∀ (i : Nat) (ts : List Addr) (t : Addr), pairsFrom i (ts ++ [t]) = pairsFrom i ts ++ [(.inl ((i + ts.length : Nat) : Int), .ref t)]
  | i, [], t => rfl
  | i, a :: r, t => by
    simp only [List.cons_append, pairsFrom, pairs_snoc (i + 1) r t, List.length_cons, show i + 1 + r.length = i + (r.length + 1) by omega]
theorem pairs_none : ∀ (i : Nat) (ts : List Addr) (z : Int), (z < i ∨ ((i + ts.length : Nat) : Int) ≤ z) → valV (pairsFrom i ts) (.inl z) = none
  | _, [], _, _ => rfl
  | i, t :: r, z, h => by
    have n : ¬ (Sum.inl (i : Int) : Key) = .inl z := by
      intro e
      have e : (i : Int) = z := Sum.inl.inj e
      simp only [List.length_cons] at h
      omega
    rw [pairsFrom, valV_neg n]
    refine pairs_none (i + 1) r z ?_
    simp only [List.length_cons] at h
    rcases h with h | h
    · exact .inl (by omega)
    · exact .inr (by omega)
theorem pairs_some : ∀ (i : Nat) (ts : List Addr) (j : Nat) (t : Addr), ts[j]? = some t → valV (pairsFrom i ts) (.inl ((i + j : Nat) : Int)) = some (.ref t)
  | _, [], j, t, h => by simp at h
  | i, a :: r, 0, t, h => by
    cases h
    exact valV_pos rfl
  | i, a :: r, j + 1, t, h => by
    have n : ¬ (Sum.inl (i : Int) : Key) = .inl ((i + (j + 1) : Nat) : Int) := by
      intro e
      have e : (i : Int) = ((i + (j + 1) : Nat) : Int) := Sum.inl.inj e
      omega
    rw [pairsFrom, valV_neg n, show i + (j + 1) = i + 1 + j by omega]
    exact pairs_some (i + 1) r j t (by simpa using h)
theorem pairs_get : ∀ (i : Nat) (ts : List Addr) (j : Nat) (k : Key) (v : V), (pairsFrom i ts)[j]? = some (k, v) → ∃ t, ts[j]? = some t ∧ k = .inl ((i + j : Nat) : Int) ∧ v = .ref t
  | _, [], j, k, v, h => by simp [pairsFrom] at h
  | i, a :: r, 0, k, v, h => by
    have h : some ((Sum.inl (i : Int) : Key), V.ref a) = some (k, v) := h
    cases h
    exact ⟨a, rfl, rfl, rfl⟩
  | i, a :: r, j + 1, k, v, h => by
    obtain ⟨t, h1, h2, h3⟩ := pairs_get (i + 1) r j k v (by simpa [pairsFrom] using h)
    exact ⟨t, by simpa using h1, by rw [h2, show i + (j + 1) = i + 1 + j by omega], h3⟩
theorem none_of_same {H H' : Hp} (e : Same H H') {b : Addr} (h : H' b = none) : H b = none := by
  cases q : H b with
  | none => rfl
  | some o =>
    rw [e _ _ q] at h
    cases h
/-! ### parts -/
abbrev s_parts : Stmt := top 15
/-- the tuples of the parts, by their ends -/
def PtsAt (K : PySem.W.Frag) (H : Hp) (ts : List Addr) (rs : List Row) : Prop := Paired (fun t (r : Row) => SqT K H t (r.2.1.map intV)) ts rs
def gParts (K : PySem.W.Frag) (k : Kd) (Q : VK) (H : Hp) : Prop := ∀ (H' : Hp) (d : Addr) (ts : List Addr), Same H H' → H d = none → H' d = some (.dK (pairsFrom 0 ts)) → PtsAt K H' ts (rowsOf k true 0) → Q (.ref d) H'
theorem rows_pts {K : PySem.W.Frag} {H : Hp} : ∀ {ws : List V} {rs : List Row}, RowsAt K H ws rs → ∃ ts : List Addr, PtsAt K H ts rs ∧ ∀ i : Nat, i < ws.length → ∃ (r : Row) (t p : Addr) (w : V), rs[i]? = some r ∧ ts[i]? = some t ∧ ws[i]? = some (.ref p) ∧ SqT K H p [.bl r.1, .ref t, w]
  | _, _, .nil => ⟨[], .nil, fun i h => absurd h (Nat.not_lt_zero _)⟩
  | _, _, .cons (b := r) a q => by
    obtain ⟨ts, h1, h2⟩ := rows_pts q
    obtain ⟨p, t, w, rfl, hp, ht, hw⟩ := a
    refine ⟨t :: ts, .cons ht h1, fun i hi => ?_⟩
    cases i with
    | zero => exact ⟨r, t, p, w, rfl, rfl, rfl, hp⟩
    | succ i =>
      obtain ⟨r', t', p', w', e1, e2, e3, e4⟩ := h2 i (by simpa using hi)
      exact ⟨r', t', p', w', by simpa using e1, by simpa using e2, by simpa using e3, e4⟩
theorem PtsAt.same {K : PySem.W.Frag} {H H' : Hp} (e : Same H H') : ∀ {ts : List Addr} {rs : List Row}, PtsAt K H ts rs → PtsAt K H' ts rs
  | _, _, .nil => .nil
  | _, _, .cons h t => .cons (seqT_same e h) (PtsAt.same e t)
theorem PtsAt.len {K : PySem.W.Frag} {H : Hp} {ts : List Addr} {rs : List Row} (h : PtsAt K H ts rs) : ts.length = rs.length := Paired.length h
section
variable {P : Program} {w : World} {K : PySem.W.Frag} {mg : Str → Option Value} {base : Heap} {tA BK HE : Addr}
theorem sc_parts : FnScope ["kind", "end", "row"] ["kind"] (defScope s_parts) := ⟨rfl, rfl, rfl, by decide +kernel, rfl, by decide +kernel, by decide +kernel⟩
theorem ok_parts {f f1 f2 : Addr} {fd fd1 fd2 : FuncData} (F : Fun K "parts" "parts" s_parts f fd) (zE : mg "enumerate" = none) (G1 : FnOk P w K mg base (L2.CX P w) 2 f1 fd1 ["kind"] (spNeed K BK)) (g1 : mg "need_kind" = some (.ref f1)) (k1 : PySem.W.keepIn K (.ref f1) = true) (b1 : Binds K fd1 ["kind"] [])
    (G2 : FnOk P w K mg base CX0 61 f2 fd2 ["kind"] (spEndRows K)) (g2 : mg "end_rows" = some (.ref f2)) (k2 : PySem.W.keepIn K (.ref f2) = true) (b2 : Binds K fd2 ["kind"] []) : FnOk P w K mg base (L2.CX P w) 62 f fd ["kind"] (spTell BK K (gParts K)) := by
  refine F.okX sc_parts (fun vs H Q E h => ?_) (fun cdv A outer s H vs Q E hr h => ?_)
  · obtain ⟨v, d, rfl, _⟩ := h
    rfl
  · obtain ⟨v, d, rfl, hd, hs, kT, kF⟩ := h
    have hr2 : Room 2 _ := hr.mono (by decide)
    refine ⟨_, pss_cons (ps_expr (by exact (pe_call G1 hr2 rfl g1 k1 b1 .nil (passes_call (takes_of rfl rfl rfl rfl) (fun _ _ _ _ h => h)) (pa_cons (pv 0) pa_nil))))
      (pss_one (ps_ret (by exact (pe_dc (own := [("end", 1), ("row", 2)]) (g := gTup K 2 (gCons (gName 1) (gCons (gName 2) gNil))) (tk := tVar 1) (tv := tOp (rIxT K) (tVar 2) (tC (.int 1))) rfl sc_parts.nd (pi_enum (by rfl) zE (pa_cons (by exact (pe_call G2 hr rfl g2 k2 b2 .nil pass0 (pa_cons (pv 0) pa_nil))) pa_nil))
        (blkOk_by (own := [("end", 1), ("row", 2)]) (N := ["kind", "end", "row"]) (sc := defScope s_parts) (by decide +kernel)) (fun _ _ _ _ _ => pg_tup rfl (pgs_cons (pg_name (i := 1) sc_parts.nd rfl (Or.inl rfl)) (pgs_cons (pg_name (i := 2) sc_parts.nd rfl (Or.inl rfl)) pgs_nil)))
        (fun _ _ _ _ _ => pts_nil) (fun _ _ _ _ _ => pv 1) (fun _ _ _ _ _ => by exact pe_ix ix_tup (pv 2) pe_int (fun _ _ => rfl)))))), ?_⟩
    refine ⟨_, rfl, v, d, rfl, hd, hs, fun e H1 S1 => ?_, kF⟩
    obtain ⟨k, rfl, h60⟩ := isKd_true e
    refine ⟨_, rfl, v, k, rfl, (KdAt.of_dp hd).same (SameT.of S1), h60, fun H2 l ws S2 nl hl hrw => ⟨l, ws, rfl, SqL.of hl, fun D hD => ?_⟩⟩
    obtain ⟨ts, hts, hat⟩ := rows_pts hrw
    have hlen : ws.length = ts.length := by rw [hts.len, hrw.len]
    have h60' : ts.length ≤ 60 := by rw [hts.len, rowsOf_len]; exact h60
    refine dc_it (walk_enum (K := K) (a := l) (xs := ws)) (fun i H' => Same H2 H' ∧ H' D = some (.dK (pairsFrom 0 (ts.take i)))) ⟨same_new hD, upd_same⟩ (fun i H' _ e => e.1.seq (SqL.of hl)) ?_ ?_
    · rintro i x H3 H' hi ⟨S3, hD3⟩ ⟨T, x', y, rfl, hT, rfl, ex, ey⟩
      cases ex
      obtain ⟨r, t, p, w', e1, e2, e3, e4⟩ := hat i hi
      have ey : ws[i]? = some y := ey
      rw [e3] at ey
      cases ey
      have nDT : D ≠ T := ne_of_none hD3 hT
      have S4 : Same H3 (upd H3 T (.tup [.int (i : Nat), .ref p])) := same_new hT
      refine ⟨T, _, rfl, .inl (.inl upd_same), rfl, _, _, rfl, ?_⟩
      refine ⟨_, _, rfl, ?_⟩
      refine ⟨rfl, ?_⟩
      refine ⟨rfl, ?_⟩
      dsimp only [tYes]
      refine iteT ?_
      refine ⟨_, rfl, _, rfl, p, _, _, V.ref t, rfl, rfl, seqT_same (S3.trans S4) e4, atI_nat (j := 1) rfl, pairsFrom 0 (ts.take i), .inl (i : Nat), rfl, ?_, ?_, ?_, ?_⟩
      · rw [upd_ne nDT]
        exact hD3
      · rw [pairs_len, List.length_take]
        exact small1000 (by omega)
      · intro b o e
        have nb : b ≠ D := ne_of_none e hD
        rw [upd_ne nb]
        exact (S3.trans S4) _ _ e
      · rw [upd_same, putK_new _ (pairs_none 0 _ _ (.inr (by rw [List.length_take]; omega))), List.take_add_one, e2]
        show _ = some (HO.dK (pairsFrom 0 (ts.take i ++ [t])))
        rw [pairs_snoc, List.length_take, show 0 + min i ts.length = i by omega]
    · rintro H' ⟨S3, hD3⟩
      rw [hlen, List.take_length] at hD3
      refine kT k rfl h60 H' D ts (S1.trans (S2.trans S3)) (none_of_same (S1.trans S2) hD) hD3 (hts.same S3)
end
theorem hu_of {k : Nat} {A : Around} (hr : Room k A) : A.units + 1 < cLine := by
  have := hr.units
  omega
/-! ### is_whole -/
def isIntB : PyData → Bool
  | .bool _ => true
  | .int _ => true
  | _ => false
def isBoolB : PyData → Bool
  | .bool _ => true
  | _ => false
def isWh : PyData → Bool
  | .int _ => true
  | _ => false
theorem isWh_eq : ∀ d : PyData, (isIntB d && !isBoolB d) = isWh d
  | .none => rfl
  | .bool _ => rfl
  | .int _ => rfl
  | .str _ => rfl
  | .list _ => rfl
  | .tuple _ => rfl
  | .dict _ => rfl
theorem kit_int {K : PySem.W.Frag} : ∀ d : PyData, PySem.W.kitOne K (.type (tyName d)) (.type "int") = some (isIntB d)
  | .none => (kit_ty (by decide +kernel) : PySem.W.kitOne K (.type "NoneType") (.type "int") = some false)
  | .bool _ => (kit_ty (by decide +kernel) : PySem.W.kitOne K (.type "bool") (.type "int") = some true)
  | .int _ => (kit_ty (by decide +kernel) : PySem.W.kitOne K (.type "int") (.type "int") = some true)
  | .str _ => (kit_ty (by decide +kernel) : PySem.W.kitOne K (.type "str") (.type "int") = some false)
  | .list _ => (kit_ty (by decide +kernel) : PySem.W.kitOne K (.type "list") (.type "int") = some false)
  | .tuple _ => (kit_ty (by decide +kernel) : PySem.W.kitOne K (.type "tuple") (.type "int") = some false)
  | .dict _ => (kit_ty (by decide +kernel) : PySem.W.kitOne K (.type "dict") (.type "int") = some false)
theorem kit_bool {K : PySem.W.Frag} : ∀ d : PyData, PySem.W.kitOne K (.type (tyName d)) (.type "bool") = some (isBoolB d)
  | .none => (kit_ty (by decide +kernel) : PySem.W.kitOne K (.type "NoneType") (.type "bool") = some false)
  | .bool _ => (kit_ty (by decide +kernel) : PySem.W.kitOne K (.type "bool") (.type "bool") = some true)
  | .int _ => (kit_ty (by decide +kernel) : PySem.W.kitOne K (.type "int") (.type "bool") = some false)
  | .str _ => (kit_ty (by decide +kernel) : PySem.W.kitOne K (.type "str") (.type "bool") = some false)
  | .list _ => (kit_ty (by decide +kernel) : PySem.W.kitOne K (.type "list") (.type "bool") = some false)
  | .tuple _ => (kit_ty (by decide +kernel) : PySem.W.kitOne K (.type "tuple") (.type "bool") = some false)
  | .dict _ => (kit_ty (by decide +kernel) : PySem.W.kitOne K (.type "dict") (.type "bool") = some false)
abbrev s_is_whole : Stmt := top 10
def spWhole (K : PySem.W.Frag) : Sp := fun vs H Q _ => ∃ (v : V) (d : PyData), vs = [v] ∧ Dp K H v d ∧ Q (.bl (isWh d)) H
section
variable {P : Program} {w : World} {K : PySem.W.Frag} {mg : Str → Option Value} {base : Heap} {tA BK BE HE : Addr}
theorem sc_is_whole : FnScope ["value"] ["value"] (defScope s_is_whole) := ⟨rfl, rfl, rfl, by decide +kernel, rfl, by decide +kernel, by decide +kernel⟩
theorem ok_is_whole {f : Addr} {fd : FuncData} (F : Fun K "is_whole" "is_whole" s_is_whole f fd) (z1 : mg "isinstance" = none) (z2 : mg "int" = none) (z3 : mg "bool" = none) : FnOk P w K mg base CX0 1 f fd ["value"] (spWhole K) := by
  refine F.ok sc_is_whole (fun vs H Q E h => ?_) (fun cdv A outer s H vs Q E hr h => ?_)
  · obtain ⟨v, d, rfl, _⟩ := h
    rfl
  · obtain ⟨v, d, rfl, hd, q⟩ := h
    refine ⟨_, pss_one (ps_ret (by exact (pe_and (by exact (pe_callB call_isi (by rfl) z1 (by decide +kernel) (pa_cons (pv 0) (pa_cons (pe_bltn (v := .ty "int") rfl z2 (by decide +kernel) rfl) pa_nil))))
      (pe_one (pe_not (by exact (pe_callB call_isi (by rfl) z1 (by decide +kernel) (pa_cons (pv 0) (pa_cons (pe_bltn (v := .ty "bool") rfl z3 (by decide +kernel) rfl) pa_nil))))))))), ?_⟩
    refine ⟨_, rfl, _, _, _, _, _, rfl, .ty _, tyX_dp hd, kit_int d, _, rfl, ?_⟩
    have e := isWh_eq d
    cases h : isIntB d with
    | false =>
      rw [h, Bool.false_and] at e
      refine iteF ?_
      rw [e]
      exact q
    | true =>
      rw [h, Bool.true_and] at e
      refine iteT ?_
      refine ⟨_, rfl, _, _, _, _, _, rfl, .ty _, tyX_dp hd, kit_bool d, _, rfl, ?_⟩
      rw [e]
      exact q
end
/-! ### keeper -/
abbrev s_keeper : Stmt := top 16
/-- the first of rs, numbered from b on, of which i is a part -/
def owner (i : Nat) : Nat → List Row → Option Nat
  | _, [] => none
  | b, r :: t => if r.2.1.contains i then some b else owner i (b + 1) t
theorem any_intV (i : Nat) : ∀ fs : List Nat, inV (intV i) (fs.map intV) = fs.contains i
  | [] => rfl
  | a :: r => by
    have t := any_intV i r
    unfold inV at t ⊢
    rw [List.map_cons, List.any_cons, t, List.contains_cons]
    congr 1
    show decide ((a : Int) = (i : Int)) = (i == a)
    by_cases h : a = i
    · subst h
      simp
    · have h1 : ¬ (a : Int) = (i : Int) := by omega
      have h2 : ¬ i = a := by omega
      simp [h1, h2]
theorem flat_intV : ∀ fs : List Nat, (fs.map intV).all flatV = true
  | [] => rfl
  | a :: r => by
    rw [List.map_cons, List.all_cons, flat_intV r]
    rfl
/-- what keeper tells of an end of k -/
def gKeep (k : Kd) (i : Nat) : V := match owner i 0 (rowsOf k true 0) with | none => .non | some j => intV j
def spKeeper (BK BE : Addr) (K : PySem.W.Frag) : Sp := fun vs H Q E => ∃ (v e : V) (d x : PyData), vs = [v, e] ∧ Dp K H v d ∧ OkD d ∧ Dp K H e x ∧
  (∀ k, d = k.data → k.ends ≤ 60 → (∀ i : Nat, x = .int i → i < k.ends → ∀ H', Same H H' → Q (gKeep k i) H') ∧ ((∀ i : Nat, x = .int i → k.ends ≤ i) → ∀ H', Same H H' → E (.ref BE) none H')) ∧ (isKd d = false → ∀ H', Same H H' → E (.ref BK) none H')
theorem sc_keeper : FnScope ["kind", "end", "found", "other"] ["kind", "end"] (defScope s_keeper) := ⟨rfl, rfl, rfl, by decide +kernel, rfl, by decide +kernel, by decide +kernel⟩
theorem get_drop {α : Type} {l : List α} {i : Nat} {x : α} (h : l[i]? = some x) : l.drop i = x :: l.drop (i + 1) := by
  obtain ⟨h1, h2⟩ := List.getElem?_eq_some_iff.mp h
  rw [List.drop_eq_getElem_cons h1, h2]
theorem PtsAt.get {K : PySem.W.Frag} {H : Hp} : ∀ {ts : List Addr} {rs : List Row} {j : Nat} {t : Addr}, PtsAt K H ts rs → ts[j]? = some t → ∃ r, rs[j]? = some r ∧ SqT K H t (r.2.1.map intV)
  | _, _, j, t, .nil, h => by simp at h
  | _, _, 0, t, .cons a _, h => by
    cases h
    exact ⟨_, rfl, a⟩
  | _, _, j + 1, t, .cons _ q, h => by
    obtain ⟨r, h1, h2⟩ := PtsAt.get (j := j) q (by simpa using h)
    exact ⟨r, by simpa using h1, h2⟩
section
variable {P : Program} {w : World} {K : PySem.W.Frag} {mg : Str → Option Value} {base : Heap} {tA BK BE HE : Addr}
theorem tups_dK {l : Addr} {H : Hp} {kvs : List (Key × V)} {u : HO} (h : H l = some (.dK kvs)) : SameT H (upd H l u) := fun b ys hb => by
  have n : b ≠ l := by
    rintro rfl
    rcases hb with hb | ⟨o, hb⟩ <;> rw [h] at hb <;> cases hb
  rcases hb with hb | ⟨o, hb⟩
  · exact .inl (by rw [upd_ne n]; exact hb)
  · exact .inr ⟨o, by rw [upd_ne n]; exact hb⟩
theorem same_sqT {H H' : Hp} (e : Same H H') {a : Addr} {xs : List V} (h : SqT K H a xs) : SqT K H' a xs := seqT_same e h
theorem ok_keeper {f f1 f2 : Addr} {fd fd1 fd2 : FuncData} (F : Fun K "keeper" "keeper" s_keeper f fd) (C : ErrC K mg "BadEnd" BE HE) (G1 : FnOk P w K mg base (L2.CX P w) 62 f1 fd1 ["kind"] (spTell BK K (gParts K))) (g1 : mg "parts" = some (.ref f1)) (k1 : PySem.W.keepIn K (.ref f1) = true) (b1 : Binds K fd1 ["kind"] [])
    (G2 : FnOk P w K mg base CX0 1 f2 fd2 ["value"] (spWhole K)) (g2 : mg "is_whole" = some (.ref f2)) (k2 : PySem.W.keepIn K (.ref f2) = true) (b2 : Binds K fd2 ["value"] []) : FnOk P w K mg base (L2.CX P w) 63 f fd ["kind", "end"] (spKeeper BK BE K) := by
  refine F.okX sc_keeper (fun vs H Q E h => ?_) (fun cdv A outer s H vs Q E hr h => ?_)
  · obtain ⟨v, e, d, x, rfl, _⟩ := h
    rfl
  · obtain ⟨v, e, d, x, rfl, hd, hs, he, kT, kF⟩ := h
    have hr1 : Room 1 _ := hr.mono (by decide)
    have hu := hu_of hr
    refine ⟨_, pss_cons (ps_set (i := 2) sc_keeper.nd rfl (Or.inl rfl) (by exact (pe_call G1 hr rfl g1 k1 b1 .nil (passes_call (takes_of rfl rfl rfl rfl) (fun _ _ _ _ h => h)) (pa_cons (pv 0) pa_nil))))
      (pss_cons (ps_if (PW.pt (pw_or (pt_not (pt_val (by exact (pe_call G2 hr1 rfl g2 k2 b2 .nil pass0 (pa_cons (pv 1) pa_nil))))) (pw_or1 (pt_cmp (pc_dnotin hu (pv 1) (pv 2))))))
        (pss_one (ps_raise rfl (takes_of rfl rfl rfl rfl) (pmk_own PySem.F.excBase_ValueError C.q C.gC C.kC (raises_own C.sB C.tC) rfl))) pss_nil)
      (pss_cons (ps_lock (ps_for (passes_of rfl) rfl (pi_keys (pv 2)) (pg_name (i := 3) sc_keeper.nd rfl (Or.inl rfl))
        (pss_one (ps_if (pt_cmpR op_in_seq (pv 1) (by exact (pe_dget hu (pv 2) (pv 3) (fun _ _ => rfl))) (by with_unfolding_all rfl)) (pss_one (ps_ret (pv 3))) pss_nil))))
      (pss_one (ps_ret pe_non)))), ?_⟩
    refine ⟨_, rfl, v, d, rfl, hd, hs, fun k hk h60 => ?_, kF⟩
    obtain ⟨kI, kE⟩ := kT k hk h60
    refine fun H1 D ts S1 nD hD hts => ?_
    have hlen : ts.length = k.ends := by rw [hts.len, rowsOf_len]
    refine ⟨_, rfl, e, x, rfl, dp_same S1 he, ⟨_, rfl, ?_⟩⟩
    have bad : (∀ i : Nat, x = .int i → k.ends ≤ i) → E (.ref BE) none H1 := fun h => kE h H1 S1
    cases he with
    | int z =>
      refine iteF ?_
      refine ⟨_, rfl, _, rfl, D, valV (pairsFrom 0 ts) (.inl z), rfl, DGet.k (k := .inl z) hD, ⟨_, rfl, ?_⟩⟩
      by_cases hz : 0 ≤ z ∧ z < ts.length
      · obtain ⟨i, rfl⟩ := Int.eq_ofNat_of_zero_le hz.1
        have hi : i < ts.length := by have := hz.2; omega
        have hg : valV (pairsFrom 0 ts) (.inl (i : Int)) = some (.ref ts[i]) := by
          have := pairs_some 0 ts i ts[i] (List.getElem?_eq_getElem hi)
          rwa [Nat.zero_add] at this
        rw [hg]
        refine iteF ?_
        refine ⟨D, _, hD, True.intro, fun od => ?_⟩
        have T1 : SameT H1 (upd H1 D (.frz od (.dK (pairsFrom 0 ts)))) := tups_dK hD
        have S2 : ∀ {H' : Hp}, H' = upd H1 D (.frz od (.dK (pairsFrom 0 ts))) → Same H (upd H' D (.dK (pairsFrom 0 ts))) := fun {H'} e b o h => by
          subst e
          rw [upd_ne (ne_of_none h nD), upd_ne (ne_of_none h nD)]
          exact S1 _ _ h
        refine ⟨_, rfl, D, od, rfl, .inl ⟨pairsFrom 0 ts, upd_same, ?_⟩⟩
        refine for_it walk_keys (fun j σ H' => ∃ o3, σ = [some v, some (.int i), some (.ref D), o3] ∧ H' = upd H1 D (.frz od (.dK (pairsFrom 0 ts))) ∧ owner i j ((rowsOf k true 0).drop j) = owner i 0 (rowsOf k true 0)) ⟨none, rfl, rfl, rfl⟩ ?_ ?_ ?_
        · rintro j σ H' _ ⟨o3, rfl, rfl, _⟩
          exact upd_same
        · rintro j x σ H2 H' hj ⟨o3, rfl, rfl, ho⟩ ⟨rfl, k', v', e1, rfl⟩
          obtain ⟨t, e2, rfl, rfl⟩ := pairs_get 0 ts j k' v' e1
          obtain ⟨r, e3, e4⟩ := hts.get e2
          rw [get_drop e3, owner] at ho
          have hg2 : valV (pairsFrom 0 ts) (.inl ((0 + j : Nat) : Int)) = some (.ref t) := pairs_some 0 ts j t e2
          refine ⟨_, rfl, _, rfl, _, rfl, D, .ref t, rfl, .inl ⟨pairsFrom 0 ts, .inl ((0 + j : Nat) : Int), .inr ⟨od, upd_same⟩, rfl, hg2.symm⟩, ?_⟩
          refine ⟨t, _, rfl, .inr (sameT_sq T1 e4), rfl, flat_intV _, r.2.1.contains i, congrArg V.bl (any_intV i r.2.1), ?_⟩
          cases hc : r.2.1.contains i with
          | true =>
            rw [hc] at ho
            refine iteT ?_
            refine ⟨_, rfl, upd_same, ?_⟩
            have := kI i rfl (by omega) _ (S2 rfl)
            rw [gKeep, ← ho] at this
            rw [Nat.zero_add]
            exact this
          | false =>
            rw [hc] at ho
            refine iteF ?_
            exact ⟨_, rfl, rfl, ho⟩
        · rintro σ H' ⟨o3, rfl, rfl, ho⟩
          refine ⟨upd_same, ?_⟩
          have := kI i rfl (by omega) _ (S2 rfl)
          rw [List.drop_eq_nil_of_le (by rw [pairs_len, hts.len]; exact Nat.le_refl _)] at ho
          rw [gKeep, ← ho] at this
          exact this
      · have hg : valV (pairsFrom 0 ts) (.inl z) = none := pairs_none 0 ts z (by omega)
        rw [hg]
        refine iteT ?_
        refine bad fun i ei => ?_
        cases ei
        omega
    | _ => exact iteT (iteT (bad (fun i ei => nomatch ei)))
end
end My
set_option Elab.async false
set_option linter.all false
set_option maxRecDepth 100000
set_option maxHeartbeats 4000000
namespace My
open PySem L2 Kn
abbrev sBegun : Stmt := top 18
abbrev sBlended : Stmt := top 19
abbrev sDraw : Stmt := top 20
abbrev sPick : Stmt := top 21

/-- the pairs of a drawing state -/
def kvD (g c : Addr) (r t : Int) : List (Key × V) := [(Sum.inr "great", .ref g), (Sum.inr "cells", .ref c), (Sum.inr "rest", .int r), (Sum.inr "turn", .int t)]
/-- a drawing state stands at d, its lists at g and c; at most m turns have been made -/
def DrawSt (H : Hp) (d g c : Addr) (m : Nat) : Prop := ∃ (gs cs : List Int) (r t : Int), H d = some (.dK (kvD g c r t)) ∧ H g = some (.lst (gs.map V.int)) ∧ H c = some (.lst (cs.map V.int)) ∧ 0 ≤ t ∧ t ≤ m ∧ gs.length ≤ 63 ∧ g ≠ c

def spBegun (K : PySem.W.Frag) : Sp := fun vs H Q _ => ∃ (a : Addr) (ns : List Int), vs = [.ref a] ∧ SqL K H a (ns.map V.int) ∧ ns.length ≤ 63 ∧
  ∀ (H' : Hp) (d g c : Addr), Same H H' → H d = none → H g = none → H c = none → DrawSt H' d g c 0 → Q (.ref d) H'

theorem int_at {ns : List Int} {i : Nat} {x : V} (h : (ns.map V.int)[i]? = some x) : ∃ z, ns[i]? = some z ∧ x = V.int z := by
  rw [List.getElem?_map] at h
  cases e : ns[i]? with
  | none => rw [e] at h; cases h
  | some z => rw [e] at h; exact ⟨z, rfl, (Option.some.inj h).symm⟩
section
variable {P : Program} {w : World} {K : PySem.W.Frag} {mg : Str → Option Value} {base : Heap}
theorem scB : FnScope ["script", "great", "cell"] ["script"] (defScope sBegun) := ⟨rfl, rfl, rfl, by decide +kernel, rfl, by decide +kernel, by decide +kernel⟩
theorem ok_begun {f : Addr} {fd : FuncData} (F : Fun K "_law_begun" "_law_begun" sBegun f fd) (zabs : mg "abs" = none) : FnOk P w K mg base CX0 1 f fd ["script"] (spBegun K) := by
  refine F.ok scB (fun vs H Q E h => ?_) (fun cdv A outer s H vs Q E hr h => ?_)
  · obtain ⟨a, ns, rfl, _⟩ := h
    rfl
  · obtain ⟨a, ns, rfl, hS, hlen, k⟩ := h
    refine ⟨_, pss_cons (ps_setLc (i := 1) (own := [("cell", 2)]) (g := gName 2) rfl scB.nd rfl rfl (sw_true rfl rfl rfl (by decide +kernel)) (pi_list (pv 0)) (blkOk_by (own := [("cell", 2)]) (N := ["script", "great", "cell"]) (sc := defScope sBegun) (by decide +kernel))
        (fun _ _ _ _ _ => pg_name (i := 2) scB.nd rfl (Or.inl rfl))
        (fun _ _ _ _ _ => by exact pts_one (pt_cmpR op_ge (pe_callB call_abs (by rfl) zabs (by decide +kernel) (pa_cons (pv 2) pa_nil)) (pe_op op_pow pe_int pe_int) (nomark _)))
        (fun _ _ _ _ _ => by exact pe_op op_sub (pe_callB call_abs (by rfl) zabs (by decide +kernel) (pa_cons (pv 2) pa_nil)) (pe_op op_pow pe_int pe_int)))
      (pss_one (ps_ret (pe_disp (pps_cons pe_str (pv 1) (pps_cons pe_str
        (pe_lc (own := [("cell", 2)]) (g := gName 2) (by rfl) scB.nd (pi_list (pv 0)) (blkOk_by (own := [("cell", 2)]) (N := ["script", "great", "cell"]) (sc := defScope sBegun) (by decide +kernel))
          (fun _ _ _ _ _ => pg_name (i := 2) scB.nd rfl (Or.inl rfl)) (fun _ _ _ _ _ => pts_nil) (fun _ _ _ _ _ => by exact pe_callB call_abs (by rfl) zabs (by decide +kernel) (pa_cons (pv 2) pa_nil)))
        (pps_cons pe_str pe_int (pps_cons pe_str pe_int pps_nil)))) (by rfl) (by rfl) (fun z => by cases z) (by decide)))), ?_⟩
    refine ⟨_, rfl, a, rfl, ⟨_, hS⟩, fun D hD => lc_list (K := K) (a := a) (xs := ns.map V.int) (fun i H' => ∃ gs : List Int, gs.length ≤ i ∧ H' = upd H D (.lst (gs.map V.int)))
      ⟨[], Nat.le_refl _, rfl⟩ (fun i H' _ ⟨gs, _, e⟩ => by subst e; exact (same_new hD).seq hS) ?_ ?_⟩
    · rintro i x H' hx ⟨gs, hg, rfl⟩
      have hi : i < ns.length := by
        have := (List.getElem?_eq_some_iff.mp hx).1
        simpa using this
      obtain ⟨z, hz, rfl⟩ := int_at hx
      refine ⟨rfl, _, rfl, z, rfl, _, _, rfl, rfl, ⟨by decide, by decide, by decide⟩, _, _, rfl, rfl, _, rfl, ?_⟩
      have hadd : ∀ y : Int, upd (upd H D (.lst (gs.map V.int))) D (.lst (gs.map V.int ++ [V.int y])) = upd H D (.lst ((gs ++ [y]).map V.int)) := fun y => by
        rw [upd_upd, List.map_append]
        all_goals rfl
      refine ite2 (fun _ => ?_) (fun _ => ?_)
      · refine ⟨_, rfl, z, rfl, _, _, rfl, rfl, ⟨by decide, by decide, by decide⟩, _, _, rfl, rfl, _, upd_same, ?_, gs ++ [(if z < 0 then -z else z) - 10 ^ (18 : Int).toNat], ?_, hadd _⟩
        · rw [List.length_map]
          exact small1000 (by omega)
        · rw [List.length_append]
          show gs.length + 1 ≤ i + 1
          omega
      · exact ⟨gs, by omega, rfl⟩
    · rintro H' ⟨gs, hg, rfl⟩
      rw [List.length_map] at hg
      refine fun p hp => ?_
      have npD : D ≠ p := ne_of_none (upd_same (H := H) (a := D)) hp
      have hpH : H p = none := by
        rw [← hp, upd_ne npD.symm]
      have S1 : Same H (upd (upd H D (.lst (gs.map V.int))) p (.dK [])) := Same.trans (same_new hD) (same_new hp)
      refine ⟨_, rfl, _, rfl, a, rfl, ⟨_, S1.seq hS⟩, fun C hC => lc_list (K := K) (a := a) (xs := ns.map V.int)
        (fun i H' => ∃ cs : List Int, cs.length ≤ i ∧ H' = upd (upd (upd H D (.lst (gs.map V.int))) p (.dK [])) C (.lst (cs.map V.int))) ⟨[], Nat.le_refl _, rfl⟩ (fun i H' _ ⟨cs, _, e⟩ => by subst e; exact (Same.trans S1 (same_new hC)).seq hS) ?_ ?_⟩
      · rintro i x H' hx ⟨cs, hc, rfl⟩
        have hi : i < ns.length := by
          have := (List.getElem?_eq_some_iff.mp hx).1
          simpa using this
        obtain ⟨z, hz, rfl⟩ := int_at hx
        refine ⟨rfl, ?_⟩
        dsimp only [tYes]
        refine iteT ?_
        refine ⟨_, rfl, z, rfl, _, upd_same, ?_, cs ++ [if z < 0 then -z else z], ?_, ?_⟩
        · rw [List.length_map]
          exact small1000 (by omega)
        · rw [List.length_append]
          show cs.length + 1 ≤ i + 1
          omega
        · rw [upd_upd, List.map_append]
          all_goals rfl
      · rintro H' ⟨cs, hc, rfl⟩
        have npC : p ≠ C := ne_of_none (upd_same (H := upd H D (.lst (gs.map V.int))) (a := p)) hC
        have nDC : D ≠ C := ne_of_none (o := .lst (gs.map V.int)) (by rw [upd_ne npD, upd_same]) hC
        have hCH : H C = none := by rw [← hC, upd_ne npC.symm, upd_ne nDC.symm]
        refine ⟨by rw [upd_ne npC, upd_same], kvD D C 0 0, rfl, (by show 4 ≤ 15; decide), ?_⟩
        have em : mergeK [] (kvD D C 0 0) = kvD D C 0 0 := by rfl
        rw [em]
        refine k _ p D C (fun b o e => ?_) hpH hD hCH ⟨gs, cs, 0, 0, upd_same, ?_, ?_, Int.le_refl _, Int.le_refl _, by omega, nDC⟩
        · rw [upd_ne (ne_of_none e hpH), upd_ne (ne_of_none e hCH), upd_ne (ne_of_none e hpH), upd_ne (ne_of_none e hD)]
          exact e
        · rw [upd_ne npD, upd_ne nDC, upd_ne npD, upd_same]
        · rw [upd_ne npC.symm, upd_same]

theorem DrawSt.same {H H' : Hp} {d g c : Addr} {m : Nat} (h : DrawSt H d g c m) (k : Same H H') : DrawSt H' d g c m := by
  obtain ⟨gs, cs, r, t, h1, h2, h3, h4⟩ := h
  exact ⟨gs, cs, r, t, k _ _ h1, k _ _ h2, k _ _ h3, h4⟩
theorem DrawSt.more {H : Hp} {d g c : Addr} {m n : Nat} (h : DrawSt H d g c m) (k : m ≤ n) : DrawSt H d g c n := by
  obtain ⟨gs, cs, r, t, h1, h2, h3, h4, h5, h6⟩ := h
  exact ⟨gs, cs, r, t, h1, h2, h3, h4, by omega, h6⟩
/-- what is not there is none of its three -/
theorem DrawSt.ne {H : Hp} {d g c l : Addr} {m : Nat} (h : DrawSt H d g c m) (n : H l = none) : l ≠ d ∧ l ≠ g ∧ l ≠ c := by
  obtain ⟨gs, cs, r, t, h1, h2, h3, _⟩ := h
  exact ⟨(ne_of_none h1 n).symm, (ne_of_none h2 n).symm, (ne_of_none h3 n).symm⟩

/-! ### the state's pairs -/
theorem kvD_great (g c : Addr) (r t : Int) : valV (kvD g c r t) (Sum.inr "great" : Key) = some (.ref g) := by rfl
theorem kvD_cells (g c : Addr) (r t : Int) : valV (kvD g c r t) (Sum.inr "cells" : Key) = some (.ref c) := by rfl
theorem kvD_rest (g c : Addr) (r t : Int) : valV (kvD g c r t) (Sum.inr "rest" : Key) = some (.int r) := by rfl
theorem kvD_turn (g c : Addr) (r t : Int) : valV (kvD g c r t) (Sum.inr "turn" : Key) = some (.int t) := by rfl
theorem putD_rest (g c : Addr) (r t z : Int) : putK (kvD g c r t) (Sum.inr "rest" : Key) (.int z) = kvD g c z t := by rfl
theorem putD_turn (g c : Addr) (r t z : Int) : putK (kvD g c r t) (Sum.inr "turn" : Key) (.int z) = kvD g c r z := by rfl
theorem getD_of {H : Hp} {d : Addr} {kvs : List (Key × V)} (h : H d = some (.dK kvs)) (x : Str) {v : V} (e : valV kvs (Sum.inr x : Key) = some v) : DGet H d (.str x) (some v) := by
  rw [← e]
  exact DGet.k (k := Sum.inr x) h
theorem putD_of {H : Hp} {d : Addr} {kvs kvs' : List (Key × V)} (h : H d = some (.dK kvs)) (x : Str) {v : V} (hl : kvs.length ≤ 1000) (e : putK kvs (Sum.inr x : Key) v = kvs') : DPut H d (.str x) v (upd H d (.dK kvs')) := by
  rw [← e]
  exact DPut.k (k := Sum.inr x) h (small1000 hl)

/-! ### _law_blended -/
def spBlended : Sp := fun vs H Q _ => ∃ (d g c : Addr) (m : Nat), vs = [.ref d] ∧ DrawSt H d g c m ∧ m ≤ 2 ^ 40 ∧
  ∀ (H' : Hp) (n : Int), DrawSt H' d g c (m + 1) → (∀ b o, H b = some o → b ≠ d → H' b = some o) → Q (.int n) H'
def primes : List V := [.int 2147483579, .int 2147483629, .int 2147483563]
theorem primes_at {i : Nat} {x : V} (h : primes[i]? = some x) : ∃ z : Int, x = .int z ∧ 2147483563 ≤ z ∧ z ≤ 2147483629 := by
  unfold primes at h
  match i, h with
  | 0, h => exact ⟨2147483579, (Option.some.inj h).symm, by decide, by decide⟩
  | 1, h => exact ⟨2147483629, (Option.some.inj h).symm, by decide, by decide⟩
  | 2, h => exact ⟨2147483563, (Option.some.inj h).symm, by decide, by decide⟩
  | (n + 3), h => simp at h
theorem scBl : FnScope ["state", "turn", "found", "prime", "blend", "cell"] ["state"] (defScope sBlended) := ⟨rfl, rfl, rfl, by decide +kernel, rfl, by decide +kernel, by decide +kernel⟩
theorem ok_blended {f : Addr} {fd : FuncData} (F : Fun K "_law_blended" "_law_blended" sBlended f fd) (zint : mg "int" = none) : FnOk P w K mg base CX0 1 f fd ["state"] spBlended := by
  refine F.ok scBl (fun vs H Q E h => ?_) (fun cdv A outer s H vs Q E hr h => ?_)
  · obtain ⟨d, g, c, m, rfl, _⟩ := h
    rfl
  · obtain ⟨d, g, c, m, rfl, ⟨gs, cs, r, t, hd, hg, hc, t0, tm, gl, gc⟩, hm, k⟩ := h
    have hu := hu_of hr
    refine ⟨_, pss_cons (ps_par (i := 1) (j := 2) rfl scBl.nd rfl rfl (by decide) rfl rfl (pa_cons (pe_op op_add (pe_dget hu (pv 0) pe_str (fun _ _ => rfl)) pe_int) (pa_cons pe_int pa_nil)) (by rfl))
      (pss_cons (ps_dput hu (pv 0) pe_str (pv 1) rfl)
      (pss_cons (ps_for PassesOwn.never rfl (pi_list (pe_lst (pa_cons pe_int (pa_cons pe_int (pa_cons pe_int pa_nil))))) (pg_name (i := 3) scBl.nd rfl (Or.inl rfl))
        (pss_cons (ps_set (i := 4) scBl.nd rfl (Or.inl rfl) (pe_op op_add (pe_op op_mul pe_int (pv 1)) (pe_op op_fdiv (pv 3) pe_int)))
        (pss_cons (ps_for PassesOwn.never rfl (pi_list (pe_dget hu (pv 0) pe_str (fun _ _ => rfl))) (pg_name (i := 5) scBl.nd rfl (Or.inl rfl))
          (pss_one (ps_set (i := 4) scBl.nd rfl (Or.inl rfl) (by exact (pe_op op_modN (pe_callTy call_int1 (by rfl) zint (by decide +kernel) (pa_cons (pe_op op_add (pe_op op_add (pe_op op_mul (pv 4) pe_int) (pv 5)) (pv 1)) pa_nil)) (pv 3))))))
        (pss_one (ps_set (i := 2) scBl.nd rfl (Or.inl rfl) (by exact (pe_op op_add (pe_op op_mul (pv 2) pe_int) (pe_op op_modN (pe_callTy call_int1 (by rfl) zint (by decide +kernel) (pa_cons (pe_op op_pow (pv 4) pe_int) pa_nil)) (pv 3)))))))))
      (pss_one (ps_ret (pv 2))))), ?_⟩
    refine ⟨_, rfl, d, _, rfl, getD_of hd "turn" (kvD_turn g c r t), _, _, rfl, rfl, _, _, rfl, ?_⟩
    refine ⟨_, rfl, _, rfl, d, _, rfl, putD_of hd "turn" (by show 4 ≤ 1000; decide) (putD_turn g c r t (t + 1)), ?_⟩
    have hgd : g ≠ d := ne_of hg hd (by intro z; cases z)
    have hcd : c ≠ d := ne_of hc hd (by intro z; cases z)
    refine ⟨by show 3 ≤ sizeLine; decide, fun p hp => ?_⟩
    have npd : d ≠ p := ne_of_none upd_same hp
    have nph : H p = none := by rw [← hp, upd_ne npd.symm]
    have npg : g ≠ p := ne_of_none hg nph
    have npc : c ≠ p := ne_of_none hc nph
    generalize hH3 : upd (upd H d (.dK (kvD g c r (t + 1)))) p (.lst primes) = H3
    have e3d : H3 d = some (.dK (kvD g c r (t + 1))) := by rw [← hH3, upd_ne npd, upd_same]
    have e3g : H3 g = some (.lst (gs.map V.int)) := by rw [← hH3, upd_ne npg, upd_ne hgd]; exact hg
    have e3c : H3 c = some (.lst (cs.map V.int)) := by rw [← hH3, upd_ne npc, upd_ne hcd]; exact hc
    have e3p : H3 p = some (.lst primes) := by rw [← hH3, upd_same]
    have keep : ∀ b o, H b = some o → b ≠ d → H3 b = some o := fun b o e n => by
      rw [← hH3, upd_ne (ne_of_none e nph), upd_ne n]
      exact e
    refine ⟨p, rfl, ⟨primes, .inl (.inl upd_same)⟩, ?_⟩
    show ∃ W, _
    rw [show (upd (upd H d (.dK (kvD g c r (t + 1)))) p (.lst [V.int 2147483579, V.int 2147483629, V.int 2147483563])) = H3 from hH3]
    refine for_list (K := K) (a := p) (xs := primes) (fun i σ H' => H3 = H' ∧ ∃ (n : Int) (v3 v4 v5 : Option V), σ = [some (.ref d), some (.int (t + 1)), some (.int n), v3, v4, v5])
      ⟨rfl, 0, none, none, none, rfl⟩ (fun i σ H' _ ⟨e, _⟩ => by subst e; exact .inl (.inl e3p)) ?_ ?_
    · rintro i x σ H' hx ⟨rfl, n, v3, v4, v5, rfl⟩
      obtain ⟨z, rfl, z1, z2⟩ := primes_at hx
      refine ⟨_, rfl, _, _, rfl, rfl, .inl ⟨by decide, by decide⟩, _, rfl, _, _, rfl, rfl, ⟨by decide, by decide⟩, _, _, rfl, rfl, ?_⟩
      -- for cell in state['cells']
      have q0 : 0 ≤ 48271 * (t + 1) + z / 53 ∧ 48271 * (t + 1) + z / 53 < 2 ^ 60 := by
        omega
      refine ⟨_, rfl, d, _, rfl, getD_of e3d "cells" (kvD_cells g c r (t + 1)), c, rfl, ⟨_, .inl (.inl e3c)⟩, ?_⟩
      refine for_list (K := K) (a := c) (xs := cs.map V.int) (fun i σ H' => H3 = H' ∧ ∃ (b : Int) (v5 : Option V), 0 ≤ b ∧ b < 2 ^ 60 ∧ σ = [some (.ref d), some (.int (t + 1)), some (.int n), some (.int z), some (.int b), v5])
        ⟨rfl, _, v5, q0.1, q0.2, rfl⟩ (fun i σ H' _ ⟨e, _⟩ => by subst e; exact .inl (.inl e3c)) ?_ ?_
      · rintro i x σ H' hx ⟨rfl, b, v5, b0, b1, rfl⟩
        obtain ⟨y, hy, rfl⟩ := int_at hx
        refine ⟨_, rfl, _, _, rfl, rfl, .inr ⟨by decide, by decide⟩, _, rfl, _, _, rfl, rfl, _, rfl, _, _, rfl, rfl, .inl ⟨_, rfl, ?_⟩⟩
        refine ⟨_, rfl, _, _, rfl, rfl, by omega, rfl, _, _, ?_, ?_, rfl⟩
        · rw [Int.fmod_eq_emod_of_nonneg _ (by omega)]
          exact Int.emod_nonneg _ (by omega)
        · rw [Int.fmod_eq_emod_of_nonneg _ (by omega)]
          have := Int.emod_lt_of_pos (b * 69621 + y + (t + 1)) (show 0 < z by omega)
          omega
      · rintro σ H' ⟨rfl, b, v5, b0, b1, rfl⟩
        refine ⟨_, rfl, _, _, rfl, rfl, .inr ⟨by decide, by decide⟩, _, rfl, _, _, rfl, rfl, ⟨by decide, by decide, by omega⟩, .inl ⟨_, rfl, _, rfl, _, _, rfl, rfl, by omega, _, _, rfl, rfl, rfl, _, _, _, _, rfl⟩⟩
    · rintro σ H' ⟨rfl, n, v3, v4, v5, rfl⟩
      exact ⟨_, rfl, k _ n ⟨gs, cs, r, t + 1, e3d, e3g, e3c, by omega, by omega, gl, gc⟩ keep⟩

/-! ### _law_draw -/
theorem seqIdx0 (n : Nat) : seqIndex? 0 (n + 1) = some 0 := by
  unfold seqIndex?
  simp
  try omega

def spDraw : Sp := fun vs H Q _ => ∃ (d g c : Addr) (m : Nat) (room : Int), vs = [.ref d, .int room] ∧ DrawSt H d g c m ∧ m ≤ 2 ^ 40 ∧ 0 < room ∧ room < 1073741824 ∧
  ∀ (H' : Hp) (n : Int), 0 ≤ n → n < room → DrawSt H' d g c (m + 1) → (∀ b o, H b = some o → b ≠ d → b ≠ g → H' b = some o) → Q (.int n) H'
theorem dpInts (K : PySem.W.Frag) (H : Hp) : ∀ gs : List Int, DpAll K H (gs.map V.int) (gs.map PyData.int)
  | [] => .nil
  | z :: r => .cons (.int z) (dpInts K H r)
theorem ints_lay : ∀ gs : List Int, PyData.canLayAll0 (gs.map PyData.int) = true
  | [] => by simp only [List.map_nil, PyData.canLayAll0]
  | z :: r => by simp only [List.map_cons, PyData.canLayAll0, PyData.canLay0, ints_lay r, Bool.and_self]
theorem ints_depth : ∀ gs : List Int, PyData.depthAll (gs.map PyData.int) ≤ 1
  | [] => by simp only [List.map_nil, PyData.depthAll]; omega
  | z :: r => by
    have := ints_depth r
    simp only [List.map_cons, PyData.depthAll, PyData.depth]
    omega
theorem shaped_ints (gs : List Int) : SeqAt.shaped (.list (gs.map PyData.int)) = true := by
  unfold SeqAt.shaped
  rw [Bool.and_eq_true]
  refine ⟨?_, decide_eq_true ?_⟩
  · simp only [PyData.canLay0]
    exact ints_lay gs
  · have := ints_depth gs
    simp only [PyData.depth]
    omega
theorem eqv_nil (gs : List Int) : PyData.eqv (.list (gs.map PyData.int)) (.list []) = gs.isEmpty := by
  cases gs with
  | nil => decide +kernel
  | cons z r => simp [PyData.eqv, PyData.eqvAll]
theorem scD : FnScope ["state", "room", "found"] ["state", "room"] (defScope sDraw) := ⟨rfl, rfl, rfl, by decide +kernel, rfl, by decide +kernel, by decide +kernel⟩
theorem ok_draw {f fB : Addr} {fd fdB : FuncData} (F : Fun K "_law_draw" "_law_draw" sDraw f fd) (zint : mg "int" = none) (G : FnOk P w K mg base CX0 1 fB fdB ["state"] spBlended) (mgB : mg "_law_blended" = some (.ref fB)) (kB : PySem.W.keepIn K (.ref fB) = true) (bB : Binds K fdB ["state"] []) :
    FnOk P w K mg base CX0 2 f fd ["state", "room"] spDraw := by
  refine F.ok scD (fun vs H Q E h => ?_) (fun cdv A outer s H vs Q E hr h => ?_)
  · obtain ⟨d, g, c, m, room, rfl, _⟩ := h
    rfl
  · obtain ⟨d, g, c, m, room, rfl, ⟨gs, cs, r, t, hd, hg, hc, t0, tm, gl, gc⟩, hm, r0, r1, k⟩ := h
    have hu := hu_of hr
    refine ⟨_, pss_cons (ps_if (pt_cmpR op_eq (pe_dget hu (pv 0) pe_str (fun _ _ => rfl)) pe_int (nomark _))
        (pss_one (ps_dput hu (pv 0) pe_str (by exact (pe_ifExp (pt_cmpR (op_neD hr.units) (pe_dget hu (pv 0) pe_str (fun _ _ => rfl)) (pe_lst pa_nil) (nomark _))
          (pe_bm PySem.F.plainAttrs_list PySem.F.slot_list_pop PySem.F.type_list_pop mt_popAt (pe_dget hu (pv 0) pe_str (fun _ _ => rfl)) (pa_cons pe_int pa_nil))
          (pe_call G hr rfl mgB kB bB .nil pass0 (pa_cons (pv 0) pa_nil)))) rfl)) pss_nil)
      (pss_cons (ps_set (i := 2) scD.nd rfl (Or.inl rfl) (pe_op op_modN (pe_callTy call_int1 (by rfl) zint (by decide +kernel) (pa_cons (pe_dget hu (pv 0) pe_str (fun _ _ => rfl)) pa_nil)) (pv 1)))
      (pss_cons (ps_dput hu (pv 0) pe_str (pe_op op_fdivN (pe_dget hu (pv 0) pe_str (fun _ _ => rfl)) (pv 1)) rfl)
      (pss_one (ps_ret (pv 2))))), ?_⟩
    have rest : ∀ (H2 : Hp) (cs gs2 : List Int) (r2 t2 : Int), H2 d = some (.dK (kvD g c r2 t2)) → H2 g = some (.lst (gs2.map V.int)) → H2 c = some (.lst (cs.map V.int)) → 0 ≤ t2 → t2 ≤ (m : Int) + 1 → gs2.length ≤ 63 → (∀ b o, H b = some o → b ≠ d → b ≠ g → H2 b = some o) →
        tSeq (tAsg (tOp (rI (fun x j => j ≠ 0) fun i j => V.int (i.fmod j)) (tCB (fun xs H Q => (∃ i, xs = [V.int i] ∧ Q (V.int i) H) ∨ ∃ k, xs = [V.bl k] ∧ Q (V.int (if k = true then 1 else 0)) H) (tCons (tDGet (tVar 0) (tC (V.str "rest"))) tNil)) (tVar 1)) (gName 2))
          (tSeq (sDPut (tVar 0) (tC (V.str "rest")) (tOp (rI CDivN fun i j => V.int (i.fdiv j)) (tDGet (tVar 0) (tC (V.str "rest"))) (tVar 1))) (tRet (tVar 2)))
          { nx := fun x H' => Q V.non H', rt := Q } (L2.start ["state", "room", "found"] [V.ref d, V.int room]) H2 := by
      intro H2 cs gs2 r2 t2 hd2 hg2 hc2 z0 z1 gl2 kp
      have hgd : g ≠ d := ne_of hg2 hd2 (by intro z; cases z)
      have hcd : c ≠ d := ne_of hc2 hd2 (by intro z; cases z)
      refine ⟨_, rfl, d, _, rfl, getD_of hd2 "rest" (kvD_rest g c r2 t2), .inl ⟨_, rfl, _, rfl, _, _, rfl, rfl, by omega, ?_⟩⟩
      refine ⟨_, rfl, d, _, rfl, getD_of hd2 "rest" (kvD_rest g c r2 t2), _, rfl, _, _, rfl, rfl, ⟨by omega, by omega⟩, _, rfl, d, _, rfl, putD_of hd2 "rest" (by show 4 ≤ 1000; decide) (putD_rest g c r2 t2 _), _, rfl, ?_⟩
      show Q (V.int (r2.fmod room)) _
      rw [Int.fmod_eq_emod_of_nonneg _ (by omega)]
      refine k _ _ (Int.emod_nonneg _ (by omega)) (Int.emod_lt_of_pos _ r0) ⟨gs2, cs, _, t2, upd_same, by rw [upd_ne hgd]; exact hg2, by rw [upd_ne hcd]; exact hc2, z0, by omega, gl2, gc⟩ fun b o e n1 n2 => ?_
      rw [upd_ne n1]
      exact kp b o e n1 n2
    refine ⟨_, rfl, d, _, rfl, getD_of hd "rest" (kvD_rest g c r t), rfl, _, rfl, ?_⟩
    refine ite2 (fun _ => ?_) (fun _ => rest H cs gs r t hd hg hc t0 (by omega) gl fun b o e _ _ => e)
    refine ⟨_, rfl, d, _, rfl, getD_of hd "great" (kvD_great g c r t), by show 0 ≤ sizeLine; decide, fun p hp => ?_⟩
    have npd : d ≠ p := ne_of_none hd hp
    have npg : g ≠ p := ne_of_none hg hp
    have npc : c ≠ p := ne_of_none hc hp
    have hgd : g ≠ d := ne_of hg hd (by intro z; cases z)
    have hcd : c ≠ d := ne_of hc hd (by intro z; cases z)
    have e1d : (upd H p (.lst [])) d = some (.dK (kvD g c r t)) := by rw [upd_ne npd]; exact hd
    have e1g : (upd H p (.lst [])) g = some (.lst (gs.map V.int)) := by rw [upd_ne npg]; exact hg
    have e1c : (upd H p (.lst [])) c = some (.lst (cs.map V.int)) := by rw [upd_ne npc]; exact hc
    refine ⟨.list (gs.map PyData.int), .list [], .lst (.inl (.inl e1g)) (dpInts K _ gs), .lst (.inl (.inl upd_same)) .nil, shaped_ints gs, by decide +kernel, _, rfl, ?_⟩
    rw [eqv_nil]
    cases gs with
    | cons z r' =>
      refine iteT ?_
      refine ⟨_, rfl, d, _, rfl, getD_of e1d "great" (kvD_great g c r t), .inl ⟨rfl, _, SqL.of e1g⟩, g, _, 0, 0, .int z, rfl, rfl, e1g, by decide, by decide, (by rw [List.map_cons, List.length_cons]; exact seqIdx0 _), rfl, ?_⟩
      have e2d : (upd (upd H p (.lst [])) g (.lst ((List.map V.int (z :: r')).eraseIdx 0))) d = some (.dK (kvD g c r t)) := by rw [upd_ne hgd.symm]; exact e1d
      refine ⟨_, rfl, d, _, rfl, putD_of e2d "rest" (by show 4 ≤ 1000; decide) (putD_rest g c r t z), ?_⟩
      refine rest _ cs r' z t upd_same ?_ ?_ t0 (by omega) ?_ fun b o e n1 n2 => ?_
      · rw [upd_ne hgd, upd_same]
        all_goals rfl
      · rw [upd_ne hcd, upd_ne gc.symm]
        exact e1c
      · have q : r'.length + 1 ≤ 63 := gl
        omega
      · rw [upd_ne n1, upd_ne n2, upd_ne (ne_of_none e hp)]
        exact e
    | nil =>
      refine iteF ?_
      refine ⟨_, rfl, d, g, c, m, rfl, ⟨[], cs, r, t, e1d, e1g, e1c, t0, tm, gl, gc⟩, hm, ?_⟩
      rintro H2 n ⟨gs2, cs2, r2, t2, hd2, hg2, hc2, z0, z1, gl2, _⟩ kp
      refine ⟨_, rfl, d, _, rfl, putD_of hd2 "rest" (by show 4 ≤ 1000; decide) (putD_rest g c r2 t2 n), ?_⟩
      refine rest _ cs2 gs2 n t2 upd_same ?_ ?_ z0 (by omega) gl2 fun b o e n1 n2 => ?_
      · rw [upd_ne hgd]
        exact hg2
      · rw [upd_ne hcd]
        exact hc2
      · rw [upd_ne n1]
        exact kp b o (by rw [upd_ne (ne_of_none e hp)]; exact e) n1

/-! ### _law_pick -/
def spPick (K : PySem.W.Frag) : Sp := fun vs H Q _ => ∃ (d g c l : Addr) (m : Nat) (xs : List V), vs = [.ref d, .ref l] ∧ DrawSt H d g c m ∧ m ≤ 2 ^ 40 ∧ H l = some (.lst xs) ∧ l ≠ g ∧ xs ≠ [] ∧ xs.length < 1073741824 ∧
  ∀ (H' : Hp) (n : Nat) (v : V), xs[n]? = some v → DrawSt H' d g c (m + 1) → (∀ b o, H b = some o → b ≠ d → b ≠ g → H' b = some o) → Q v H'
theorem scP : FnScope ["state", "some"] ["state", "some"] (defScope sPick) := ⟨rfl, rfl, rfl, by decide +kernel, rfl, by decide +kernel, by decide +kernel⟩
theorem ok_pick {f fB : Addr} {fd fdB : FuncData} (F : Fun K "_law_pick" "_law_pick" sPick f fd) (zlen : mg "len" = none) (G : FnOk P w K mg base CX0 2 fB fdB ["state", "room"] spDraw) (mgB : mg "_law_draw" = some (.ref fB)) (kB : PySem.W.keepIn K (.ref fB) = true) (bB : Binds K fdB ["state", "room"] []) :
    FnOk P w K mg base CX0 3 f fd ["state", "some"] (spPick K) := by
  refine F.ok scP (fun vs H Q E h => ?_) (fun cdv A outer s H vs Q E hr h => ?_)
  · obtain ⟨d, g, c, l, m, xs, rfl, _⟩ := h
    rfl
  · obtain ⟨d, g, c, l, m, xs, rfl, D, hm, hl, hlg, hne, hsz, k⟩ := h
    have hld : l ≠ d := by
      obtain ⟨_, _, _, _, hd, _⟩ := D
      exact ne_of hl hd (by intro z; cases z)
    refine ⟨_, pss_one (ps_ret (pe_ix ix_list (pv 1) (by exact (pe_call G hr rfl mgB kB bB .nil pass0 (pa_cons (pv 0) (pa_cons (pe_callB call_len (by rfl) zlen (by decide +kernel) (pa_cons (pv 1) pa_nil)) pa_nil)))) (fun _ _ => rfl))), ?_⟩
    have hlen : 0 < xs.length := List.length_pos_iff.mpr hne
    refine ⟨_, rfl, _, rfl, _, rfl, _, xs.length, rfl, .inl ⟨xs, SqL.of hl, rfl⟩, d, g, c, m, _, rfl, D, hm, by omega, by omega, ?_⟩
    intro H' n n0 n1 D' kp
    have hn : n.toNat < xs.length := by omega
    have el : xs[n.toNat]? = some xs[n.toNat] := List.getElem?_eq_getElem hn
    exact ⟨l, xs, n, xs[n.toNat], rfl, rfl, SqL.of (kp l _ hl hld hlg), at_of (by omega) el, k H' _ _ el D' kp⟩
end
/-! ### what draws leave as it was -/
def Dr (d g : Addr) (H H' : Hp) : Prop := ∀ b o, H b = some o → b ≠ d → b ≠ g → H' b = some o
theorem Dr.refl (d g : Addr) (H : Hp) : Dr d g H H := fun _ _ h _ _ => h
theorem Dr.of {d g : Addr} {H H' : Hp} (e : Same H H') : Dr d g H H' := fun b o h _ _ => e b o h
theorem Dr.trans {d g : Addr} {H H1 H2 : Hp} (a : Dr d g H H1) (b : Dr d g H1 H2) : Dr d g H H2 := fun c o h n1 n2 => b c o (a c o h n1 n2) n1 n2
theorem Dr.tups {d g c : Addr} {m : Nat} {H H' : Hp} (a : Dr d g H H') (h : DrawSt H d g c m) : SameT H H' := fun b ys hb => by
  obtain ⟨gs, cs, r, t, h1, h2, h3, _⟩ := h
  have n1 : b ≠ d := by
    rintro rfl
    rcases hb with hb | ⟨o, hb⟩ <;> rw [h1] at hb <;> cases hb
  have n2 : b ≠ g := by
    rintro rfl
    rcases hb with hb | ⟨o, hb⟩ <;> rw [h2] at hb <;> cases hb
  rcases hb with hb | ⟨o, hb⟩
  · exact .inl (a _ _ hb n1 n2)
  · exact .inr ⟨o, a _ _ hb n1 n2⟩
/-! ### _law_hd_size -/
theorem iteBT {b : Bool} {P Q : Prop} (h : b = true) (p : P) : if b = true then P else Q := by rw [if_pos h]; exact p
theorem iteBF {b : Bool} {P Q : Prop} (h : b = false) (q : Q) : if b = true then P else Q := by rw [h]; exact q
abbrev s_hd_size : Stmt := top 24
def spSize (K : PySem.W.Frag) : Nat → Sp
  | 0 => fun _ _ _ _ => False
  | n + 1 => fun vs H Q _ => ∃ (v : V) (k : Kd), vs = [v] ∧ KdAt K H v k ∧ k.deep ≤ n + 1 ∧ Q (intV k.ends) H
theorem str_ne : (V.str "to" : V) ≠ .str "text" := fun e => absurd (V.str.inj e) (by decide +kernel)
theorem str_ne' : (V.str "text" : V) ≠ .str "to" := fun e => absurd (V.str.inj e) (by decide +kernel)
section
variable {P : Program} {w : World} {K : PySem.W.Frag} {mg : Str → Option Value} {base : Heap} {tA BK BE HE : Addr}
theorem sc_hd_size : FnScope ["kind"] ["kind"] (defScope s_hd_size) := ⟨rfl, rfl, rfl, by decide +kernel, rfl, by decide +kernel, by decide +kernel⟩
theorem ok_hd_size {f : Addr} {fd : FuncData} (F : Fun K "_law_hd_size" "_law_hd_size" s_hd_size f fd) (gA : mg "_law_hd_size" = some (.ref f)) (kA : PySem.W.keepIn K (.ref f) = true) (bA : Binds K fd ["kind"] []) :
    ∀ n : Nat, FnOk P w K mg base CX0 n f fd ["kind"] (spSize K n) := by
  intro n
  induction n with
  | zero => exact ⟨fun _ _ _ _ h => h.elim, fun _ _ _ _ _ _ _ _ _ _ _ _ _ h => h.elim⟩
  | succ n G =>
    refine F.ok sc_hd_size (fun vs H Q E h => ?_) (fun cdv A outer s0 H vs Q E hr h => ?_)
    · obtain ⟨v, k, rfl, _⟩ := h
      rfl
    · obtain ⟨v, k, rfl, hk, hdp, q⟩ := h
      refine ⟨_, pss_one (ps_ret (by exact (pe_ifExp (pt_cmpR op_eq (by exact (pe_ix ix_tup (pv 0) pe_int (fun _ _ => rfl))) pe_str (nomark _)) pe_int
        (pe_op op_add (by exact (pe_call G hr rfl gA kA bA .nil pass0 (pa_cons (pe_ix ix_tup (pv 0) pe_int (fun _ _ => rfl)) pa_nil))) (by exact (pe_call G hr rfl gA kA bA .nil pass0 (pa_cons (pe_ix ix_tup (pv 0) pe_int (fun _ _ => rfl)) pa_nil))))))), ?_⟩
      cases k with
      | text =>
        obtain ⟨p, rfl, hp⟩ := hk
        refine ⟨_, rfl, p, _, _, _, rfl, rfl, hp, atI_nat (j := 0) rfl, ?_⟩
        exact ⟨rfl, _, rfl, iteBT (decide_eq_true rfl) q⟩
      | to a b =>
        obtain ⟨p, x, y, rfl, hp, ha, hb⟩ := hk
        have hd2 : 1 + max a.deep b.deep ≤ n + 1 := hdp
        cases n with
        | zero =>
          have h1 : 1 ≤ a.deep := by cases a <;> simp only [Kd.deep] <;> omega
          omega
        | succ n =>
          refine ⟨_, rfl, p, _, _, _, rfl, rfl, hp, atI_nat (j := 0) rfl, ?_⟩
          refine ⟨rfl, _, rfl, iteBF (decide_eq_false str_ne) ?_⟩
          refine ⟨_, rfl, p, _, _, x, rfl, rfl, hp, atI_nat (j := 1) rfl, ?_⟩
          refine ⟨x, a, rfl, ha, by omega, ?_⟩
          refine ⟨_, rfl, p, _, _, y, rfl, rfl, hp, atI_nat (j := 2) rfl, ?_⟩
          refine ⟨y, b, rfl, hb, by omega, ?_⟩
          refine ⟨_, _, rfl, rfl, ?_⟩
          have e : V.int ((a.ends : Int) + (b.ends : Int)) = intV (Kd.to a b).ends := rfl
          show Q (V.int ((a.ends : Int) + (b.ends : Int))) H
          rw [e]
          exact q
end
/-! ### _law_hd_wanted -/
abbrev s_hd_wanted : Stmt := top 25
def args : Kd → List Kd
  | .text => []
  | .to a r => a :: args r
theorem args_len : ∀ k : Kd, (args k).length < k.ends
  | .text => Nat.lt_succ_self 0
  | .to a r => by
    have h1 := args_len r
    have h2 := a.ends_pos
    show (args r).length + 1 < a.ends + r.ends
    omega
def KdsAt (K : PySem.W.Frag) (H : Hp) : List V → List Kd → Prop := Paired (KdAt K H)
theorem KdsAt.same {K : PySem.W.Frag} {H H' : Hp} (e : SameT H H') : ∀ {vs : List V} {ks : List Kd}, KdsAt K H vs ks → KdsAt K H' vs ks
  | _, _, .nil => .nil
  | _, _, .cons h t => .cons (h.same e) (KdsAt.same e t)
theorem KdsAt.snoc {K : PySem.W.Frag} {H : Hp} {v : V} {k : Kd} (h : KdAt K H v k) : ∀ {vs : List V} {ks : List Kd}, KdsAt K H vs ks → KdsAt K H (vs ++ [v]) (ks ++ [k])
  | _, _, .nil => .cons h .nil
  | _, _, .cons a t => .cons a (KdsAt.snoc h t)
theorem KdsAt.len {K : PySem.W.Frag} {H : Hp} {vs : List V} {ks : List Kd} (h : KdsAt K H vs ks) : vs.length = ks.length := Paired.length h
theorem KdsAt.get {K : PySem.W.Frag} {H : Hp} : ∀ {vs : List V} {ks : List Kd} {i : Nat} {x : V}, KdsAt K H vs ks → vs[i]? = some x → ∃ k, ks[i]? = some k ∧ KdAt K H x k
  | _, _, i, x, .nil, h => by simp at h
  | _, _, 0, x, .cons a _, h => by
    cases h
    exact ⟨_, rfl, a⟩
  | _, _, i + 1, x, .cons _ t, h => by
    obtain ⟨k, e, q⟩ := KdsAt.get (i := i) t (by simpa using h)
    exact ⟨k, by simpa using e, q⟩
def spWanted (K : PySem.W.Frag) : Sp := fun vs H Q _ => ∃ (v : V) (k : Kd), vs = [v] ∧ KdAt K H v k ∧ k.ends ≤ 60 ∧ ∀ (H' : Hp) (l : Addr) (ws : List V), Same H H' → H l = none → H' l = some (.lst ws) → KdsAt K H' ws (args k) → Q (.ref l) H'
def WWan (K : PySem.W.Frag) (H : Hp) (k : Kd) (q : Addr) (m : Nat) (σ : St) (H' : Hp) : Prop := ∃ (r : Kd) (wr : V) (ws : List V) (ks : List Kd), σ = [some wr, some (.ref q)] ∧ KdAt K H' wr r ∧ H' q = some (.lst ws) ∧ KdsAt K H' ws ks ∧ ks ++ args r = args k ∧ Same H H' ∧ m = r.ends
section
variable {P : Program} {w : World} {K : PySem.W.Frag} {mg : Str → Option Value} {base : Heap} {tA BK BE HE : Addr}
theorem sc_hd_wanted : FnScope ["kind", "found"] ["kind"] (defScope s_hd_wanted) := ⟨rfl, rfl, rfl, by decide +kernel, rfl, by decide +kernel, by decide +kernel⟩
theorem ok_hd_wanted {f : Addr} {fd : FuncData} (F : Fun K "_law_hd_wanted" "_law_hd_wanted" s_hd_wanted f fd) : FnOk P w K mg base CX0 1 f fd ["kind"] (spWanted K) := by
  refine F.ok sc_hd_wanted (fun vs H Q E h => ?_) (fun cdv A outer s0 H vs Q E hr h => ?_)
  · obtain ⟨v, k, rfl, _⟩ := h
    rfl
  · obtain ⟨v, k, rfl, hk, h60, cont⟩ := h
    refine ⟨_, pss_cons (ps_set (i := 1) sc_hd_wanted.nd rfl (Or.inl rfl) (pe_lst pa_nil))
      (pss_cons (ps_while PassesOwn.never (pt_cmpR op_eq (by exact (pe_ix ix_tup (pv 0) pe_int (fun _ _ => rfl))) pe_str (nomark _))
        (pss_cons (ps_expr (pe_bm PySem.F.plainAttrs_list PySem.F.slot_list_append PySem.F.type_list_append mt_append (pv 1) (pa_cons (pe_ix ix_tup (pv 0) pe_int (fun _ _ => rfl)) pa_nil)))
        (pss_one (ps_set (i := 0) sc_hd_wanted.nd rfl (Or.inl rfl) (pe_ix ix_tup (pv 0) pe_int (fun _ _ => rfl))))))
      (pss_one (ps_ret (pv 1)))), ?_⟩
    refine ⟨Nat.zero_le _, fun q hq => ?_⟩
    refine ⟨WWan K H k q, ⟨_, k, v, [], [], rfl, hk.same (SameT.of (same_new hq)), upd_same, .nil, rfl, same_new hq, rfl⟩, ?_⟩
    rintro m σ H' ⟨r, wr, ws, ks, rfl, hr1, hfq, hks, ei, S, rfl⟩
    cases r with
    | text =>
      obtain ⟨p, rfl, hp⟩ := hr1
      refine ⟨_, rfl, p, _, _, _, rfl, rfl, hp, atI_nat (j := 0) rfl, ?_⟩
      refine ⟨rfl, _, rfl, iteBF (decide_eq_false str_ne') ?_⟩
      refine ⟨_, rfl, cont H' q ws S hq hfq ?_⟩
      rw [← ei, args, List.append_nil]
      exact hks
    | to a b =>
      obtain ⟨p, x, y, rfl, hp, ha, hb⟩ := hr1
      refine ⟨_, rfl, p, _, _, _, rfl, rfl, hp, atI_nat (j := 0) rfl, ?_⟩
      refine ⟨rfl, _, rfl, iteBT (decide_eq_true rfl) ⟨fun σ' H'' => ∃ m', m' < (Kd.to a b).ends ∧ WWan K H k q m' σ' H'', fun _ _ h => h, ?_⟩⟩
      have T2 : SameT H' (upd H' q (.lst (ws ++ [x]))) := (but_upd (l := q)).tups hfq
      have pe := a.ends_pos
      have hl1 : ws.length < k.ends := by
        have h1 := args_len k
        rw [← ei, List.length_append] at h1
        rw [hks.len]
        omega
      refine ⟨_, rfl, .inl ⟨rfl, _, SqL.of hfq⟩, _, rfl, p, _, _, x, rfl, rfl, hp, atI_nat (j := 1) rfl, q, _, _, rfl, rfl, hfq, small1000 (by omega), ?_⟩
      refine ⟨_, rfl, p, _, _, y, rfl, rfl, sameT_sq T2 hp, atI_nat (j := 2) rfl, b.ends, by show b.ends < a.ends + b.ends; omega, b, y, ws ++ [x], ks ++ [a], rfl, hb.same T2, upd_same, (hks.snoc ha).same T2, ?_, ?_, rfl⟩
      · rw [← ei, List.append_assoc]
        rfl
      · intro b' o e
        rw [upd_ne (ne_of_none e hq)]
        exact S _ _ e
end
/-! ### _law_hd_signs -/
abbrev s_hd_signs : Stmt := top 26
def sgs : Kd → List Bool
  | .text => [true]
  | .to a b => (sgs a).map (!·) ++ sgs b
theorem sgs_len : ∀ k : Kd, (sgs k).length = k.ends
  | .text => rfl
  | .to a b => by
    rw [sgs, List.length_append, List.length_map, sgs_len a, sgs_len b]
    rfl
theorem not_nots : ∀ l : List Bool, (l.map (!·)).map (!·) = l
  | [] => rfl
  | b :: r => by
    rw [List.map_cons, List.map_cons, not_nots r]
    cases b <;> rfl
theorem sgs_rows : ∀ (k : Kd) (s : Bool) (b : Nat), (rowsOf k s b).map (·.1) = if s = true then sgs k else (sgs k).map (!·)
  | .text, s, b => by cases s <;> rfl
  | .to a r, s, b => by
    have h1 := sgs_rows a (!s) b
    have h2 := sgs_rows r s (b + a.ends)
    have e : (rowsOf (.to a r) s b).map (·.1) = (rowsOf a (!s) b).map (·.1) ++ (rowsOf r s (b + a.ends)).map (·.1) := by
      simp only [rowsOf, inner, List.map_append, List.map_cons, List.map_nil, List.append_assoc, List.cons_append, List.nil_append]
    rw [e, h1, h2]
    cases s with
    | true => rfl
    | false =>
      show sgs a ++ (sgs r).map (!·) = ((sgs a).map (!·) ++ sgs r).map (!·)
      rw [List.map_append, not_nots]
def spSigns (K : PySem.W.Frag) : Nat → Sp
  | 0 => fun _ _ _ _ => False
  | n + 1 => fun vs H Q _ => ∃ (v : V) (k : Kd), vs = [v] ∧ KdAt K H v k ∧ k.deep ≤ n + 1 ∧ k.ends ≤ 60 ∧ ∀ (H' : Hp) (l : Addr), Same H H' → H l = none → H' l = some (.lst ((sgs k).map V.bl)) → Q (.ref l) H'
section
variable {P : Program} {w : World} {K : PySem.W.Frag} {mg : Str → Option Value} {base : Heap} {tA BK BE HE : Addr}
theorem sc_hd_signs : FnScope ["kind", "one"] ["kind"] (defScope s_hd_signs) := ⟨rfl, rfl, rfl, by decide +kernel, rfl, by decide +kernel, by decide +kernel⟩
theorem ok_hd_signs {f : Addr} {fd : FuncData} (F : Fun K "_law_hd_signs" "_law_hd_signs" s_hd_signs f fd) (gA : mg "_law_hd_signs" = some (.ref f)) (kA : PySem.W.keepIn K (.ref f) = true) (bA : Binds K fd ["kind"] []) :
    ∀ n : Nat, FnOk P w K mg base CX0 n f fd ["kind"] (spSigns K n) := by
  intro n
  induction n with
  | zero => exact ⟨fun _ _ _ _ h => h.elim, fun _ _ _ _ _ _ _ _ _ _ _ _ _ h => h.elim⟩
  | succ n G =>
    refine F.ok sc_hd_signs (fun vs H Q E h => ?_) (fun cdv A outer s0 H vs Q E hr h => ?_)
    · obtain ⟨v, k, rfl, _⟩ := h
      rfl
    · obtain ⟨v, k, rfl, hk, hdp, h60, q⟩ := h
      refine ⟨_, pss_cons (ps_if (pt_cmpR op_eq (by exact (pe_ix ix_tup (pv 0) pe_int (fun _ _ => rfl))) pe_str (nomark _)) (pss_one (ps_ret (pe_lst (pa_cons pe_bl pa_nil)))) pss_nil)
        (pss_one (ps_ret (by exact (pe_op op_cat (by exact (pe_lc (own := [("one", 1)]) (g := gName 1) (te := tNotV (tVar 1)) rfl sc_hd_signs.nd (pi_list (pe_call G hr rfl gA kA bA .nil pass0 (pa_cons (pe_ix ix_tup (pv 0) pe_int (fun _ _ => rfl)) pa_nil)))
          (blkOk_by (own := [("one", 1)]) (N := ["kind", "one"]) (sc := defScope s_hd_signs) (by decide +kernel)) (fun _ _ _ _ _ => pg_name (i := 1) sc_hd_signs.nd rfl (Or.inl rfl)) (fun _ _ _ _ _ => pts_nil) (fun _ _ _ _ _ => by exact pe_not (pv 1))))
          (by exact (pe_call G hr rfl gA kA bA .nil pass0 (pa_cons (pe_ix ix_tup (pv 0) pe_int (fun _ _ => rfl)) pa_nil))))))), ?_⟩
      cases k with
      | text =>
        obtain ⟨p, rfl, hp⟩ := hk
        refine ⟨_, rfl, p, _, _, _, rfl, rfl, hp, atI_nat (j := 0) rfl, ?_⟩
        refine ⟨rfl, _, rfl, iteBT (decide_eq_true rfl) ?_⟩
        exact ⟨by show 1 ≤ sizeLine; decide, fun l hl => q _ l (same_new hl) hl upd_same⟩
      | to a b =>
        obtain ⟨p, x, y, rfl, hp, ha, hb⟩ := hk
        have hd2 : 1 + max a.deep b.deep ≤ n + 1 := hdp
        have he2 : a.ends + b.ends ≤ 60 := h60
        cases n with
        | zero =>
          have h1 : 1 ≤ a.deep := by cases a <;> simp only [Kd.deep] <;> omega
          omega
        | succ n =>
          refine ⟨_, rfl, p, _, _, _, rfl, rfl, hp, atI_nat (j := 0) rfl, ?_⟩
          refine ⟨rfl, _, rfl, iteBF (decide_eq_false str_ne) ?_⟩
          refine ⟨_, rfl, p, _, _, x, rfl, rfl, hp, atI_nat (j := 1) rfl, ?_⟩
          refine ⟨x, a, rfl, ha, by omega, by omega, fun H1 l1 S1 n1 hl1 => ?_⟩
          refine ⟨l1, rfl, ⟨_, SqL.of hl1⟩, fun D hD => ?_⟩
          have nlD : l1 ≠ D := ne_of_none hl1 hD
          refine lc_list (K := K) (a := l1) (xs := (sgs a).map V.bl) (fun i H' => H' = upd H1 D (.lst (((sgs a).take i).map fun r => V.bl (!r)))) rfl (fun i H' _ e => by subst e; exact (same_new hD).seq (SqL.of hl1)) ?_ ?_
          · rintro i z H' hx rfl
            rw [List.getElem?_map] at hx
            obtain ⟨r, hri, rfl⟩ := Option.map_eq_some_iff.mp hx
            refine ⟨rfl, ?_⟩
            dsimp only [tYes]
            refine iteT ?_
            refine ⟨_, rfl, _, rfl, _, upd_same, ?_, ?_⟩
            · have hi := (List.getElem?_eq_some_iff.mp hri).1
              rw [sgs_len] at hi
              rw [List.length_map, List.length_take]
              exact small1000 (by omega)
            · rw [upd_upd, take_snoc _ hri]
          · rintro H' rfl
            have hl : ((sgs a).map V.bl).length = (sgs a).length := List.length_map _
            have S2 : Same H1 (upd H1 D (.lst (((sgs a).take ((sgs a).map V.bl).length).map fun r => V.bl (!r)))) := same_new hD
            refine ⟨_, rfl, p, _, _, y, rfl, rfl, seqT_same (S1.trans S2) hp, atI_nat (j := 2) rfl, ?_⟩
            refine ⟨y, b, rfl, (hb.same (SameT.of (S1.trans S2))), by omega, by omega, fun H3 l3 S3 n3 hl3 => ?_⟩
            refine ⟨D, l3, _, _, rfl, rfl, S3 _ _ upd_same, hl3, ?_, fun z hz => ?_⟩
            · simp only [List.length_map, List.length_take, sgs_len]
              exact Nat.le_of_lt (small1000 (by omega))
            · refine q _ z (S1.trans (S2.trans (S3.trans (same_new hz)))) (none_of_same (S1.trans (S2.trans S3)) hz) ?_
              rw [upd_same, hl, List.take_length, sgs, List.map_append, List.map_map]
              rfl
end
/-! ### _law_hd_parts -/
abbrev s_hd_parts : Stmt := top 27
/-- the parts of all ends of k, its first end b; of all but its result -/
def ipl : Kd → Nat → List (List Nat)
  | .text, _ => []
  | .to a r, b => ipl a b ++ partsFrom a b :: ipl r (b + a.ends)
def pl (k : Kd) (b : Nat) : List (List Nat) := ipl k b ++ [partsFrom k b]
theorem ipl_rows : ∀ (k : Kd) (s : Bool) (b : Nat), (inner k s b).map (·.2.1) = ipl k b
  | .text, _, _ => rfl
  | .to a r, s, b => by
    rw [inner, List.map_append, List.map_cons, ipl_rows a (!s) b, ipl_rows r s (b + a.ends)]
    rfl
theorem pl_rows (k : Kd) (s : Bool) (b : Nat) : (rowsOf k s b).map (·.2.1) = pl k b := by
  rw [rowsOf, List.map_append, ipl_rows]
  rfl
theorem pl_len (k : Kd) (b : Nat) : (pl k b).length = k.ends := by
  rw [← pl_rows k true b, List.length_map, rowsOf_len]
def ToldAt (K : PySem.W.Frag) (H : Hp) (N : Addr → Prop) (t : Addr) (fs : List Nat) : Prop := ∃ l w, SqT K H t [.ref l, w] ∧ H l = some (.lst (fs.map intV)) ∧ N l
def Told (K : PySem.W.Frag) (H : Hp) (N : Addr → Prop) : List Addr → List (List Nat) → Prop := Paired (ToldAt K H N)
theorem but_tupsD {l : Addr} {H H' : Hp} {kvs : List (Key × V)} (a : But l H H') (h : H l = some (.dK kvs)) : SameT H H' := fun b ys hb => by
  have n : b ≠ l := by
    rintro rfl
    rcases hb with hb | ⟨o, hb⟩ <;> rw [h] at hb <;> cases hb
  rcases hb with hb | ⟨o, hb⟩
  · exact .inl (a _ _ hb n)
  · exact .inr ⟨o, a _ _ hb n⟩
theorem Told.keep {K : PySem.W.Frag} {N : Addr → Prop} {D : Addr} {H H' : Hp} {kvs : List (Key × V)} (a : But D H H') (h : H D = some (.dK kvs)) : ∀ {ts : List Addr} {ls : List (List Nat)}, Told K H N ts ls → Told K H' N ts ls
  | _, _, .nil => .nil
  | _, _, .cons ⟨l, w, h1, h2, h3⟩ t => .cons ⟨l, w, sameT_sq (but_tupsD a h) h1, a _ _ h2 (by rintro rfl; rw [h] at h2; cases h2), h3⟩ (Told.keep a h t)
theorem Told.keepL {K : PySem.W.Frag} {N : Addr → Prop} {L : Addr} {H H' : Hp} {xs : List V} (a : But L H H') (h : H L = some (.lst xs)) (n : ¬ N L) : ∀ {ts : List Addr} {ls : List (List Nat)}, Told K H N ts ls → Told K H' N ts ls
  | _, _, .nil => .nil
  | _, _, .cons ⟨l, w, h1, h2, h3⟩ t => .cons ⟨l, w, sameT_sq (a.tups h) h1, a _ _ h2 (by rintro rfl; exact n h3), h3⟩ (Told.keepL a h n t)
theorem Told.mono {K : PySem.W.Frag} {N N' : Addr → Prop} {H : Hp} (m : ∀ l, N l → N' l) : ∀ {ts : List Addr} {ls : List (List Nat)}, Told K H N ts ls → Told K H N' ts ls
  | _, _, .nil => .nil
  | _, _, .cons ⟨l, w, h1, h2, h3⟩ t => .cons ⟨l, w, h1, h2, m l h3⟩ (Told.mono m t)
theorem Told.app {K : PySem.W.Frag} {N : Addr → Prop} {H : Hp} : ∀ {ts us : List Addr} {ls ms : List (List Nat)}, Told K H N ts ls → Told K H N us ms → Told K H N (ts ++ us) (ls ++ ms)
  | _, _, _, _, .nil, h => h
  | _, _, _, _, .cons a t, h => .cons a (Told.app t h)
theorem Told.len {K : PySem.W.Frag} {N : Addr → Prop} {H : Hp} {ts : List Addr} {ls : List (List Nat)} (h : Told K H N ts ls) : ts.length = ls.length := Paired.length h
/-- what is left of k behind i arguments -/
def rest : Kd → Nat → Kd
  | k, 0 => k
  | .text, _ + 1 => .text
  | .to _ r, i + 1 => rest r i
theorem rest_at : ∀ (k : Kd) (i : Nat) (a : Kd), (args k)[i]? = some a → rest k i = .to a (rest k (i + 1))
  | .text, i, a, h => by simp [args] at h
  | .to c r, 0, a, h => by
    cases h
    cases r <;> rfl
  | .to c r, i + 1, a, h => rest_at r i a (by simpa [args] using h)
theorem rest_end : ∀ k : Kd, rest k (args k).length = .text
  | .text => rfl
  | .to c r => rest_end r
theorem rest_deep : ∀ (k : Kd) (i : Nat), (rest k i).deep ≤ k.deep
  | k, 0 => by cases k <;> exact Nat.le_refl _
  | .text, _ + 1 => Nat.le_refl _
  | .to a r, i + 1 => by
    have := rest_deep r i
    simp only [rest, Kd.deep]
    omega
theorem rest_zero (k : Kd) : rest k 0 = k := by cases k <;> rfl
theorem dr_tups {D L : Addr} {H H' : Hp} {kvs : List (Key × V)} {xs : List V} (a : ∀ b o, H b = some o → b ≠ D → b ≠ L → H' b = some o) (h1 : H D = some (.dK kvs)) (h2 : H L = some (.lst xs)) : SameT H H' := fun b ys hb => by
  have n1 : b ≠ D := by
    rintro rfl
    rcases hb with hb | ⟨o, hb⟩ <;> rw [h1] at hb <;> cases hb
  have n2 : b ≠ L := by
    rintro rfl
    rcases hb with hb | ⟨o, hb⟩ <;> rw [h2] at hb <;> cases hb
  rcases hb with hb | ⟨o, hb⟩
  · exact .inl (a _ _ hb n1 n2)
  · exact .inr ⟨o, a _ _ hb n1 n2⟩
def spHParts (K : PySem.W.Frag) : Nat → Sp
  | 0 => fun _ _ _ _ => False
  | n + 1 => fun vs H Q _ => ∃ (v : V) (k : Kd) (D : Addr) (ts0 : List Addr), vs = [v, intV ts0.length, .ref D] ∧ KdAt K H v k ∧ k.deep ≤ n + 1 ∧ ts0.length + k.ends ≤ 60 ∧ H D = some (.dK (pairsFrom 0 ts0)) ∧
    ∀ (H' : Hp) (ts : List Addr), But D H H' → H' D = some (.dK (pairsFrom 0 (ts0 ++ ts))) → Told K H' (fun l => H l = none) ts (pl k ts0.length) → Q (.ref D) H'
section
variable {P : Program} {w : World} {K : PySem.W.Frag} {mg : Str → Option Value} {base : Heap} {tA BK BE HE : Addr}
theorem sc_hd_parts : FnScope ["kind", "first", "found", "here", "results", "one"] ["kind", "first", "found"] (defScope s_hd_parts) := ⟨rfl, rfl, rfl, by decide +kernel, rfl, by decide +kernel, by decide +kernel⟩
theorem ok_hd_parts {f f1 f2 : Addr} {fd fd1 fd2 : FuncData} (F : Fun K "_law_hd_parts" "_law_hd_parts" s_hd_parts f fd) (gA : mg "_law_hd_parts" = some (.ref f)) (kA : PySem.W.keepIn K (.ref f) = true) (bA : Binds K fd ["kind", "first", "found"] [])
    (G1 : FnOk P w K mg base CX0 1 f1 fd1 ["kind"] (spWanted K)) (g1 : mg "_law_hd_wanted" = some (.ref f1)) (k1 : PySem.W.keepIn K (.ref f1) = true) (b1 : Binds K fd1 ["kind"] [])
    (G2 : ∀ n, FnOk P w K mg base CX0 n f2 fd2 ["kind"] (spSize K n)) (g2 : mg "_law_hd_size" = some (.ref f2)) (k2 : PySem.W.keepIn K (.ref f2) = true) (b2 : Binds K fd2 ["kind"] []) :
    ∀ n : Nat, FnOk P w K mg base CX0 (n + 1) f fd ["kind", "first", "found"] (spHParts K n) := by
  intro n
  induction n with
  | zero => exact ⟨fun _ _ _ _ h => h.elim, fun _ _ _ _ _ _ _ _ _ _ _ _ _ h => h.elim⟩
  | succ n G =>
    refine F.ok sc_hd_parts (fun vs H Q E h => ?_) (fun cdv A outer s0 H vs Q E hr h => ?_)
    · obtain ⟨v, k, D, ts0, rfl, _⟩ := h
      rfl
    · obtain ⟨v, k, D, ts0, rfl, hk, hdp, h60, hD, cont⟩ := h
      have hu := hu_of hr
      have hr1 : Room 1 _ := hr.mono (by omega)
      refine ⟨_, pss_cons (ps_par (i := 3) (j := 4) rfl sc_hd_parts.nd rfl rfl (by decide) rfl rfl (pa_cons (pv 1) (pa_cons (pe_lst pa_nil) pa_nil)) (by rfl))
        (pss_cons (ps_for PassesOwn.never rfl (pi_list (by exact (pe_call G1 hr1 rfl g1 k1 b1 .nil pass0 (pa_cons (pv 0) pa_nil)))) (pg_name (i := 5) sc_hd_parts.nd rfl (Or.inl rfl))
          (pss_cons (ps_expr (by exact (pe_call G hr rfl gA kA bA .nil pass0 (pa_cons (pv 5) (pa_cons (pv 3) (pa_cons (pv 2) pa_nil))))))
          (pss_cons (ps_set (i := 3) sc_hd_parts.nd rfl (Or.inl rfl) (pe_op op_add (pv 3) (by exact (pe_call (G2 (n + 1)) hr rfl g2 k2 b2 .nil pass0 (pa_cons (pv 5) pa_nil)))))
          (pss_one (ps_expr (pe_bm PySem.F.plainAttrs_list PySem.F.slot_list_append PySem.F.type_list_append mt_append (pv 4) (pa_cons (pe_op op_sub (pv 3) pe_int) pa_nil)))))))
        (pss_cons (ps_dput hu (pv 2) (pv 3) (pe_tup (pa_cons (pv 4) (pa_cons (pv 0) pa_nil))) rfl)
        (pss_one (ps_ret (pv 2))))), ?_⟩
      have args60 : (args k).length < k.ends := args_len k
      refine ⟨_, rfl, Nat.zero_le _, fun L hL => ⟨_, _, rfl, ?_⟩⟩
      have nDL : D ≠ L := ne_of_none hD hL
      have S0 : Same H (upd H L (.lst [])) := same_new hL
      refine ⟨_, rfl, v, k, rfl, hk.same (SameT.of S0), by omega, fun H1 q ws S1 nq hq hws => ⟨q, rfl, ⟨ws, SqL.of hq⟩, ?_⟩⟩
      have nqL : q ≠ L := by
        rintro rfl
        rw [upd_same] at nq
        cases nq
      have nqD : q ≠ D := by
        rintro rfl
        rw [S0 _ _ hD] at nq
        cases nq
      have hL1 : H1 L = some (.lst []) := S1 _ _ upd_same
      have hD1 : H1 D = some (.dK (pairsFrom 0 ts0)) := S1 _ _ (S0 _ _ hD)
      refine for_it (walk_list (K := K) (a := q) (xs := ws)) (fun i σ H' => ∃ (o5 : Option V) (fs : List Nat) (ts1 : List Addr) (ls1 : List (List Nat)) (hn : Nat), σ = [some v, some (intV ts0.length), some (.ref D), some (intV hn), some (.ref L), o5] ∧
        H' D = some (.dK (pairsFrom 0 (ts0 ++ ts1))) ∧ H' L = some (.lst (fs.map intV)) ∧ Told K H' (fun l => H1 l = none) ts1 ls1 ∧ hn = ts0.length + ts1.length ∧ ls1 ++ ipl (rest k i) hn = ipl k ts0.length ∧ fs ++ partsFrom (rest k i) hn = partsFrom k ts0.length ∧
        ts1.length + (rest k i).ends = k.ends ∧ fs.length = i ∧ (∀ b o, H1 b = some o → b ≠ D → b ≠ L → H' b = some o)) ⟨none, [], [], [], ts0.length, rfl, ?_, hL1, .nil, rfl, by rw [rest_zero]; rfl, by rw [rest_zero]; rfl, by rw [rest_zero]; exact Nat.zero_add _, rfl, fun _ _ h _ _ => h⟩ ?_ ?_ ?_
      · rw [List.append_nil]
        exact hD1
      · rintro i σ H' _ ⟨o5, fs, ts1, ls1, hn, _, _, _, _, _, _, _, _, _, kp⟩
        exact SqL.of (kp _ _ hq nqD nqL)
      · rintro i x σ H2 H' hi ⟨o5, fs, ts1, ls1, hn, rfl, hD2, hL2, htl, rfl, ei, ep, en, rfl, kp⟩ ⟨rfl, hx⟩
        obtain ⟨a, ea, hka⟩ := hws.get hx
        have er := rest_at k _ a ea
        have dr := rest_deep k fs.length
        rw [er] at ei ep en dr
        simp only [Kd.deep] at dr
        simp only [Kd.ends] at en
        have pa : 1 ≤ a.deep := by cases a <;> simp only [Kd.deep] <;> omega
        have pe := a.ends_pos
        obtain ⟨n', rfl⟩ : ∃ n', n = n' + 1 := ⟨n - 1, by omega⟩
        have T1 : SameT H1 H' := dr_tups kp hD1 hL1
        have lap : (ts0 ++ ts1).length = ts0.length + ts1.length := List.length_append
        refine ⟨_, rfl, _, rfl, _, rfl, x, a, D, ts0 ++ ts1, by rw [lap]; rfl, hka.same T1, by omega, by omega, hD2, fun H3 ts' b3 hD3 ht3 => ?_⟩
        have T3 : SameT H' H3 := but_tupsD b3 hD2
        have hL3 : H3 L = some (.lst (fs.map intV)) := b3 _ _ hL2 nDL.symm
        have hts' : ts'.length = a.ends := by rw [ht3.len, pl_len]
        refine ⟨_, rfl, _, rfl, x, a, rfl, hka.same (T1.trans T3), by omega, _, _, rfl, rfl, ?_⟩
        refine ⟨_, rfl, .inl ⟨rfl, _, SqL.of hL3⟩, _, rfl, _, _, rfl, rfl, L, _, _, rfl, rfl, hL3, ?_, ?_⟩
        · rw [List.length_map]
          have := (List.getElem?_eq_some_iff.mp ea).1
          exact small1000 (by omega)
        have B4 : But L H3 (upd H3 L (.lst (fs.map intV ++ [V.int (((ts0.length + ts1.length : Nat) : Int) + (a.ends : Int) - 1)]))) := but_upd
        refine ⟨some x, fs ++ [ts0.length + ts1.length + a.ends - 1], ts1 ++ ts', ls1 ++ pl a (ts0.length + ts1.length), ts0.length + ts1.length + a.ends, rfl, ?_, ?_, ?_, ?_, ?_, ?_, ?_, ?_, ?_⟩
        · rw [upd_ne nDL, hD3, List.append_assoc]
        · rw [upd_same, List.map_append]
          have : (V.int (((ts0.length + ts1.length : Nat) : Int) + (a.ends : Int) - 1)) = intV (ts0.length + ts1.length + a.ends - 1) := by
            unfold intV
            congr 1
            omega
          show some (HO.lst (fs.map intV ++ [V.int (((ts0.length + ts1.length : Nat) : Int) + (a.ends : Int) - 1)])) = _
          rw [this]
          rfl
        · have n1 : ∀ l, H' l = none → H1 l = none := fun l hl => by
            cases e : H1 l with
            | none => rfl
            | some o =>
              by_cases e1 : l = D
              · rw [e1, hD2] at hl
                cases hl
              · by_cases e2 : l = L
                · rw [e2, hL2] at hl
                  cases hl
                · rw [kp _ _ e e1 e2] at hl
                  cases hl
          exact Told.keepL B4 hL3 (by show ¬ H1 L = none; rw [hL1]; intro z; cases z) ((Told.keep b3 hD2 htl).app (by rw [← lap]; exact ht3.mono n1))
        · rw [List.length_append]
          omega
        · rw [← ei, ipl, pl]
          simp only [List.append_assoc, List.cons_append, List.nil_append]
        · rw [← ep, partsFrom]
          simp only [List.append_assoc, List.cons_append, List.nil_append]
        · rw [List.length_append]
          omega
        · rw [List.length_append]
          rfl
        · intro b o e n1 n2
          rw [upd_ne n2]
          exact b3 _ _ (kp b o e n1 n2) n1
      · rintro σ H' ⟨o5, fs, ts1, ls1, hn, rfl, hD2, hL2, htl, rfl, ei, ep, en, _, kp⟩
        rw [hws.len, rest_end] at ei ep en
        have T1 : SameT H1 H' := dr_tups kp hD1 hL1
        have pk := k.ends_pos
        have ei : ls1 = ipl k ts0.length := (List.append_nil ls1).symm.trans ei
        have ep : fs = partsFrom k ts0.length := (List.append_nil fs).symm.trans ep
        have en : ts1.length + 1 = k.ends := en
        refine ⟨_, rfl, _, rfl, by show 2 ≤ sizeLine; decide, fun p hp => ?_⟩
        have ndp : D ≠ p := ne_of_none hD2 hp
        have nlp : L ≠ p := ne_of_none hL2 hp
        have lap : (ts0 ++ ts1).length = ts0.length + ts1.length := List.length_append
        refine ⟨_, rfl, _, rfl, D, _, rfl, DPut.k (k := .inl ((ts0.length + ts1.length : Nat) : Int)) ((same_new hp) _ _ hD2) (by rw [pairs_len, lap]; exact small1000 (by omega)), ?_⟩
        refine ⟨_, rfl, cont _ (ts1 ++ [p]) ?_ ?_ ?_⟩
        · intro b o e nb
          have nL : b ≠ L := ne_of_none e hL
          rw [upd_ne nb]
          exact (same_new hp) _ _ (kp _ _ (S1 _ _ (S0 _ _ e)) nb nL)
        · rw [upd_same, putK_new _ (pairs_none 0 _ _ (.inr (by rw [lap]; omega))), ← List.append_assoc, pairs_snoc, lap, Nat.zero_add]
        · have hDp : (upd H' p (.tup [.ref L, v])) D = some (.dK (pairsFrom 0 (ts0 ++ ts1))) := (same_new hp) _ _ hD2
          have hLp : (upd H' p (.tup [.ref L, v])) L = some (.lst (fs.map intV)) := (same_new hp) _ _ hL2
          have hpp : (upd H' p (.tup [.ref L, v])) p = some (.tup [.ref L, v]) := upd_same
          have S5 : Same H' (upd H' p (.tup [.ref L, v])) := same_new hp
          revert hDp hLp hpp S5
          generalize upd H' p (.tup [.ref L, v]) = H5
          intro hDp hLp hpp S5
          refine Told.keep (but_upd (l := D)) hDp ?_
          rw [pl, ← ei, ← ep]
          exact ((Told.keep (D := D) (But.of S5) hD2 htl).mono fun l h => none_of_same (S0.trans S1) h).app (.cons ⟨L, v, .inl (.inl hpp), hLp, hL⟩ .nil)
end
/-! ### _law_hd_any_kind -/
abbrev s_hd_any_kind : Stmt := top 28
def cnt : Nat → Nat
  | 0 => 0
  | e + 1 => 1 + cnt e + cnt e
def pw2 : Nat → Nat
  | 0 => 1
  | e + 1 => pw2 e + pw2 e
theorem pw2_pos : ∀ e, 1 ≤ pw2 e
  | 0 => Nat.le_refl _
  | e + 1 => Nat.le_trans (pw2_pos e) (Nat.le_add_right _ _)
def spAny (K : PySem.W.Frag) : Nat → Sp
  | 0 => fun _ _ _ _ => False
  | n + 1 => fun vs H Q _ => ∃ (d g c : Addr) (m e : Nat), vs = [.ref d, intV e] ∧ e ≤ n ∧ DrawSt H d g c m ∧ m + cnt e ≤ 2 ^ 40 ∧
      ∀ (H' : Hp) (v : V) (k : Kd) (m' : Nat), KdAt K H' v k → k.ends ≤ pw2 e → DrawSt H' d g c m' → m' ≤ m + cnt e → Dr d g H H' → Q v H'
section
variable {P : Program} {w : World} {K : PySem.W.Frag} {mg : Str → Option Value} {base : Heap} {tA BK BE HE : Addr}
theorem sc_hd_any_kind : FnScope ["state", "deep"] ["state", "deep"] (defScope s_hd_any_kind) := ⟨rfl, rfl, rfl, by decide +kernel, rfl, by decide +kernel, by decide +kernel⟩
theorem ok_hd_any_kind {f f1 : Addr} {fd fd1 : FuncData} (F : Fun K "_law_hd_any_kind" "_law_hd_any_kind" s_hd_any_kind f fd) (gA : mg "_law_hd_any_kind" = some (.ref f)) (kA : PySem.W.keepIn K (.ref f) = true) (bA : Binds K fd ["state", "deep"] [])
    (G1 : FnOk P w K mg base CX0 2 f1 fd1 ["state", "room"] spDraw) (g1 : mg "_law_draw" = some (.ref f1)) (k1 : PySem.W.keepIn K (.ref f1) = true) (b1 : Binds K fd1 ["state", "room"] []) :
    ∀ n : Nat, FnOk P w K mg base CX0 (n + 2) f fd ["state", "deep"] (spAny K n) := by
  intro n
  induction n with
  | zero => exact ⟨fun _ _ _ _ h => h.elim, fun _ _ _ _ _ _ _ _ _ _ _ _ _ h => h.elim⟩
  | succ n G =>
    refine F.ok sc_hd_any_kind (fun vs H Q E h => ?_) (fun cdv A outer s0 H vs Q E hr h => ?_)
    · obtain ⟨d, g, c, m, e, rfl, _⟩ := h
      rfl
    · obtain ⟨d, g, c, m, e, rfl, he, D, hm, q⟩ := h
      have hr2 : Room 2 _ := hr.mono (by omega)
      refine ⟨_, pss_cons (ps_if (PW.pt (pw_or (pt_cmpR op_eq (pv 1) pe_int (nomark _)) (pw_or1 (pt_cmpR op_eq (by exact (pe_call G1 hr2 rfl g1 k1 b1 .nil pass0 (pa_cons (pv 0) (pa_cons pe_int pa_nil)))) pe_int (nomark _)))))
          (pss_one (ps_ret (pe_tup (pa_cons pe_str pa_nil)))) pss_nil)
        (pss_one (ps_ret (pe_tup (pa_cons pe_str (pa_cons (by exact (pe_call G hr rfl gA kA bA .nil pass0 (pa_cons (pv 0) (pa_cons (pe_op op_sub (pv 1) pe_int) pa_nil))))
          (pa_cons (by exact (pe_call G hr rfl gA kA bA .nil pass0 (pa_cons (pv 0) (pa_cons (pe_op op_sub (pv 1) pe_int) pa_nil)))) pa_nil)))))), ?_⟩
      have text : ∀ (H1 : Hp) (m1 : Nat), DrawSt H1 d g c m1 → m1 ≤ m + cnt e → Dr d g H H1 → ∀ p, H1 p = none → Q (.ref p) (upd H1 p (.tup [.str "text"])) := fun H1 m1 D1 h1 dr p hp =>
        q _ _ .text m1 ⟨p, rfl, .inl (.inl upd_same)⟩ (pw2_pos e) (D1.same (same_new hp)) h1 (dr.trans (.of (same_new hp)))
      refine ⟨_, rfl, rfl, _, rfl, ?_⟩
      cases e with
      | zero =>
        refine iteBT (decide_eq_true rfl) (iteBT rfl ?_)
        exact ⟨by show 1 ≤ sizeLine; decide, text H m D (Nat.le_add_right _ _) (.refl _ _ _)⟩
      | succ e =>
        have hc : cnt (e + 1) = 1 + cnt e + cnt e := rfl
        refine iteBF (decide_eq_false (fun z => by have z := V.int.inj z; omega)) ?_
        refine ⟨_, rfl, d, g, c, m, 3, rfl, D, by omega, by decide, by decide, fun H1 z z0 z3 D1 dr1 => ?_⟩
        have dr1 : Dr d g H H1 := dr1
        refine ⟨rfl, _, rfl, ?_⟩
        by_cases hz : z = 0
        · subst hz
          refine iteBT (decide_eq_true rfl) ?_
          exact ⟨by show 1 ≤ sizeLine; decide, text H1 (m + 1) D1 (by omega) dr1⟩
        · refine iteBF (decide_eq_false (fun y => hz (V.int.inj y))) ?_
          obtain ⟨n', rfl⟩ : ∃ n', n = n' + 1 := ⟨n - 1, by omega⟩
          have ee : V.int (((e + 1 : Nat) : Int) - 1) = intV e := by
            unfold intV
            congr 1
            omega
          refine ⟨_, rfl, _, rfl, _, _, rfl, rfl, d, g, c, m + 1, e, by show [V.ref d, V.int (((e + 1 : Nat) : Int) - 1)] = _; rw [ee], by omega, D1, by omega, fun H2 x a m2 hx ea D2 h2 dr2 => ?_⟩
          refine ⟨_, rfl, _, rfl, _, _, rfl, rfl, d, g, c, m2, e, by show [V.ref d, V.int (((e + 1 : Nat) : Int) - 1)] = _; rw [ee], by omega, D2, by omega, fun H3 y b m3 hy eb D3 h3 dr3 => ?_⟩
          refine ⟨by show 3 ≤ sizeLine; decide, fun p hp => ?_⟩
          have S4 : Same H3 (upd H3 p (.tup [.str "to", x, y])) := same_new hp
          refine q _ _ (.to a b) m3 ⟨p, x, y, rfl, .inl (.inl upd_same), (hx.same (dr3.tups D2)).same (SameT.of S4), hy.same (SameT.of S4)⟩ ?_ (D3.same S4) (by omega) (dr1.trans (dr2.trans (dr3.trans (.of S4))))
          show a.ends + b.ends ≤ pw2 e + pw2 e
          omega
end
/-! ### data that a display makes -/
/-- what H' holds where H0 held nothing -/
def mask (H0 H' : Hp) : Hp := fun b => if (H0 b).isNone = true then H' b else none
theorem mask_at {H0 H' : Hp} {b : Addr} (h : H0 b = none) : mask H0 H' b = H' b := by
  unfold mask
  rw [h]
  rfl
theorem mask_same {H0 H1 H2 : Hp} (s : Same H1 H2) : Same (mask H0 H1) (mask H0 H2) := fun b o e => by
  cases q : H0 b with
  | none =>
    rw [mask_at q] at e ⊢
    exact s _ _ e
  | some u =>
    unfold mask at e
    rw [q] at e
    cases e
theorem mask_back {H0 H1 H2 : Hp} (s : Same H0 H1) : Same (mask H1 H2) (mask H0 H2) := fun b o e => by
  cases q : H1 b with
  | none =>
    rw [mask_at q] at e
    rw [mask_at (none_of_same s q)]
    exact e
  | some u =>
    unfold mask at e
    rw [q] at e
    cases e
theorem mask_dr {d g : Addr} {H0 H1 H2 : Hp} {u w : HO} (a : Dr d g H1 H2) (hd : H0 d = some u) (hg : H0 g = some w) : Same (mask H0 H1) H2 := fun b o e => by
  cases q : H0 b with
  | none =>
    rw [mask_at q] at e
    exact a _ _ e (by rintro rfl; rw [hd] at q; cases q) (by rintro rfl; rw [hg] at q; cases q)
  | some u =>
    unfold mask at e
    rw [q] at e
    cases e
def tDat (K : PySem.W.Frag) (d : PyData) : TE := fun σ H Q => ∀ (H' : Hp) (v : V), Same H H' → Dp K (mask H H') v d → Q v H'
def tDats (K : PySem.W.Frag) (ds : List PyData) : TA := fun σ H Q => ∀ (H' : Hp) (vs : List V), Same H H' → DpAll K (mask H H') vs ds → Q vs H'
section
variable {X : Cx}
theorem pe_wk {e : Expr} {t t' : TE} (h : PE X e t) (w : ∀ σ H Q, t' σ H Q → t σ H Q) : PE X e t' := ⟨fun pins s σ H Q I q => h.run pins s σ H Q I (w _ _ _ q)⟩
theorem pa_wk {es : List Expr} {t t' : TA} (h : PA X es t) (w : ∀ σ H Q, t' σ H Q → t σ H Q) : PA X es t' := ⟨fun pos pins s σ H Q I q => h.run pos pins s σ H Q I (w _ _ _ q)⟩
theorem pe_dnon {j pos} : PE X (.Constant .none j pos) (tDat X.K .none) := pe_wk pe_non fun _ H _ q => q H _ (Same.refl H) .non
theorem pe_dint {i j pos} : PE X (.Constant (.int i) j pos) (tDat X.K (.int i)) := pe_wk pe_int fun _ H _ q => q H _ (Same.refl H) (.int i)
theorem pe_dbl {b j pos} : PE X (.Constant (.bool b) j pos) (tDat X.K (.bool b)) := pe_wk pe_bl fun _ H _ q => q H _ (Same.refl H) (.bl b)
theorem pe_dstr {x j pos} : PE X (.Constant (.str x) j pos) (tDat X.K (.str x)) := pe_wk pe_str fun _ H _ q => q H _ (Same.refl H) (.str x)
theorem pa_dnil : PA X [] (tDats X.K []) := pa_wk pa_nil fun _ H _ q => q H [] (Same.refl H) .nil
theorem pa_dcons {e : Expr} {es : List Expr} {d : PyData} {ds : List PyData} (h : PE X e (tDat X.K d)) (t : PA X es (tDats X.K ds)) (hs : starEach (e :: es) X.env = (false, eval e X.env) :: starEach es X.env := by rfl) : PA X (e :: es) (tDats X.K (d :: ds)) :=
  pa_wk (pa_cons h t hs) fun _ H Q q H1 v S1 hd H2 vs S2 hds => q H2 (v :: vs) (S1.trans S2) (.cons (dp_same (mask_same S2) hd) (dpAll_same (mask_back S1) hds))
theorem dpAll_len {K : PySem.W.Frag} {H : Hp} : ∀ {vs : List V} {ds : List PyData}, DpAll K H vs ds → vs.length = ds.length
  | _, _, .nil => rfl
  | _, _, .cons _ t => congrArg (· + 1) (dpAll_len t)
theorem pe_dtup {es : List Expr} {ds : List PyData} {x1 pos} (h : PA X es (tDats X.K ds)) (hl : ds.length ≤ 1000 := by decide) : PE X (.Tuple es x1 pos) (tDat X.K (.tuple ds)) :=
  pe_wk (pe_tup h) fun _ H Q q H1 vs S1 hds => ⟨by rw [dpAll_len hds]; exact Nat.le_of_lt (small1000 hl), fun p hp => by
    have S2 : Same H1 (upd H1 p (.tup vs)) := same_new hp
    exact q _ _ (S1.trans S2) (.tup (.inl (.inl (by rw [mask_at (none_of_same S1 hp)]; exact upd_same))) (dpAll_same (mask_same S2) hds))⟩
theorem pe_dlst {es : List Expr} {ds : List PyData} {pos} (h : PA X es (tDats X.K ds)) (hl : ds.length ≤ 1000 := by decide) : PE X (.List es pos) (tDat X.K (.list ds)) :=
  pe_wk (pe_lst h) fun _ H Q q H1 vs S1 hds => ⟨by rw [dpAll_len hds]; exact Nat.le_of_lt (small1000 hl), fun p hp => by
    have S2 : Same H1 (upd H1 p (.lst vs)) := same_new hp
    exact q _ _ (S1.trans S2) (.lst (SqL.of (by rw [mask_at (none_of_same S1 hp)]; exact upd_same)) (dpAll_same (mask_same S2) hds))⟩
end
theorem dpAll_get {K : PySem.W.Frag} {H : Hp} : ∀ {vs : List V} {ds : List PyData} {i : Nat} {x : V}, DpAll K H vs ds → vs[i]? = some x → ∃ d, d ∈ ds ∧ Dp K H x d
  | _, _, i, x, .nil, h => by simp at h
  | _, _, 0, x, .cons a _, h => by
    cases h
    exact ⟨_, List.mem_cons_self, a⟩
  | _, _, i + 1, x, .cons _ t, h => by
    obtain ⟨k, e, q⟩ := dpAll_get (i := i) t (by simpa using h)
    exact ⟨k, List.mem_cons_of_mem _ e, q⟩
theorem dpAll_at {K : PySem.W.Frag} {H : Hp} : ∀ {vs : List V} {ds : List PyData} {i : Nat} {x : V}, DpAll K H vs ds → vs[i]? = some x → ∃ d, ds[i]? = some d ∧ Dp K H x d
  | _, _, i, x, .nil, h => by simp at h
  | _, _, 0, x, .cons a _, h => by
    cases h
    exact ⟨_, rfl, a⟩
  | _, _, i + 1, x, .cons _ t, h => by
    obtain ⟨k, e, q⟩ := dpAll_at (i := i) t (by simpa using h)
    exact ⟨k, by simpa using e, q⟩
/-! ### _law_hd_bad_kind -/
abbrev s_hd_bad_kind : Stmt := top 29
def tx : PyData := .tuple [.str "text"]
def bad1 : List PyData := [.none, .int 5, .str "text", .tuple [], .tuple [.str "text", .int 1], .list [.str "text"], .tuple [.str "to", tx], .tuple [.str "to", tx, .none], .tuple [.str "from", tx, tx]]
def bad2 : List PyData := [.tuple [.str "to", .list [.str "text"], tx], .tuple [.str "to", tx, tx, tx], .tuple [tx], .bool true]
def wideK : Nat → Kd
  | 0 => .text
  | n + 1 => .to .text (wideK n)
theorem wide_ends : ∀ n, (wideK n).ends = n + 1
  | 0 => rfl
  | n + 1 => by
    show 1 + (wideK n).ends = n + 1 + 1
    rw [wide_ends n]
    omega
theorem bad1_ok : ∀ x ∈ bad1, OkD x ∧ isKd x = false := by
  intro x hx
  simp only [bad1, List.mem_cons, List.not_mem_nil, or_false] at hx
  rcases hx with rfl | rfl | rfl | rfl | rfl | rfl | rfl | rfl | rfl <;> exact ⟨by unfold OkD; decide +kernel, by first | (simp [isKd, endsD, parse, tx]; done) | (simp [isKd, endsD, parse, tx]; rw [if_neg (by decide +kernel)])⟩
theorem bad2_ok : ∀ x ∈ bad2, OkD x ∧ isKd x = false := by
  intro x hx
  simp only [bad2, List.mem_cons, List.not_mem_nil, or_false] at hx
  rcases hx with rfl | rfl | rfl | rfl <;> exact ⟨by unfold OkD; decide +kernel, by simp [isKd, endsD, parse, tx]⟩
theorem bad_ok : ∀ x ∈ bad1 ++ (wideK 60).data :: bad2, OkD x ∧ isKd x = false := by
  intro x hx
  rcases List.mem_append.mp hx with h | h
  · exact bad1_ok x h
  · rcases List.mem_cons.mp h with rfl | h
    · refine ⟨okD_kind (by rw [wide_ends]; decide), ?_⟩
      rw [isKd_data, wide_ends]
      rfl
    · exact bad2_ok x h
theorem dpAll_app {K : PySem.W.Frag} {H : Hp} : ∀ {vs ws : List V} {ds es : List PyData}, DpAll K H vs ds → DpAll K H ws es → DpAll K H (vs ++ ws) (ds ++ es)
  | _, _, _, _, .nil, h => h
  | _, _, _, _, .cons a t, h => .cons a (dpAll_app t h)
def spBad (K : PySem.W.Frag) : Sp := fun vs H Q _ => ∃ (d g c : Addr) (m : Nat), vs = [.ref d] ∧ DrawSt H d g c m ∧ m ≤ 2 ^ 40 ∧
  ∀ (H' : Hp) (v : V) (x : PyData), (∀ H'' : Hp, Dr d g H' H'' → Dp K H'' v x) → OkD x → isKd x = false → DrawSt H' d g c (m + 1) → Dr d g H H' → Q v H'
section
variable {P : Program} {w : World} {K : PySem.W.Frag} {mg : Str → Option Value} {base : Heap} {tA BK BE HE : Addr}
theorem sc_hd_bad_kind : FnScope ["state", "some", "wide", "lap"] ["state"] (defScope s_hd_bad_kind) := ⟨rfl, rfl, rfl, by decide +kernel, rfl, by decide +kernel, by decide +kernel⟩
theorem ok_hd_bad_kind {f f1 : Addr} {fd fd1 : FuncData} (F : Fun K "_law_hd_bad_kind" "_law_hd_bad_kind" s_hd_bad_kind f fd) (zr : mg "range" = none) (G1 : FnOk P w K mg base CX0 3 f1 fd1 ["state", "some"] (spPick K)) (g1 : mg "_law_pick" = some (.ref f1)) (k1 : PySem.W.keepIn K (.ref f1) = true)
    (b1 : Binds K fd1 ["state", "some"] []) : FnOk P w K mg base CX0 4 f fd ["state"] (spBad K) := by
  refine F.ok sc_hd_bad_kind (fun vs H Q E h => ?_) (fun cdv A outer s0 H vs Q E hr h => ?_)
  · obtain ⟨d, g, c, m, rfl, _⟩ := h
    rfl
  · obtain ⟨d, g, c, m, rfl, D, hm, q⟩ := h
    refine ⟨_, pss_cons (ps_set (i := 1) sc_hd_bad_kind.nd rfl (Or.inl rfl) (by exact (pe_lst (show PA _ _ (tDats _ bad1) from pa_dcons pe_dnon (pa_dcons pe_dint (pa_dcons pe_dstr (pa_dcons (pe_dtup pa_dnil) (pa_dcons (pe_dtup (pa_dcons pe_dstr (pa_dcons pe_dint pa_dnil)))
        (pa_dcons (pe_dlst (pa_dcons pe_dstr pa_dnil)) (pa_dcons (pe_dtup (pa_dcons pe_dstr (pa_dcons (pe_dtup (pa_dcons pe_dstr pa_dnil)) pa_dnil))) (pa_dcons (pe_dtup (pa_dcons pe_dstr (pa_dcons (pe_dtup (pa_dcons pe_dstr pa_dnil)) (pa_dcons pe_dnon pa_dnil))))
        (pa_dcons (pe_dtup (pa_dcons pe_dstr (pa_dcons (pe_dtup (pa_dcons pe_dstr pa_dnil)) (pa_dcons (pe_dtup (pa_dcons pe_dstr pa_dnil)) pa_dnil)))) pa_dnil)))))))))))) 
      (pss_cons (ps_set (i := 2) sc_hd_bad_kind.nd rfl (Or.inl rfl) (pe_tup (pa_cons pe_str pa_nil)))
      (pss_cons (ps_for PassesOwn.never rfl (pi_range1 (by rfl) zr (pa_cons pe_int pa_nil)) (pg_name (i := 3) sc_hd_bad_kind.nd rfl (Or.inl rfl))
        (pss_one (ps_set (i := 2) sc_hd_bad_kind.nd rfl (Or.inl rfl) (pe_tup (pa_cons pe_str (pa_cons (by exact (pe_tup (pa_cons pe_str pa_nil))) (pa_cons (pv 2) pa_nil)))))))
      (pss_one (ps_ret (by exact (pe_call G1 hr rfl g1 k1 b1 .nil pass0 (pa_cons (pv 0) (pa_cons (by exact (pe_op op_cat (pv 1) (pe_lst (pa_cons (pv 2) (show PA _ _ (tDats _ bad2) from
        pa_dcons (pe_dtup (pa_dcons pe_dstr (pa_dcons (pe_dlst (pa_dcons pe_dstr pa_dnil)) (pa_dcons (pe_dtup (pa_dcons pe_dstr pa_dnil)) pa_dnil))))
        (pa_dcons (pe_dtup (pa_dcons pe_dstr (pa_dcons (pe_dtup (pa_dcons pe_dstr pa_dnil)) (pa_dcons (pe_dtup (pa_dcons pe_dstr pa_dnil)) (pa_dcons (pe_dtup (pa_dcons pe_dstr pa_dnil)) pa_dnil)))))
        (pa_dcons (pe_dtup (pa_dcons (pe_dtup (pa_dcons pe_dstr pa_dnil)) pa_dnil)) (pa_dcons pe_dbl pa_dnil)))))))) pa_nil)))))))), ?_⟩
    refine fun H1 vs1 S1 hd1 => ⟨by rw [dpAll_len hd1]; decide, fun l1 hl1 => ?_⟩
    refine ⟨by show 1 ≤ sizeLine; decide, fun p hp => ?_⟩
    have S2 : Same H (upd H1 l1 (.lst vs1)) := S1.trans (same_new hl1)
    have S3 : Same H (upd (upd H1 l1 (.lst vs1)) p (.tup [.str "text"])) := S2.trans (same_new hp)
    have hl1' : (upd (upd H1 l1 (.lst vs1)) p (.tup [.str "text"])) l1 = some (.lst vs1) := (same_new hp) _ _ upd_same
    have hpp : (upd (upd H1 l1 (.lst vs1)) p (.tup [.str "text"])) p = some (.tup [.str "text"]) := upd_same
    have hdm : Same (mask H H1) (mask H (upd (upd H1 l1 (.lst vs1)) p (.tup [.str "text"]))) := mask_same ((same_new hl1).trans (same_new hp))
    have nl1 : H l1 = none := none_of_same S1 hl1
    revert S3 hl1' hpp hdm
    generalize upd (upd H1 l1 (.lst vs1)) p (.tup [.str "text"]) = H3
    intro S3 hl1' hpp hdm
    have hd3 : DpAll K (mask H H3) vs1 bad1 := dpAll_same hdm hd1
    refine ⟨60, rfl, by decide, by decide, ?_⟩
    refine for_it (walk_range (lo := 0) (n := 60)) (fun i σ H' => ∃ (wv : V) (o3 : Option V), σ = [some (.ref d), some (.ref l1), some wv, o3] ∧ KdAt K H' wv (wideK i) ∧ Same H3 H') ⟨_, none, rfl, ⟨p, rfl, .inl (.inl hpp)⟩, Same.refl _⟩ (fun _ _ _ _ _ => True.intro) ?_ ?_
    · rintro i x σ H4 H' _ ⟨wv, o3, rfl, hw, S4⟩ ⟨rfl, rfl⟩
      refine ⟨by show 1 ≤ sizeLine; decide, fun a ha => ⟨_, rfl, by show 3 ≤ sizeLine; decide, fun b hb => ?_⟩⟩
      have S5 : Same H' (upd H' a (.tup [.str "text"])) := same_new ha
      have S6 : Same (upd H' a (.tup [.str "text"])) (upd (upd H' a (.tup [.str "text"])) b (.tup [.str "to", .ref a, wv])) := same_new hb
      exact ⟨.ref b, _, rfl, ⟨b, .ref a, wv, rfl, .inl (.inl upd_same), ⟨a, rfl, .inl (.inl (S6 _ _ upd_same))⟩, hw.same (SameT.of (S5.trans S6))⟩, S4.trans (S5.trans S6)⟩
    · rintro σ H' ⟨wv, o3, rfl, hw, S4⟩
      refine ⟨_, rfl, _, rfl, _, rfl, fun H5 vs2 S5 hd2 => ⟨?_, fun l2 hl2 => ?_⟩⟩
      · rw [List.length_cons, dpAll_len hd2]
        decide
      have S6 : Same H5 (upd H5 l2 (.lst (wv :: vs2))) := same_new hl2
      refine ⟨l1, l2, _, _, rfl, rfl, S6 _ _ (S5 _ _ (S4 _ _ hl1')), upd_same, ?_, fun y hy => ?_⟩
      · rw [List.length_cons, dpAll_len hd2, dpAll_len hd1]
        decide
      have S7 : Same (upd H5 l2 (.lst (wv :: vs2))) (upd (upd H5 l2 (.lst (wv :: vs2))) y (.lst (vs1 ++ wv :: vs2))) := same_new hy
      have SH : Same H (upd (upd H5 l2 (.lst (wv :: vs2))) y (.lst (vs1 ++ wv :: vs2))) := S3.trans (S4.trans (S5.trans (S6.trans S7)))
      have S37 : Same H3 (upd (upd H5 l2 (.lst (wv :: vs2))) y (.lst (vs1 ++ wv :: vs2))) := S4.trans (S5.trans (S6.trans S7))
      have S57 := S6.trans S7
      have hyy : (upd (upd H5 l2 (.lst (wv :: vs2))) y (.lst (vs1 ++ wv :: vs2))) y = some (.lst (vs1 ++ wv :: vs2)) := upd_same
      have ny : H y = none := none_of_same (S3.trans (S4.trans (S5.trans S6))) hy
      revert SH S37 S57 hyy
      generalize upd (upd H5 l2 (.lst (wv :: vs2))) y (.lst (vs1 ++ wv :: vs2)) = H8
      intro SH S37 S57 hyy
      have ng := (D.ne ny).2.1
      refine ⟨d, g, c, y, m, _, rfl, D.same SH, hm, hyy, ng, by simp, ?_, fun H9 n v hv D9 dr => ?_⟩
      · rw [List.length_append, List.length_cons, dpAll_len hd2, dpAll_len hd1]
        decide
      have dr : Dr d g H8 H9 := dr
      obtain ⟨gs, cs, r, t, x1, x2, _⟩ := D
      have AA : ∀ H'' : Hp, Dr d g H9 H'' → DpAll K H'' (vs1 ++ wv :: vs2) (bad1 ++ (wideK 60).data :: bad2) := fun H'' dr' => by
        have A1 : DpAll K H'' vs1 bad1 := dpAll_same (mask_dr ((Dr.of S37).trans (Dr.trans dr dr')) x1 x2) hd3
        have A2 : Dp K H'' wv (wideK 60).data := ((hw.same ((SameT.of (S5.trans S57)).trans (dr.tups (DrawSt.same ⟨gs, cs, r, t, x1, x2, by assumption⟩ SH)))).same (Dr.tups dr' D9)).dp
        have A3 : DpAll K H'' vs2 bad2 := dpAll_same (mask_dr ((Dr.of S57).trans (Dr.trans dr dr')) (S4 _ _ (S3 _ _ x1)) (S4 _ _ (S3 _ _ x2))) hd2
        exact dpAll_app A1 (.cons A2 A3)
      obtain ⟨x, hx, _⟩ := dpAll_at (AA H9 (Dr.refl _ _ _)) hv
      obtain ⟨o1, o2⟩ := bad_ok x (List.mem_of_getElem? hx)
      refine q H9 v x (fun H'' dr' => ?_) o1 o2 D9 ((Dr.of SH).trans dr)
      obtain ⟨x', hx', h⟩ := dpAll_at (AA H'' dr') hv
      rw [hx] at hx'
      cases hx'
      exact h
end
/-! ### _law_k15_kind -/
abbrev s_k15_kind : Stmt := top 30
def spKind15 (K : PySem.W.Frag) : Sp := fun vs H Q _ => ∃ (d g c : Addr) (m : Nat), vs = [.ref d] ∧ DrawSt H d g c m ∧ m + 100 ≤ 2 ^ 40 ∧
  ∀ (H' : Hp) (v : V) (k : Kd) (m' : Nat), KdAt K H' v k → k.ends ≤ 60 → DrawSt H' d g c m' → m' ≤ m + 100 → Dr d g H H' → Q v H'
theorem laps_at {n : Nat} {v : V} (h : ([V.int 59, V.int 30, V.int 20] : List V)[n]? = some v) : ∃ z : Nat, v = .int z ∧ z ≤ 59 := by
  match n with
  | 0 => cases h; exact ⟨59, rfl, by decide⟩
  | 1 => cases h; exact ⟨30, rfl, by decide⟩
  | 2 => cases h; exact ⟨20, rfl, by decide⟩
  | n + 3 => simp at h
section
variable {P : Program} {w : World} {K : PySem.W.Frag} {mg : Str → Option Value} {base : Heap} {tA BK BE HE : Addr}
theorem sc_k15_kind : FnScope ["state", "found", "lap"] ["state"] (defScope s_k15_kind) := ⟨rfl, rfl, rfl, by decide +kernel, rfl, by decide +kernel, by decide +kernel⟩
theorem ok_k15_kind {f f1 f2 f3 : Addr} {fd fd1 fd2 fd3 : FuncData} (F : Fun K "_law_k15_kind" "_law_k15_kind" s_k15_kind f fd) (zr : mg "range" = none)
    (G1 : FnOk P w K mg base CX0 2 f1 fd1 ["state", "room"] spDraw) (g1 : mg "_law_draw" = some (.ref f1)) (k1 : PySem.W.keepIn K (.ref f1) = true) (b1 : Binds K fd1 ["state", "room"] [])
    (G2 : FnOk P w K mg base CX0 3 f2 fd2 ["state", "some"] (spPick K)) (g2 : mg "_law_pick" = some (.ref f2)) (k2 : PySem.W.keepIn K (.ref f2) = true) (b2 : Binds K fd2 ["state", "some"] [])
    (G3 : FnOk P w K mg base CX0 8 f3 fd3 ["state", "deep"] (spAny K 6)) (g3 : mg "_law_hd_any_kind" = some (.ref f3)) (k3 : PySem.W.keepIn K (.ref f3) = true) (b3 : Binds K fd3 ["state", "deep"] []) : FnOk P w K mg base CX0 9 f fd ["state"] (spKind15 K) := by
  refine F.ok sc_k15_kind (fun vs H Q E h => ?_) (fun cdv A outer s0 H vs Q E hr h => ?_)
  · obtain ⟨d, g, c, m, rfl, _⟩ := h
    rfl
  · obtain ⟨d, g, c, m, rfl, D, hm, q⟩ := h
    have hr2 : Room 2 _ := hr.mono (by decide)
    have hr3 : Room 3 _ := hr.mono (by decide)
    refine ⟨_, pss_cons (ps_if (pt_cmpR op_eq (by exact (pe_call G1 hr2 rfl g1 k1 b1 .nil pass0 (pa_cons (pv 0) (pa_cons pe_int pa_nil)))) pe_int (nomark _))
        (pss_cons (ps_set (i := 1) sc_k15_kind.nd rfl (Or.inl rfl) (pe_tup (pa_cons pe_str pa_nil)))
        (pss_cons (ps_for PassesOwn.never rfl (pi_range1 (by rfl) zr (pa_cons (by exact (pe_call G2 hr3 rfl g2 k2 b2 .nil pass0 (pa_cons (pv 0) (pa_cons (pe_lst (pa_cons pe_int (pa_cons pe_int (pa_cons pe_int pa_nil)))) pa_nil)))) pa_nil)) (pg_name (i := 2) sc_k15_kind.nd rfl (Or.inl rfl))
          (pss_one (ps_set (i := 1) sc_k15_kind.nd rfl (Or.inl rfl) (by exact (pe_ifExp (pt_cmpR op_eq (by exact (pe_call G1 hr2 rfl g1 k1 b1 .nil pass0 (pa_cons (pv 0) (pa_cons pe_int pa_nil)))) pe_int (nomark _))
            (pe_tup (pa_cons pe_str (pa_cons (pv 1) (pa_cons (by exact (pe_tup (pa_cons pe_str pa_nil))) pa_nil)))) (pe_tup (pa_cons pe_str (pa_cons (by exact (pe_tup (pa_cons pe_str pa_nil))) (pa_cons (pv 1) pa_nil)))))))))
        (pss_one (ps_ret (pv 1))))) pss_nil)
      (pss_one (ps_ret (by exact (pe_call G3 hr rfl g3 k3 b3 .nil pass0 (pa_cons (pv 0) (pa_cons pe_int pa_nil)))))), ?_⟩
    refine ⟨_, rfl, d, g, c, m, 4, rfl, D, by omega, by decide, by decide, fun H1 z z0 z4 D1 dr1 => ?_⟩
    have dr1 : Dr d g H H1 := dr1
    refine ⟨rfl, _, rfl, ?_⟩
    by_cases hz : z = 0
    · subst hz
      refine iteBT (decide_eq_true rfl) ?_
      refine ⟨by show 1 ≤ sizeLine; decide, fun p hp => ?_⟩
      have S2 : Same H1 (upd H1 p (.tup [.str "text"])) := same_new hp
      have hpp : (upd H1 p (.tup [.str "text"])) p = some (.tup [.str "text"]) := upd_same
      revert S2 hpp
      generalize upd H1 p (.tup [.str "text"]) = H2
      intro S2 hpp
      refine ⟨_, rfl, by show 3 ≤ sizeLine; decide, fun l hl => ?_⟩
      have S3 : Same H2 (upd H2 l (.lst [.int 59, .int 30, .int 20])) := same_new hl
      refine ⟨d, g, c, l, m + 1, _, rfl, (D1.same S2).same S3, by omega, upd_same, ((D1.same S2).ne hl).2.1, by simp, by show 3 < _; decide, fun H4 n v hv D4 dr4 => ?_⟩
      have dr4 : Dr d g _ H4 := dr4
      obtain ⟨z, rfl, hz59⟩ := laps_at hv
      refine ⟨(z : Int), rfl, by omega, by omega, ?_⟩
      have T4 : SameT H2 H4 := (SameT.of S3).trans (dr4.tups ((D1.same S2).same S3))
      refine for_it (walk_range (lo := 0) (n := (z : Int).toNat)) (fun i σ H' => ∃ (wv : V) (k : Kd) (o3 : Option V) (mm : Nat), σ = [some (.ref d), some wv, o3] ∧ KdAt K H' wv k ∧ k.ends = i + 1 ∧ DrawSt H' d g c mm ∧ mm ≤ m + 2 + i ∧ Dr d g H H')
        ⟨_, .text, none, m + 2, rfl, ⟨p, rfl, sameT_sq T4 (.inl (.inl hpp))⟩, rfl, D4, Nat.le_refl _, dr1.trans ((Dr.of (S2.trans S3)).trans dr4)⟩ (fun _ _ _ _ _ => True.intro) ?_ ?_
      · rintro i x σ H5 H' hi ⟨wv, k, o3, mm, rfl, hw, ek, D5, hmm, dr5⟩ ⟨rfl, rfl⟩
        have hi : i < z := by simpa using hi
        refine ⟨_, rfl, d, g, c, mm, 2, rfl, D5, by omega, by decide, by decide, fun H6 y y0 y2 D6 dr6 => ?_⟩
        have dr6 : Dr d g H' H6 := dr6
        have hw6 := hw.same (dr6.tups D5)
        refine ⟨rfl, _, rfl, ?_⟩
        by_cases hy : y = 0
        · subst hy
          refine iteBT (decide_eq_true rfl) ?_
          refine ⟨_, rfl, by show 1 ≤ sizeLine; decide, fun a ha => ⟨by show 3 ≤ sizeLine; decide, fun b hb => ?_⟩⟩
          have S7 : Same H6 (upd H6 a (.tup [.str "text"])) := same_new ha
          have S8 : Same (upd H6 a (.tup [.str "text"])) (upd (upd H6 a (.tup [.str "text"])) b (.tup [.str "to", wv, .ref a])) := same_new hb
          exact ⟨.ref b, .to k .text, _, mm + 1, rfl, ⟨b, wv, .ref a, rfl, .inl (.inl upd_same), hw6.same (SameT.of (S7.trans S8)), ⟨a, rfl, .inl (.inl (S8 _ _ upd_same))⟩⟩, by show k.ends + 1 = i + 1 + 1; omega, D6.same (S7.trans S8), by omega, dr5.trans (dr6.trans (Dr.of (S7.trans S8)))⟩
        · refine iteBF (decide_eq_false (fun e => hy (V.int.inj e))) ?_
          refine ⟨by show 1 ≤ sizeLine; decide, fun a ha => ⟨_, rfl, by show 3 ≤ sizeLine; decide, fun b hb => ?_⟩⟩
          have S7 : Same H6 (upd H6 a (.tup [.str "text"])) := same_new ha
          have S8 : Same (upd H6 a (.tup [.str "text"])) (upd (upd H6 a (.tup [.str "text"])) b (.tup [.str "to", .ref a, wv])) := same_new hb
          exact ⟨.ref b, .to .text k, _, mm + 1, rfl, ⟨b, .ref a, wv, rfl, .inl (.inl upd_same), ⟨a, rfl, .inl (.inl (S8 _ _ upd_same))⟩, hw6.same (SameT.of (S7.trans S8))⟩, by show 1 + k.ends = i + 1 + 1; omega, D6.same (S7.trans S8), by omega, dr5.trans (dr6.trans (Dr.of (S7.trans S8)))⟩
      · rintro σ H' ⟨wv, k, o3, mm, rfl, hw, ek, D5, hmm, dr5⟩
        have ez : ((z : Int)).toNat = z := Int.toNat_natCast z
        exact ⟨_, rfl, q H' wv k mm hw (by omega) D5 (by omega) dr5⟩
    · refine iteBF (decide_eq_false (fun e => hz (V.int.inj e))) ?_
      refine ⟨_, rfl, d, g, c, m + 1, 5, rfl, Nat.le_refl 5, D1, by show m + 1 + 31 ≤ _; omega, fun H2 v k m' hk he D2 hm2 dr2 => ?_⟩
      have e1 : cnt 5 = 31 := rfl
      have e2 : pw2 5 = 32 := rfl
      exact q H2 v k m' hk (by omega) D2 (by omega) (dr1.trans dr2)
end
/-! ### _law_oh_same -/
def SmD (x : PyData) : Prop := x = .none ∨ (∃ b, x = .bool b) ∨ ∃ i : Nat, i < 64 ∧ x = .int i
theorem int_short : ∀ i : Fin 64, decide ((PyData.shown (.int (i.val : Int))).length ≤ 13) = true := by decide +kernel
theorem int_lay : ∀ i : Fin 64, PyData.canLay0 (.int (i.val : Int)) = true := by decide +kernel
theorem int_showable : ∀ i : Fin 64, PyData.showable (.int (i.val : Int)) = true := by decide +kernel
theorem int_weight : ∀ i : Fin 64, decide ((PyData.weight (.int (i.val : Int))) ≤ 7) = true := by decide +kernel
theorem smd_one {x : PyData} (h : SmD x) : x.canLay0 = true ∧ x.showable = true ∧ x.intsShort 13 = true ∧ x.depth = 0 ∧ x.weight ≤ 7 := by
  rcases h with rfl | ⟨b, rfl⟩ | ⟨i, hi, rfl⟩
  · exact ⟨rfl, rfl, rfl, rfl, by decide⟩
  · exact ⟨rfl, rfl, rfl, rfl, by simp [PyData.weight]⟩
  · exact ⟨int_lay ⟨i, hi⟩, int_showable ⟨i, hi⟩, int_short ⟨i, hi⟩, rfl, of_decide_eq_true (int_weight ⟨i, hi⟩)⟩
theorem smd_all : ∀ {ds : List PyData}, (∀ x ∈ ds, SmD x) → PyData.canLayAll0 ds = true ∧ PyData.showableAll ds = true ∧ PyData.intsShortAll 13 ds = true ∧ PyData.depthAll ds = 0 ∧ PyData.weightAll ds ≤ 8 * ds.length
  | [], _ => ⟨rfl, rfl, rfl, rfl, Nat.le_refl _⟩
  | x :: r, h => by
    obtain ⟨a1, a2, a3, a4, a5⟩ := smd_one (h x List.mem_cons_self)
    obtain ⟨b1, b2, b3, b4, b5⟩ := smd_all (ds := r) fun y hy => h y (List.mem_cons_of_mem _ hy)
    refine ⟨by simp only [PyData.canLayAll0, a1, b1, Bool.and_self], by simp only [PyData.showableAll, a2, b2, Bool.and_self], by simp only [PyData.intsShortAll, a3, b3, Bool.and_self], by simp only [PyData.depthAll, a4, b4]; rfl, ?_⟩
    simp only [PyData.weightAll, List.length_cons]
    omega
theorem smd_tup {ds : List PyData} (h : ∀ x ∈ ds, SmD x) (hl : ds.length ≤ 64) : (PyData.tuple ds).canLay0 = true ∧ (PyData.tuple ds).depth ≤ 100 ∧ (PyData.tuple ds).showable = true ∧ (PyData.tuple ds).shown.length ≤ sizeLine := by
  obtain ⟨b1, b2, b3, b4, b5⟩ := smd_all h
  have c1 : (PyData.tuple ds).canLay0 = true := by simp only [PyData.canLay0, b1]
  have c2 : (PyData.tuple ds).depth = 1 := by simp only [PyData.depth, b4]
  have c3 : (PyData.tuple ds).showable = true := by simp only [PyData.showable, b2]
  have c4 : (PyData.tuple ds).intsShort 13 = true := by simp only [PyData.intsShort, b3]
  have c5 : (PyData.tuple ds).weight ≤ 2 ^ 20 := by
    simp only [PyData.weight]
    omega
  refine ⟨c1, by omega, c3, Nat.le_trans (PyProof.Rows.shown_le13 ?_ c4) (by decide)⟩
  unfold PyData.layable0
  rw [c1, c2, decide_eq_true c5]
  rfl
theorem smd_list {ds : List PyData} (h : ∀ x ∈ ds, SmD x) (hl : ds.length ≤ 64) : (PyData.list ds).canLay0 = true ∧ (PyData.list ds).depth ≤ 100 ∧ (PyData.list ds).showable = true ∧ (PyData.list ds).shown.length ≤ sizeLine := by
  obtain ⟨b1, b2, b3, b4, b5⟩ := smd_all h
  have c1 : (PyData.list ds).canLay0 = true := by simp only [PyData.canLay0, b1]
  have c2 : (PyData.list ds).depth = 1 := by simp only [PyData.depth, b4]
  have c3 : (PyData.list ds).showable = true := by simp only [PyData.showable, b2]
  have c4 : (PyData.list ds).intsShort 13 = true := by simp only [PyData.intsShort, b3]
  have c5 : (PyData.list ds).weight ≤ 2 ^ 20 := by
    simp only [PyData.weight]
    omega
  refine ⟨c1, by omega, c3, Nat.le_trans (PyProof.Rows.shown_le13 ?_ c4) (by decide)⟩
  unfold PyData.layable0
  rw [c1, c2, decide_eq_true c5]
  rfl
abbrev s_oh_same : Stmt := top 23
/-- a list or a tuple of small flat things -/
def SmL (d : PyData) : Prop := ∃ ds, (d = .tuple ds ∨ d = .list ds) ∧ (∀ x ∈ ds, SmD x) ∧ ds.length ≤ 64
def spSame15 (K : PySem.W.Frag) : Sp := fun vs H Q _ => ∃ (a b : Addr) (d : PyData), vs = [.ref a, .ref b] ∧ Dp K H (.ref a) d ∧ Dp K H (.ref b) d ∧ SmL d ∧ Q (.bl true) H
section
variable {P : Program} {w : World} {K : PySem.W.Frag} {mg : Str → Option Value} {base : Heap} {tA BK BE HE : Addr}
theorem sc_oh_same : FnScope ["found", "due"] ["found", "due"] (defScope s_oh_same) := ⟨rfl, rfl, rfl, by decide +kernel, rfl, by decide +kernel, by decide +kernel⟩
theorem ok_oh_same {f : Addr} {fd : FuncData} (F : Fun K "_law_oh_same" "_law_oh_same" s_oh_same f fd) (zr : mg "repr" = none) : FnG P w K mg base CX0 1 f fd ["found", "due"] (spSame15 K) := by
  refine F.okG sc_oh_same (fun vs H Q E h => ?_) (fun cdv A outer s0 H vs Q E hr hgd h => ?_)
  · obtain ⟨a, b, d, rfl, _⟩ := h
    rfl
  · obtain ⟨a, b, d, rfl, ha, hb, ⟨ds, hds, hall, hlen⟩, q⟩ := h
    have sm : d.canLay0 = true ∧ d.depth ≤ 100 ∧ d.showable = true ∧ d.shown.length ≤ sizeLine := by
      rcases hds with rfl | rfl
      · exact smd_tup hall hlen
      · exact smd_list hall hlen
    obtain ⟨s1, s2, s3, s4⟩ := sm
    refine ⟨_, pss_one (ps_ret (by exact (pe_cmpR op_eq (by exact (pe_callB (call_reprD hr hgd) (by rfl) zr (by decide +kernel) (pa_cons (pv 0) pa_nil))) (by exact (pe_callB (call_reprD hr hgd) (by rfl) zr (by decide +kernel) (pa_cons (pv 1) pa_nil))) (nomark _)))), ?_⟩
    refine ⟨_, rfl, .inr ⟨a, d, rfl, ha, s1, s2, s3, s4, ?_⟩⟩
    refine ⟨_, rfl, .inr ⟨b, d, rfl, hb, s1, s2, s3, s4, ?_⟩⟩
    refine ⟨rfl, ?_⟩
    rw [decide_eq_true (rfl : V.str d.shown = V.str d.shown)]
    exact q
end
/-! ### which ends are the parts of which: by counting -/
theorem rowsOf_to (a r : Kd) (s : Bool) (b : Nat) : rowsOf (.to a r) s b = rowsOf a (!s) b ++ (inner r s (b + a.ends) ++ [(s, (b + a.ends - 1) :: partsFrom r (b + a.ends), .to a r)]) := by
  simp only [rowsOf, inner, partsFrom, List.append_assoc, List.cons_append, List.nil_append]
theorem pl_to (a r : Kd) (b : Nat) : pl (.to a r) b = pl a b ++ (ipl r (b + a.ends) ++ [(b + a.ends - 1) :: partsFrom r (b + a.ends)]) := by
  simp only [pl, ipl, partsFrom, List.append_assoc, List.cons_append, List.nil_append]
def has (i : Nat) (fs : List Nat) : Nat := if fs.contains i = true then 1 else 0
theorem has_cons (i x : Nat) (fs : List Nat) : has i (x :: fs) = if i = x then 1 else has i fs := by
  unfold has
  rw [List.contains_cons]
  by_cases h : i = x
  · subst h
    simp
  · rw [if_neg h]
    have : (i == x) = false := by simp [h]
    rw [this, Bool.false_or]
def tally (i : Nat) : List (List Nat) → Nat
  | [] => 0
  | fs :: t => has i fs + tally i t
theorem tally_app (i : Nat) : ∀ a b : List (List Nat), tally i (a ++ b) = tally i a + tally i b
  | [], b => (Nat.zero_add _).symm
  | fs :: t, b => by
    rw [List.cons_append, tally, tally_app i t b, tally]
    omega
theorem tally_pl (i : Nat) : ∀ (k : Kd) (b : Nat), tally i (pl k b) = if b ≤ i ∧ i + 1 < b + k.ends then 1 else 0
  | .text, b => by
    have e : tally i (pl .text b) = 0 := rfl
    rw [e, if_neg (by simp only [Kd.ends]; omega)]
  | .to a r, b => by
    have h1 := tally_pl i a b
    have h2 := tally_pl i r (b + a.ends)
    have h3 : tally i (pl r (b + a.ends)) = tally i (ipl r (b + a.ends)) + (has i (partsFrom r (b + a.ends)) + 0) := by
      rw [pl, tally_app]
      rfl
    have h4 : tally i [(b + a.ends - 1) :: partsFrom r (b + a.ends)] = (if i = b + a.ends - 1 then 1 else has i (partsFrom r (b + a.ends))) + 0 := by
      rw [← has_cons]
      rfl
    rw [pl_to, tally_app, tally_app, h1, h4]
    have p1 := a.ends_pos
    have p2 := r.ends_pos
    have e : (Kd.to a r).ends = a.ends + r.ends := rfl
    rw [e]
    rw [h3] at h2
    by_cases c1 : b ≤ i ∧ i + 1 < b + a.ends
    · rw [if_pos c1, if_neg (show ¬ i = b + a.ends - 1 by omega), if_pos (show b ≤ i ∧ i + 1 < b + (a.ends + r.ends) by omega)]
      rw [if_neg (show ¬ (b + a.ends ≤ i ∧ i + 1 < b + a.ends + r.ends) by omega)] at h2
      omega
    · rw [if_neg c1]
      by_cases c2 : i = b + a.ends - 1
      · rw [if_pos c2, if_pos (show b ≤ i ∧ i + 1 < b + (a.ends + r.ends) by omega)]
        rw [if_neg (show ¬ (b + a.ends ≤ i ∧ i + 1 < b + a.ends + r.ends) by omega)] at h2
        omega
      · rw [if_neg c2]
        by_cases c3 : b + a.ends ≤ i ∧ i + 1 < b + a.ends + r.ends
        · rw [if_pos c3] at h2
          rw [if_pos (show b ≤ i ∧ i + 1 < b + (a.ends + r.ends) by omega)]
          omega
        · rw [if_neg c3] at h2
          rw [if_neg (show ¬ (b ≤ i ∧ i + 1 < b + (a.ends + r.ends)) by omega)]
          omega
/-- the numbers, from b on, of those in which i is -/
def owns (i : Nat) : Nat → List (List Nat) → List Nat
  | _, [] => []
  | b, fs :: t => if fs.contains i = true then b :: owns i (b + 1) t else owns i (b + 1) t
theorem owns_len (i : Nat) : ∀ (b : Nat) (ls : List (List Nat)), (owns i b ls).length = tally i ls
  | _, [] => rfl
  | b, fs :: t => by
    have h := owns_len i (b + 1) t
    unfold owns tally has
    split
    · rw [List.length_cons, h]
      omega
    · rw [h]
      omega
theorem owns_snoc (i : Nat) : ∀ (b : Nat) (ls : List (List Nat)) (x : List Nat), owns i b (ls ++ [x]) = owns i b ls ++ if x.contains i = true then [b + ls.length] else []
  | b, [], x => by
    show (if x.contains i = true then [b] else []) = [] ++ _
    rfl
  | b, fs :: t, x => by
    have h := owns_snoc i (b + 1) t x
    have e : b + (fs :: t).length = b + 1 + t.length := by
      rw [List.length_cons]
      omega
    rw [List.cons_append, owns, h, owns, e]
    by_cases hc : fs.contains i = true
    · rw [if_pos hc, if_pos hc, List.cons_append]
    · rw [if_neg hc, if_neg hc]
theorem owns_lt (i : Nat) : ∀ (b : Nat) (ls : List (List Nat)), ∀ x ∈ owns i b ls, x < b + ls.length
  | _, [] => fun x h => nomatch h
  | b, fs :: t => fun x h => by
    have ih := owns_lt i (b + 1) t
    rw [List.length_cons]
    unfold owns at h
    split at h
    · rcases List.mem_cons.mp h with h | h
      · omega
      · have := ih x h
        omega
    · have := ih x h
      omega
theorem owner_owns (i : Nat) : ∀ (b : Nat) (rs : List Row), owner i b rs = (owns i b (rs.map (·.2.1))).head?
  | _, [] => rfl
  | b, r :: t => by
    have h := owner_owns i (b + 1) t
    rw [List.map_cons, owns, owner]
    split
    · rfl
    · exact h
theorem owns_some {k : Kd} {i : Nat} (h : i + 1 < k.ends) : ∃ j, owns i 0 (pl k 0) = [j] ∧ owner i 0 (rowsOf k true 0) = some j ∧ j < k.ends := by
  have h1 := owns_len i 0 (pl k 0)
  rw [tally_pl, if_pos (by omega)] at h1
  obtain ⟨j, hj⟩ := List.length_eq_one_iff.mp h1
  refine ⟨j, hj, ?_, ?_⟩
  · rw [owner_owns, pl_rows, hj]
    rfl
  · have := owns_lt i 0 (pl k 0) j (by rw [hj]; exact List.mem_singleton.mpr rfl)
    rw [pl_len] at this
    omega
theorem owns_none {k : Kd} {i : Nat} (h : ¬ i + 1 < k.ends) : owns i 0 (pl k 0) = [] ∧ owner i 0 (rowsOf k true 0) = none := by
  have h1 := owns_len i 0 (pl k 0)
  rw [tally_pl, if_neg (by omega)] at h1
  have h2 := List.length_eq_zero_iff.mp h1
  refine ⟨h2, ?_⟩
  rw [owner_owns, pl_rows, h2]
  rfl
theorem tally_pos {i : Nat} {fs : List Nat} (h : i ∈ fs) : ∀ {ls : List (List Nat)}, fs ∈ ls → 1 ≤ tally i ls
  | gs :: t, hm => by
    unfold tally
    rcases List.mem_cons.mp hm with rfl | hm
    · have : has i fs = 1 := by
        unfold has
        rw [if_pos (List.contains_iff_mem.mpr h)]
      omega
    · have := tally_pos h hm
      omega
theorem part_lt {k : Kd} {fs : List Nat} {i : Nat} (hf : fs ∈ pl k 0) (hi : i ∈ fs) : i + 1 < k.ends := by
  have h := tally_pos hi hf
  rw [tally_pl] at h
  split at h
  · rename_i c
    omega
  · omega
theorem partsFrom_len : ∀ (k : Kd) (b : Nat), (partsFrom k b).length < k.ends
  | .text, _ => Nat.lt_succ_self 0
  | .to a r, b => by
    have h := partsFrom_len r (b + a.ends)
    have := a.ends_pos
    simp only [partsFrom, List.length_cons, Kd.ends]
    omega
theorem ipl_lens : ∀ (k : Kd) (b : Nat), ∀ fs ∈ ipl k b, fs.length < k.ends
  | .text, _ => fun fs h => nomatch h
  | .to a r, b => fun fs h => by
    have p1 := a.ends_pos
    have p2 := r.ends_pos
    simp only [Kd.ends]
    rw [ipl] at h
    rcases List.mem_append.mp h with h | h
    · have := ipl_lens a b fs h
      omega
    · rcases List.mem_cons.mp h with rfl | h
      · have := partsFrom_len a b
        omega
      · have := ipl_lens r (b + a.ends) fs h
        omega
theorem pl_lens {k : Kd} {b : Nat} {fs : List Nat} (h : fs ∈ pl k b) : fs.length < k.ends := by
  rw [pl] at h
  rcases List.mem_append.mp h with h | h
  · exact ipl_lens k b fs h
  · rw [List.mem_singleton.mp h]
    exact partsFrom_len k b
/-! ### parts have the other sign -/
theorem rows_last (k : Kd) (s : Bool) (b : Nat) : (rowsOf k s b)[k.ends - 1]? = some (s, partsFrom k b, k) := by
  have h := inner_len k s b
  rw [rowsOf, List.getElem?_append_right (by omega), show k.ends - 1 - (inner k s b).length = 0 by omega]
  rfl
theorem signs_ok {SL : List Bool} : ∀ (k : Kd) (s : Bool) (b : Nat), (∀ (t : Nat) (r : Row), (rowsOf k s b)[t]? = some r → SL[b + t]? = some r.1) → ∀ r ∈ rowsOf k s b, ∀ i ∈ r.2.1, SL[i]? = some (!r.1)
  | .text, s, b, _ => fun r hr i hi => by
    have e : rowsOf .text s b = [(s, [], .text)] := rfl
    rw [e] at hr
    rw [List.mem_singleton.mp hr] at hi
    cases hi
  | .to a q, s, b, h => by
    have la := rowsOf_len a (!s) b
    have ha : ∀ (t : Nat) (r : Row), (rowsOf a (!s) b)[t]? = some r → SL[b + t]? = some r.1 := fun t r e => by
      have ht := (List.getElem?_eq_some_iff.mp e).1
      refine h t r ?_
      rw [rowsOf_to, List.getElem?_append_left ht]
      exact e
    have iq := inner_len q s (b + a.ends)
    have hq : ∀ (t : Nat) (r : Row), (rowsOf q s (b + a.ends))[t]? = some r → SL[b + a.ends + t]? = some r.1 := fun t r e => by
      have ht := (List.getElem?_eq_some_iff.mp e).1
      rw [rowsOf_len] at ht
      rw [rowsOf] at e
      by_cases c : t < (inner q s (b + a.ends)).length
      · rw [List.getElem?_append_left c] at e
        have := h (a.ends + t) r (by
          rw [rowsOf_to, List.getElem?_append_right (by omega), la, show a.ends + t - a.ends = t by omega, List.getElem?_append_left c]
          exact e)
        rw [show b + a.ends + t = b + (a.ends + t) by omega]
        exact this
      · rw [List.getElem?_append_right (by omega), show t - (inner q s (b + a.ends)).length = 0 by omega] at e
        cases e
        have := h (a.ends + t) (s, (b + a.ends - 1) :: partsFrom q (b + a.ends), .to a q) (by
          rw [rowsOf_to, List.getElem?_append_right (by omega), la, show a.ends + t - a.ends = t by omega, List.getElem?_append_right (by omega), show t - (inner q s (b + a.ends)).length = 0 by omega]
          rfl)
        rw [show b + a.ends + t = b + (a.ends + t) by omega]
        exact this
    have ra := signs_ok a (!s) b ha
    have rq := signs_ok q s (b + a.ends) hq
    intro r hr i hi
    rw [rowsOf_to] at hr
    rcases List.mem_append.mp hr with hr | hr
    · exact ra r hr i hi
    · rcases List.mem_append.mp hr with hr | hr
      · exact rq r (by rw [rowsOf]; exact List.mem_append_left _ hr) i hi
      · have e := List.mem_singleton.mp hr
        subst e
        rcases List.mem_cons.mp hi with hi | hi
        · have p := a.ends_pos
          have := ha (a.ends - 1) _ (rows_last a (!s) b)
          rw [hi, show b + a.ends - 1 = b + (a.ends - 1) by omega]
          exact this
        · exact rq (s, partsFrom q (b + a.ends), q) (by rw [rowsOf]; exact List.mem_append_right _ (List.mem_singleton.mpr rfl)) i hi
theorem sgs_at {k : Kd} {t : Nat} {r : Row} (h : (rowsOf k true 0)[t]? = some r) : (sgs k)[t]? = some r.1 := by
  have e := sgs_rows k true 0
  rw [if_pos rfl] at e
  rw [← e, List.getElem?_map, h]
  rfl
theorem signs_part {k : Kd} {t i : Nat} {r : Row} (h : (rowsOf k true 0)[t]? = some r) (hi : i ∈ r.2.1) : (sgs k)[i]? = some (!r.1) :=
  signs_ok (SL := sgs k) k true 0 (fun t r e => by rw [Nat.zero_add]; exact sgs_at e) r (List.mem_of_getElem? h) i hi
end My
set_option Elab.async false
set_option linter.all false
set_option maxRecDepth 100000
set_option maxHeartbeats 4000000
namespace My
open PySem L2 Kn
/-! ### what is asked of a def that is called -/
structure DefC (P : Program) (w : World) (K : PySem.W.Frag) (mg : Str → Option Value) (base : Heap) (CX : CXT) (k : Nat) (x : Str) (ps : List Str) (sp : Sp) (f : Addr) (fd : FuncData) : Prop where
  ok : FnOk P w K mg base CX k f fd ps sp
  gf : mg x = some (.ref f)
  kf : PySem.W.keepIn K (.ref f) = true
  bf : Binds K fd ps []
/-- called with keywords alone -/
def KwB (K : PySem.W.Frag) (fd : FuncData) (ps : List Str) : Prop := ∀ (s : Shared) (ws : List Value), K.In s.heap → ws.length = ps.length → BindsTo s fd ⟨[], ps.zip ws⟩ (ps.zip ws)
def nz (fs : List Nat) : List Int := fs.map Int.ofNat
theorem map_intV (fs : List Nat) : fs.map intV = (nz fs).map V.int := by
  unfold nz
  rw [List.map_map]
  rfl
theorem dpBls {K : PySem.W.Frag} {H : Hp} : ∀ bs : List Bool, DpAll K H (bs.map V.bl) (bs.map PyData.bool)
  | [] => .nil
  | b :: r => .cons (.bl b) (dpBls r)
theorem shaped_lay {d : PyData} (h : SeqAt.shaped d = true) : d.canLay0 = true := by
  unfold SeqAt.shaped at h
  exact (Bool.and_eq_true_iff.mp h).1
theorem smd_nz {fs : List Nat} (h : ∀ i ∈ fs, i < 64) : ∀ x ∈ (nz fs).map PyData.int, SmD x := fun x hx => by
  obtain ⟨z, hz, rfl⟩ := List.mem_map.mp hx
  obtain ⟨i, hi, rfl⟩ := List.mem_map.mp hz
  exact .inr (.inr ⟨i, h i hi, rfl⟩)
theorem smd_bls (bs : List Bool) : ∀ x ∈ bs.map PyData.bool, SmD x := fun x hx => by
  obtain ⟨b, _, rfl⟩ := List.mem_map.mp hx
  exact .inr (.inl ⟨b, rfl⟩)
theorem keys_pairs : ∀ (i : Nat) (ts : List Addr), ((pairsFrom i ts).map fun kv => kV kv.1) = (List.range' i ts.length).map intV
  | _, [] => rfl
  | i, t :: r => by
    rw [pairsFrom, List.map_cons, keys_pairs (i + 1) r, List.length_cons, List.range'_succ, List.map_cons]
    rfl
theorem rgV_nat (n : Nat) : rgV 0 (n : Int) = (List.range n).map intV := by
  unfold rgV
  rw [show ((n : Int) - 0).toNat = n by omega]
  refine List.map_congr_left fun i _ => ?_
  show V.int (0 + (i : Int)) = V.int (i : Int)
  rw [Int.zero_add]
/-! ### _law_k15_right -/
abbrev s_k15_right : Stmt := top 31
def spRight15 (K : PySem.W.Frag) : Sp := fun vs H Q _ => ∃ (v : V) (k : Kd), vs = [v] ∧ KdAt K H v k ∧ k.ends ≤ 60 ∧ ∀ H', Same H H' → Q (.bl true) H'
theorem told_get {K : PySem.W.Frag} {N : Addr → Prop} {H : Hp} : ∀ {ts : List Addr} {ls : List (List Nat)} {j : Nat} {t : Addr}, Told K H N ts ls → ts[j]? = some t → ∃ fs, ls[j]? = some fs ∧ ToldAt K H N t fs
  | _, _, j, t, .nil, h => by simp at h
  | _, _, 0, t, .cons a _, h => by
    cases h
    exact ⟨_, rfl, a⟩
  | _, _, j + 1, t, .cons _ q, h => by
    obtain ⟨r, h1, h2⟩ := told_get (j := j) q (by simpa using h)
    exact ⟨r, by simpa using h1, h2⟩
section
variable {P : Program} {w : World} {K : PySem.W.Frag} {mg : Str → Option Value} {base : Heap} {tA BK BE HE : Addr}
theorem sc_k15_right : FnScope ["kind", "due", "told", "asked", "end", "owners", "one", "part"] ["kind"] (defScope s_k15_right) := ⟨rfl, rfl, rfl, by decide +kernel, rfl, by decide +kernel, by decide +kernel⟩
def tBool1 (t : TE) : TE := tCB (fun xs H Q => (∃ i, xs = [.int i] ∧ Q (.bl (i != 0)) H) ∨ ∃ k, xs = [.bl k] ∧ Q (.bl k) H) (tCons t tNil)
theorem ok_k15_right {f f1 f2 f3 f4 f5 f6 : Addr} {fd fd1 fd2 fd3 fd4 fd5 fd6 : FuncData} (F : Fun K "_law_k15_right" "_law_k15_right" s_k15_right f fd)
    (zb : mg "bool" = none) (zt : mg "tuple" = none) (zl : mg "list" = none) (zr : mg "range" = none) (zn : mg "len" = none)
    (D1 : DefC P w K mg base CX0 60 "_law_hd_signs" ["kind"] (spSigns K 60) f1 fd1)
    (D2 : DefC P w K mg base CX0 61 "_law_hd_parts" ["kind", "first", "found"] (spHParts K 60) f2 fd2)
    (D3 : DefC P w K mg base (L2.CX P w) 62 "parts" ["kind"] (spTell BK K (gParts K)) f3 fd3) (w3 : KwB K fd3 ["kind"])
    (D4 : DefC P w K mg base (L2.CX P w) 62 "signs" ["kind"] (spTell BK K (gSigns K)) f4 fd4) (w4 : KwB K fd4 ["kind"])
    (D5 : DefC P w K mg base (L2.CX P w) 63 "keeper" ["kind", "end"] (spKeeper BK BE K) f5 fd5) (w5 : KwB K fd5 ["kind", "end"])
    (G6 : FnG P w K mg base CX0 1 f6 fd6 ["found", "due"] (spSame15 K)) (g6 : mg "_law_oh_same" = some (.ref f6)) (k6 : PySem.W.keepIn K (.ref f6) = true) (b6 : Binds K fd6 ["found", "due"] []) :
    FnG P w K mg base CX0 64 f fd ["kind"] (spRight15 K) := by
  refine F.okG sc_k15_right (fun vs H Q E h => ?_) (fun cdv A outer s0 H vs Q E hr hgd h => ?_)
  · obtain ⟨v, k, rfl, _⟩ := h
    rfl
  · obtain ⟨v, k, rfl, hk, h60, cont⟩ := h
    have hu := hu_of hr
    have r60 : Room 60 _ := hr.mono (by decide)
    have r61 : Room 61 _ := hr.mono (by decide)
    have r62 : Room 62 _ := hr.mono (by decide)
    have r1 : Room 1 _ := hr.mono (by decide)
    refine ⟨_, pss_cons (ps_set (i := 1) sc_k15_right.nd rfl (Or.inr rfl) (by exact (pe_lc (own := [("one", 6)]) (g := gName 6) (te := tBool1 (tVar 6)) rfl sc_k15_right.nd (pi_list (pe_call D1.ok r60 rfl D1.gf D1.kf D1.bf .nil pass0 (pa_cons (pv 0) pa_nil)))
        (blkOk_by (own := [("one", 6)]) (N := ["kind", "due", "told", "asked", "end", "owners", "one", "part"]) (sc := defScope s_k15_right) (by decide +kernel)) (fun _ _ _ _ _ => pg_name (i := 6) sc_k15_right.nd rfl (Or.inl rfl)) (fun _ _ _ _ _ => pts_nil)
        (fun _ _ _ _ _ => by exact pe_callTy call_bool1 (by rfl) zb (by decide +kernel) (pa_cons (pv 6) pa_nil)))))
      (pss_cons (ps_asg (pe_tup (pa_cons (by exact (pe_call D2.ok r61 rfl D2.gf D2.kf D2.bf .nil pass0 (pa_cons (pv 0) (pa_cons pe_int (pa_cons pe_dnewK pa_nil)))))
          (pa_cons (by exact (pe_callW (ks := ["kind"]) (g := fun ws => ws) (gV := fun zs => zs) D3.ok r62 rfl D3.gf D3.kf (passes_call LamX.takes0 (fun _ _ _ _ h => h)) (pk_cons (pv 0) pk_nil) w3 (fun r => r))) pa_nil)))
          (pg_tup rfl (pgs_cons (pg_name (i := 2) sc_k15_right.nd rfl (Or.inl rfl)) (pgs_cons (pg_name (i := 3) sc_k15_right.nd rfl (Or.inr rfl)) pgs_nil))))
      (pss_cons (ps_if (PW.pt (pw_or (pt_not (pt_val (by exact (pe_callG G6 r1 hgd rfl g6 k6 b6 pass0 (pa_cons (by exact (pe_callW (ks := ["kind"]) (g := fun ws => ws) (gV := fun zs => zs) D4.ok r62 rfl D4.gf D4.kf (passes_call LamX.takes0 (fun _ _ _ _ h => h)) (pk_cons (pv 0) pk_nil) w4 (fun r => r)))
            (pa_cons (by exact (pe_callTy call_tuple_of (by rfl) zt (by decide +kernel) (pa_cons (pv 1) pa_nil))) pa_nil))))))
          (pw_or1 (pt_cmpR (op_neD hr.units) (by exact (pe_callTy (call_list_dK rfl) (by rfl) zl (by decide +kernel) (pa_cons (pv 3) pa_nil)))
            (by exact (pe_listRg rfl rfl zl (prg_1 rfl zr (by exact (pe_callB call_len (by rfl) zn (by decide +kernel) (pa_cons (pv 1) pa_nil)))))) (nomark _)))))
        (pss_one (ps_ret pe_bl)) pss_nil)
      (pss_cons (ps_for PassesOwn.never rfl (pi_range1 (by rfl) zr (pa_cons (by exact (pe_callB call_len (by rfl) zn (by decide +kernel) (pa_cons (pv 1) pa_nil))) pa_nil)) (pg_name (i := 4) sc_k15_right.nd rfl (Or.inr rfl))
        (pss_cons (ps_if (PW.pt (pw_or (pt_not (pt_val (by exact (pe_callG G6 r1 hgd rfl g6 k6 b6 pass0 (pa_cons (by exact (pe_dget hu (pv 3) (pv 4) (fun _ _ => rfl)))
              (pa_cons (by exact (pe_callTy call_tuple_of (by rfl) zt (by decide +kernel) (pa_cons (by exact (pe_ix ix_tup (pe_dget hu (pv 2) (pv 4) (fun _ _ => rfl)) pe_int (fun _ _ => rfl))) pa_nil))) pa_nil))))))
            (pw_or1 (pt_cmpR (op_neD hr.units) (by exact (pe_lc (own := [("part", 7)]) (g := gName 7) (tt := tTest (tOp rEq (tOp (rIxL K) (tVar 1) (tVar 7)) (tOp (rIxL K) (tVar 1) (tVar 4)))) (te := tC (.int 1)) rfl sc_k15_right.nd (pi_tup (pe_dget hu (pv 3) (pv 4) (fun _ _ => rfl)))
              (blkOk_by (own := [("part", 7)]) (N := ["kind", "due", "told", "asked", "end", "owners", "one", "part"]) (sc := defScope s_k15_right) (by decide +kernel)) (fun _ _ _ _ _ => pg_name (i := 7) sc_k15_right.nd rfl (Or.inl rfl))
              (fun _ _ _ _ _ => pts_one (pt_cmpR op_eq (by exact (pe_ix ix_list (pv 1) (pv 7) (fun _ _ => rfl))) (by exact (pe_ix ix_list (pv 1) (pv 4) (fun _ _ => rfl))) (nomark _))) (fun _ _ _ _ _ => pe_int))) (by exact (pe_lst pa_nil)) (nomark _)))))
          (pss_one (ps_ret pe_bl)) pss_nil)
        (pss_cons (ps_lock (ps_setLc (i := 5) (own := [("one", 6)]) (g := gName 6) (tt := tTest (tOp (rIn K false) (tVar 4) (tDGet (tVar 3) (tVar 6)))) (te := tVar 6) rfl sc_k15_right.nd rfl rfl (sw_true rfl rfl rfl (by decide +kernel)) (pi_keys (pv 3))
            (blkOk_by (own := [("one", 6)]) (N := ["kind", "due", "told", "asked", "end", "owners", "one", "part"]) (sc := defScope s_k15_right) (by decide +kernel)) (fun _ _ _ _ _ => pg_name (i := 6) sc_k15_right.nd rfl (Or.inl rfl))
            (fun _ _ _ _ _ => pts_one (pt_cmpR op_in_seq (pv 4) (by exact (pe_dget hu (pv 3) (pv 6) (fun _ _ => rfl))) (by with_unfolding_all rfl))) (fun _ _ _ _ _ => pv 6)))
        (pss_one (ps_if (PW.pt (pw_or (pt_not (pt_val (by exact (pe_callG G6 r1 hgd rfl g6 k6 b6 pass0 (pa_cons (by exact (pe_lst (pa_cons (by exact (pe_callW (ks := ["kind", "end"]) (g := fun ws => ws) (gV := fun zs => zs) D5.ok (hr.mono (by decide)) rfl D5.gf D5.kf (passes_call LamX.takes0 (fun _ _ _ _ h => h)) (pk_cons (pv 0) (pk_cons (pv 4) pk_nil)) w5 (fun r => r))) pa_nil)))
              (pa_cons (by exact (pe_ifExp (pt_cmpR op_lt (pv 4) (pe_op op_sub (by exact (pe_callB call_len (by rfl) zn (by decide +kernel) (pa_cons (pv 1) pa_nil))) pe_int) (nomark _)) (pv 5) (pe_lst (pa_cons pe_non pa_nil)))) pa_nil))))))
            (pw_or1 (pt_cmpR op_gt (by exact (pe_callB call_len (by rfl) zn (by decide +kernel) (pa_cons (pv 5) pa_nil))) pe_int (nomark _)))))
          (pss_one (ps_ret pe_bl)) pss_nil)))))
      (pss_cons (ps_expr (pe_dclear (pv 3)))
      (pss_one (ps_ret (by exact (pe_cmpR op_eq (by exact (pe_callB call_lenD (by rfl) zn (by decide +kernel) (pa_cons (by exact (pe_call D3.ok r62 rfl D3.gf D3.kf D3.bf .nil (passes_call LamX.takes0 (fun _ _ _ _ h => h)) (pa_cons (pv 0) pa_nil))) pa_nil)))
        (by exact (pe_callB call_len (by rfl) zn (by decide +kernel) (pa_cons (pv 1) pa_nil))) (nomark _))))))))), ?_⟩
    have uniq : ∀ k' : Kd, k.data = k'.data → k' = k := fun k' e => by
      have h1 := parse_data k
      rw [e, parse_data] at h1
      exact Option.some.inj h1
    have kk : ∀ {H' : Hp}, Same H H' → KdAt K H' v k := fun {H'} S => hk.same (SameT.of S)
    have okk : OkD k.data := okD_kind (by omega)
    have isk : isKd k.data = true := by
      rw [isKd_data]
      exact decide_eq_true h60
    have nok : ∀ {X : Prop}, isKd k.data = false → X := fun {X} e => by
      rw [isk] at e
      cases e
    have hnn : (sgs k).length = k.ends := sgs_len k
    -- due
    refine ⟨_, rfl, v, k, rfl, hk, by show k.deep ≤ 60; have := k.deep_ends; omega, h60, fun H1 l1 S1 n1 hl1 => ⟨l1, rfl, ⟨_, SqL.of hl1⟩, fun D hD => ?_⟩⟩
    refine lc_list (K := K) (a := l1) (xs := (sgs k).map V.bl) (fun i H' => H' = upd H1 D (.lst (((sgs k).take i).map V.bl))) rfl (fun i H' _ e => by subst e; exact (same_new hD).seq (SqL.of hl1)) ?_ ?_
    · rintro i x H' hx rfl
      rw [List.getElem?_map] at hx
      obtain ⟨r, hri, rfl⟩ := Option.map_eq_some_iff.mp hx
      refine ⟨rfl, ?_⟩
      dsimp only [tYes]
      refine iteT ?_
      refine ⟨_, rfl, .inr ⟨_, rfl, _, upd_same, ?_, ?_⟩⟩
      · have hi := (List.getElem?_eq_some_iff.mp hri).1
        rw [List.length_map, List.length_take]
        exact small1000 (by omega)
      · rw [upd_upd, take_snoc _ hri]
    rintro H' rfl
    have SH2 : Same H (upd H1 D (.lst (((sgs k).take ((sgs k).map V.bl).length).map V.bl))) := S1.trans (same_new hD)
    have hD2 : (upd H1 D (.lst (((sgs k).take ((sgs k).map V.bl).length).map V.bl))) D = some (.lst ((sgs k).map V.bl)) := by
      rw [upd_same, List.length_map, List.take_length]
    have nD : H D = none := none_of_same S1 hD
    revert SH2 hD2
    generalize upd H1 D (.lst (((sgs k).take ((sgs k).map V.bl).length).map V.bl)) = H2
    intro SH2 hD2
    -- told, asked
    refine ⟨_, rfl, fun d hd => ⟨v, k, d, [], rfl, kk (SH2.trans (same_new hd)), by show k.deep ≤ 60; have := k.deep_ends; omega, by show 0 + k.ends ≤ 60; omega, upd_same, fun H3 ts1 B3 hT3 ht3 => ?_⟩⟩
    have nd : H d = none := none_of_same SH2 hd
    have SH3 : Same H H3 := fun b o e => B3 _ _ ((same_new hd) _ _ (SH2 _ _ e)) (ne_of_none e nd)
    have hD3 : H3 D = some (.lst ((sgs k).map V.bl)) := B3 _ _ ((same_new hd) _ _ hD2) (ne_of_none hD2 hd)
    refine ⟨_, rfl, rfl, v, k.data, rfl, (kk SH3).dp, okk, fun k' ek _ => ?_, nok⟩
    obtain rfl := uniq k' ek
    intro H4 DA ts2 S4 nDA hDA4 hp4
    refine ⟨by show 2 ≤ sizeLine; decide, fun p hp => ⟨p, _, rfl, .inl (.inl upd_same), rfl, _, _, rfl, ?_⟩⟩
    refine ⟨_, _, rfl, ?_⟩
    refine ⟨rfl, ?_⟩
    have S45 := (same_new hp : Same H4 (upd H4 p (.tup [.ref d, .ref DA])))
    have SH5 : Same H (upd H4 p (.tup [.ref d, .ref DA])) := SH3.trans (S4.trans S45)
    have hD5 : (upd H4 p (.tup [.ref d, .ref DA])) D = some (.lst ((sgs k').map V.bl)) := S45 _ _ (S4 _ _ hD3)
    have hT5 : (upd H4 p (.tup [.ref d, .ref DA])) d = some (.dK (pairsFrom 0 ts1)) := S45 _ _ (S4 _ _ hT3)
    have hA5 : (upd H4 p (.tup [.ref d, .ref DA])) DA = some (.dK (pairsFrom 0 ts2)) := S45 _ _ hDA4
    have hp5 : PtsAt K (upd H4 p (.tup [.ref d, .ref DA])) ts2 (rowsOf k' true 0) := hp4.same S45
    have nA : H DA = none := none_of_same SH3 nDA
    have ht5 : Told K (upd H4 p (.tup [.ref d, .ref DA])) (fun _ => True) ts1 (pl k' 0) := Told.mono (fun _ _ => True.intro) (Told.keep (D := d) (But.of (S4.trans S45)) hT3 ht3)
    revert SH5 hD5 hT5 hA5 hp5 ht5
    generalize upd H4 p (.tup [.ref d, .ref DA]) = H5
    intro SH5 hD5 hT5 hA5 hp5 ht5
    have len2 : ts2.length = k'.ends := by rw [hp5.len, rowsOf_len]
    have len1 : ts1.length = k'.ends := by rw [ht5.len, pl_len]
    -- signs, the order of the ends
    refine ⟨_, rfl, rfl, v, k'.data, rfl, (kk SH5).dp, okk, fun k2 ek2 _ => ?_, nok⟩
    obtain rfl := uniq k2 ek2
    intro H6 t6 S6 ht6
    have er : ((rowsOf k2 true 0).map fun r => V.bl r.1) = (sgs k2).map V.bl := by
      have e := sgs_rows k2 true 0
      rw [if_pos rfl] at e
      rw [← e, List.map_map]
      rfl
    rw [er] at ht6
    refine ⟨_, rfl, D, _, rfl, .inl ⟨SqL.of (S6 _ _ hD5), fun t7 ht7 => ?_⟩⟩
    have S7 := (same_new ht7 : Same H6 (upd H6 t7 (.tup ((sgs k2).map V.bl))))
    refine ⟨t6, t7, .tuple ((sgs k2).map PyData.bool), rfl, .tup (seqT_same S7 ht6) (dpBls _), .tup (.inl (.inl upd_same)) (dpBls _), ⟨_, .inl rfl, smd_bls _, by rw [List.length_map]; omega⟩, ?_⟩
    have SH7 : Same H5 (upd H6 t7 (.tup ((sgs k2).map V.bl))) := S6.trans S7
    revert SH7
    generalize upd H6 t7 (.tup ((sgs k2).map V.bl)) = H7
    intro SH7
    refine ⟨_, rfl, ?_⟩
    refine iteF ?_
    refine ⟨_, rfl, DA, _, rfl, SH7 _ _ hA5, fun q hq => ?_⟩
    have S8 := (same_new hq : Same H7 (upd H7 q (.lst ((pairsFrom 0 ts2).map fun kv => kV kv.1))))
    refine ⟨_, rfl, _, _, rfl, .inl ⟨_, SqL.of (S8 _ _ (SH7 _ _ hD5)), rfl⟩, _, rfl, RgOk.of_le (by decide) (by rw [List.length_map]; omega) (by decide) (by omega), fun q2 hq2 => ?_⟩
    have S9 := (same_new hq2 : Same _ (upd (upd H7 q (.lst ((pairsFrom 0 ts2).map fun kv => kV kv.1))) q2 (.lst (rgV 0 (((sgs k2).map V.bl).length : Nat)))))
    have eK : ((pairsFrom 0 ts2).map fun kv => kV kv.1) = (nz (List.range k2.ends)).map V.int := by
      rw [keys_pairs, len2, ← map_intV, List.range_eq_range']
    have eR : rgV 0 (((sgs k2).map V.bl).length : Nat) = (nz (List.range k2.ends)).map V.int := by
      rw [rgV_nat, List.length_map, hnn, ← map_intV]
    refine ⟨.list ((nz (List.range k2.ends)).map PyData.int), .list ((nz (List.range k2.ends)).map PyData.int), .lst (SqL.of (by rw [S9 _ _ upd_same, eK])) (dpInts K _ _), .lst (SqL.of (by rw [upd_same, eR])) (dpInts K _ _), shaped_ints _, shaped_ints _, _, rfl, ?_⟩
    rw [SeqAt.eqv_refl _ (shaped_lay (shaped_ints _))]
    refine iteF ?_
    have SHA : Same H5 (upd (upd H7 q (.lst ((pairsFrom 0 ts2).map fun kv => kV kv.1))) q2 (.lst (rgV 0 (((sgs k2).map V.bl).length : Nat)))) := SH7.trans (S8.trans S9)
    revert SHA
    generalize upd (upd H7 q (.lst ((pairsFrom 0 ts2).map fun kv => kV kv.1))) q2 (.lst (rgV 0 (((sgs k2).map V.bl).length : Nat))) = HA
    intro SHA
    -- for end in range(len(due))
    refine ⟨_, rfl, _, _, rfl, .inl ⟨_, SqL.of (SHA _ _ hD5), rfl⟩, _, rfl, by omega, by rw [List.length_map]; omega, ?_⟩
    refine for_it (walk_range (lo := 0) (n := _)) (fun i σ H' => ∃ o4 o5, σ = [some v, some (.ref D), some (.ref d), some (.ref DA), o4, o5, none, none] ∧ Same H5 H') ⟨none, none, rfl, SHA⟩ (fun _ _ _ _ _ => True.intro) ?_ ?_
    · rintro i x σ HB HB' hi ⟨o4, o5, rfl, SB⟩ ⟨rfl, e2⟩
      have hi : i < k2.ends := by
        rw [List.length_map, hnn] at hi
        simpa using hi
      have ex : x = intV i := by
        rw [e2]
        show V.int (0 + (i : Int)) = V.int (i : Int)
        rw [Int.zero_add]
      subst ex
      obtain ⟨r, hr1⟩ : ∃ r, (rowsOf k2 true 0)[i]? = some r := ⟨_, List.getElem?_eq_getElem (by rw [rowsOf_len]; exact hi)⟩
      have hfs : (pl k2 0)[i]? = some r.2.1 := by
        rw [← pl_rows k2 true 0, List.getElem?_map, hr1]
        rfl
      have hmem : r.2.1 ∈ pl k2 0 := List.mem_of_getElem? hfs
      obtain ⟨t, ht⟩ : ∃ t, ts2[i]? = some t := ⟨_, List.getElem?_eq_getElem (by omega)⟩
      obtain ⟨r', hr2, htt⟩ := hp5.get ht
      rw [hr1] at hr2
      cases hr2
      obtain ⟨t1, ht1⟩ : ∃ t, ts1[i]? = some t := ⟨_, List.getElem?_eq_getElem (by omega)⟩
      obtain ⟨fs, hfs2, l, wv, hl1, hl2, _⟩ := told_get ht5 ht1
      rw [hfs] at hfs2
      cases hfs2
      have g2 : valV (pairsFrom 0 ts2) (.inl (i : Int)) = some (.ref t) := by
        have := pairs_some 0 ts2 i t ht
        rwa [Nat.zero_add] at this
      have g1 : valV (pairsFrom 0 ts1) (.inl (i : Int)) = some (.ref t1) := by
        have := pairs_some 0 ts1 i t1 ht1
        rwa [Nat.zero_add] at this
      have dg2 : ∀ {H' : Hp}, Same H5 H' → DGet H' DA (intV i) (some (.ref t)) := fun {H'} S => by
        rw [← g2]
        exact DGet.k (k := .inl (i : Int)) (S _ _ hA5)
      have dg1 : ∀ {H' : Hp}, Same H5 H' → DGet H' d (intV i) (some (.ref t1)) := fun {H'} S => by
        rw [← g1]
        exact DGet.k (k := .inl (i : Int)) (S _ _ hT5)
      have sm64 : ∀ j ∈ r.2.1, j < 64 := fun j hj => by
        have := part_lt hmem hj
        omega
      have sl64 : ((nz r.2.1).map PyData.int).length ≤ 64 := by
        have := pl_lens hmem
        rw [List.length_map]
        unfold nz
        rw [List.length_map]
        omega
      have dpt : ∀ {H' : Hp} {a : Addr}, SqT K H' a (r.2.1.map intV) → Dp K H' (.ref a) (.tuple ((nz r.2.1).map PyData.int)) := fun {H' a} h => by
        rw [map_intV] at h
        exact .tup h (dpInts K _ _)
      -- the parts are those told
      refine ⟨_, rfl, _, rfl, DA, _, rfl, dg2 SB, ?_⟩
      refine ⟨_, rfl, _, rfl, d, _, rfl, dg1 SB, t1, _, _, .ref l, rfl, rfl, seqT_same SB hl1, atI_nat (j := 0) rfl, l, _, rfl, .inl ⟨SqL.of (SB _ _ hl2), fun t3 ht3 => ?_⟩⟩
      have SC := SB.trans (same_new ht3 : Same HB' (upd HB' t3 (.tup (r.2.1.map intV))))
      refine ⟨t, t3, .tuple ((nz r.2.1).map PyData.int), rfl, dpt (seqT_same SC htt), dpt (.inl (.inl upd_same)), ⟨_, .inl rfl, smd_nz sm64, sl64⟩, ?_⟩
      revert SC
      generalize upd HB' t3 (.tup (r.2.1.map intV)) = HC
      intro SC
      refine ⟨_, rfl, ?_⟩
      refine iteF ?_
      -- they have the other sign
      refine ⟨_, rfl, _, rfl, DA, _, rfl, dg2 SC, t, rfl, ⟨_, seqT_same SC htt⟩, fun L hL => ?_⟩
      have SD := SC.trans (same_new hL : Same HC (upd HC L (.lst [])))
      refine lc_tup (K := K) (a := t) (xs := r.2.1.map intV) (fun j H' => H' = upd HC L (.lst [])) rfl (fun j H' _ e => by subst e; exact seqT_same SD htt) ?_ ?_
      · rintro j x H' hx rfl
        rw [List.getElem?_map] at hx
        obtain ⟨m, hm, rfl⟩ := Option.map_eq_some_iff.mp hx
        have b1 : ((sgs k2).map V.bl)[m]? = some (.bl (!r.1)) := by
          rw [List.getElem?_map, signs_part hr1 (List.mem_of_getElem? hm)]
          rfl
        have b2 : ((sgs k2).map V.bl)[i]? = some (.bl r.1) := by
          rw [List.getElem?_map, sgs_at hr1]
          rfl
        refine ⟨rfl, ?_⟩
        refine ⟨_, rfl, _, rfl, D, _, _, _, rfl, rfl, SqL.of (SD _ _ hD5), atI_nat (j := m) b1, _, rfl, _, rfl, D, _, _, _, rfl, rfl, SqL.of (SD _ _ hD5), atI_nat (j := i) b2, ?_⟩
        refine ⟨rfl, _, rfl, iteBF (decide_eq_false fun e => ?_) rfl⟩
        have e := V.bl.inj e
        generalize r.1 = bb at e
        cases bb <;> cases e
      rintro H' rfl
      refine ⟨Nat.zero_le _, fun L2 hL2 => ⟨.list [], .list [], .lst (SqL.of ((same_new hL2) _ _ upd_same)) .nil, .lst (SqL.of upd_same) .nil, by decide, by decide, _, rfl, ?_⟩⟩
      refine iteF ?_
      have SE := SD.trans (same_new hL2 : Same (upd HC L (.lst [])) (upd (upd HC L (.lst [])) L2 (.lst [])))
      revert SE
      generalize upd (upd HC L (.lst [])) L2 (.lst []) = HE1
      intro SE
      -- owners
      refine ⟨DA, .dK (pairsFrom 0 ts2), SE _ _ hA5, True.intro, fun od => ?_⟩
      refine ⟨_, rfl, DA, od, rfl, .inl ⟨pairsFrom 0 ts2, upd_same, fun L3 hL3 => ?_⟩⟩
      have nLA : L3 ≠ DA := by
        rintro rfl
        rw [upd_same] at hL3
        cases hL3
      have hL3' : HE1 L3 = none := by
        rw [upd_ne nLA] at hL3
        exact hL3
      have lockT : ∀ {H' : Hp}, H' = upd HE1 DA (.frz od (.dK (pairsFrom 0 ts2))) → SameT HE1 H' := fun {H'} e => by
        subst e
        exact tups_dK (SE _ _ hA5)
      refine lc_it walk_keys (fun j H' => H' = upd (upd HE1 DA (.frz od (.dK (pairsFrom 0 ts2)))) L3 (.lst ((owns i 0 ((pl k2 0).take j)).map intV))) rfl (fun _ _ _ e => by subst e; rw [upd_ne nLA.symm]; exact upd_same) ?_ ?_
      · rintro j x H' H'' hj rfl ⟨rfl, k', v', e1, rfl⟩
        obtain ⟨tj, e2, rfl, rfl⟩ := pairs_get 0 ts2 j k' v' e1
        obtain ⟨rj, e3, e4⟩ := hp5.get e2
        have e5 : (pl k2 0)[j]? = some rj.2.1 := by
          rw [← pl_rows k2 true 0, List.getElem?_map, e3]
          rfl
        have hj2 : j < k2.ends := by
          rw [pairs_len, len2] at hj
          exact hj
        have g3 : valV (pairsFrom 0 ts2) (.inl ((0 + j : Nat) : Int)) = some (.ref tj) := pairs_some 0 ts2 j tj e2
        have hAf : (upd (upd HE1 DA (.frz od (.dK (pairsFrom 0 ts2)))) L3 (.lst ((owns i 0 ((pl k2 0).take j)).map intV))) DA = some (.frz od (.dK (pairsFrom 0 ts2))) := by
          rw [upd_ne nLA.symm]
          exact upd_same
        have eT : SqT K (upd (upd HE1 DA (.frz od (.dK (pairsFrom 0 ts2)))) L3 (.lst ((owns i 0 ((pl k2 0).take j)).map intV))) tj (rj.2.1.map intV) :=
          seqT_same (same_new (by rw [upd_ne nLA]; exact hL3')) (sameT_sq (lockT rfl) (seqT_same SE e4))
        refine ⟨rfl, ?_⟩
        refine ⟨_, rfl, _, rfl, _, rfl, DA, .ref tj, rfl, .inl ⟨pairsFrom 0 ts2, .inl ((0 + j : Nat) : Int), .inr ⟨od, hAf⟩, rfl, g3.symm⟩, ?_⟩
        refine ⟨tj, _, rfl, .inr eT, rfl, flat_intV _, rj.2.1.contains i, congrArg V.bl (any_intV i rj.2.1), ?_⟩
        have es := owns_snoc i 0 ((pl k2 0).take j) rj.2.1
        have et : (pl k2 0).take (j + 1) = (pl k2 0).take j ++ [rj.2.1] := by
          rw [List.take_add_one, e5]
          rfl
        have el : ((pl k2 0).take j).length = j := by
          rw [List.length_take, pl_len]
          omega
        rw [← et, el] at es
        cases hc : rj.2.1.contains i with
        | true =>
          rw [hc, if_pos rfl] at es
          refine iteT ?_
          refine ⟨_, rfl, _, upd_same, ?_, ?_⟩
          · have h1 := owns_len i 0 ((pl k2 0).take j)
            have h2 := owns_len i 0 (pl k2 0)
            rw [tally_pl] at h2
            rw [List.length_map, h1]
            have h3 : tally i ((pl k2 0).take j) ≤ tally i (pl k2 0) := by
              have := tally_app i ((pl k2 0).take j) ((pl k2 0).drop j)
              rw [List.take_append_drop] at this
              omega
            have h4 : tally i (pl k2 0) ≤ 1 := by
              rw [tally_pl]
              split <;> omega
            exact small1000 (by omega)
          · rw [upd_upd, es, List.map_append]
            rfl
        | false =>
          rw [hc, if_neg (by decide), List.append_nil] at es
          refine iteF ?_
          rw [es]
      rintro H' rfl
      have hLf : (upd (upd HE1 DA (.frz od (.dK (pairsFrom 0 ts2)))) L3 (.lst ((owns i 0 ((pl k2 0).take (pairsFrom 0 ts2).length)).map intV))) DA = some (.frz od (.dK (pairsFrom 0 ts2))) := by
        rw [upd_ne nLA.symm]
        exact upd_same
      have eAll : (pl k2 0).take (pairsFrom 0 ts2).length = pl k2 0 := by
        rw [pairs_len, len2, ← pl_len k2 0, List.take_length]
      rw [eAll] at hLf ⊢
      refine ⟨hLf, ?_⟩
      have SF : Same HE1 (upd (upd (upd HE1 DA (.frz od (.dK (pairsFrom 0 ts2)))) L3 (.lst ((owns i 0 (pl k2 0)).map intV))) DA (.dK (pairsFrom 0 ts2))) := fun b o e => by
        by_cases hb : b = DA
        · subst hb
          rw [upd_same, ← e]
          exact (SE _ _ hA5).symm
        · rw [upd_ne hb, upd_ne (ne_of_none e hL3'), upd_ne hb]
          exact e
      have hOw : (upd (upd (upd HE1 DA (.frz od (.dK (pairsFrom 0 ts2)))) L3 (.lst ((owns i 0 (pl k2 0)).map intV))) DA (.dK (pairsFrom 0 ts2))) L3 = some (.lst ((owns i 0 (pl k2 0)).map intV)) := by
        rw [upd_ne nLA]
        exact upd_same
      have SF5 := SE.trans SF
      revert SF5 hOw
      generalize (upd (upd (upd HE1 DA (.frz od (.dK (pairsFrom 0 ts2)))) L3 (.lst ((owns i 0 (pl k2 0)).map intV))) DA (.dK (pairsFrom 0 ts2))) = HF
      intro hOw SF5
      -- keeper
      have SHF : Same H HF := SH5.trans SF5
      refine ⟨_, rfl, _, rfl, rfl, v, intV i, k2.data, .int (i : Int), rfl, (kk SHF).dp, okk, .int _, fun k3 ek3 _ => ⟨fun i' ei hi' HG SG => ?_, fun hh => absurd (hh i rfl) (by obtain rfl := uniq k3 ek3; omega)⟩, nok⟩
      obtain rfl := uniq k3 ek3
      have ei : (i : Int) = (i' : Int) := by injection ei
      have ei : i = i' := by omega
      subst ei
      refine ⟨by show 1 ≤ sizeLine; decide, fun L4 hL4 => ?_⟩
      have SI := SF5.trans (SG.trans (same_new hL4 : Same HG (upd HG L4 (.lst [gKeep k3 i]))))
      have hL4' : (upd HG L4 (.lst [gKeep k3 i])) L4 = some (.lst [gKeep k3 i]) := upd_same
      have hOwI : (upd HG L4 (.lst [gKeep k3 i])) L3 = some (.lst ((owns i 0 (pl k3 0)).map intV)) := (same_new hL4) _ _ (SG _ _ hOw)
      revert SI hL4' hOwI
      generalize upd HG L4 (.lst [gKeep k3 i]) = HI
      intro SI hL4' hOwI
      refine ⟨_, rfl, _, rfl, _, _, rfl, .inl ⟨_, SqL.of (SI _ _ hD5), rfl⟩, _, _, rfl, rfl, _, _, rfl, rfl, _, rfl, ?_⟩

      have lenL : (((sgs k3).map V.bl).length : Nat) = k3.ends := by rw [List.length_map, hnn]
      by_cases hlt : i + 1 < k3.ends
      · obtain ⟨j, hj1, hj2, hj3⟩ := owns_some hlt
        refine iteBT (decide_eq_true (by rw [lenL]; omega)) ?_
        have gk : gKeep k3 i = intV j := by rw [gKeep, hj2]
        rw [gk] at hL4'
        rw [hj1] at hOwI
        refine ⟨_, rfl, L4, L3, .list [.int (j : Int)], rfl, .lst (SqL.of hL4') (.cons (.int _) .nil), .lst (SqL.of hOwI) (.cons (.int _) .nil), ⟨_, .inr rfl, fun x hx => .inr (.inr ⟨j, by omega, List.mem_singleton.mp hx⟩), by show 1 ≤ 64; decide⟩, ?_⟩
        refine ⟨_, rfl, ?_⟩
        refine iteF ?_
        refine ⟨_, rfl, _, _, rfl, .inl ⟨_, SqL.of hOwI, rfl⟩, _, _, rfl, rfl, _, rfl, ?_⟩
        refine iteBF (decide_eq_false (by show ¬ ((1 : Int) < ((1 : Nat) : Int)); omega)) ?_
        exact ⟨_, _, rfl, SI⟩
      · obtain ⟨hj1, hj2⟩ := owns_none hlt
        refine iteBF (decide_eq_false (by rw [lenL]; omega)) ?_
        have gk : gKeep k3 i = .non := by rw [gKeep, hj2]
        rw [gk] at hL4'
        rw [hj1] at hOwI
        refine ⟨by show 1 ≤ sizeLine; decide, fun L5 hL5 => ?_⟩
        have SJ := (same_new hL5 : Same HI (upd HI L5 (.lst [.non])))
        refine ⟨L4, L5, .list [.none], rfl, .lst (SqL.of (SJ _ _ hL4')) (.cons .non .nil), .lst (SqL.of upd_same) (.cons .non .nil), ⟨_, .inr rfl, fun x hx => .inl (List.mem_singleton.mp hx), by decide⟩, ?_⟩
        refine ⟨_, rfl, ?_⟩
        refine iteF ?_
        refine ⟨_, rfl, _, _, rfl, .inl ⟨_, SqL.of (SJ _ _ hOwI), rfl⟩, _, _, rfl, rfl, _, rfl, ?_⟩
        refine iteBF (decide_eq_false (by show ¬ ((1 : Int) < ((0 : Nat) : Int)); omega)) ?_
        exact ⟨_, _, rfl, SI.trans SJ⟩
    · rintro σ H' ⟨o4, o5, rfl, SB⟩
      -- asked.clear()
      refine ⟨_, rfl, .inr (.inr (.inl ⟨rfl, .inl ⟨_, SB _ _ hA5⟩⟩)), DA, _, rfl, rfl, SB _ _ hA5, ?_⟩
      have SK : Same H (upd H' DA (.dK [])) := fun b o e => by
        rw [upd_ne (ne_of_none e nA)]
        exact SB _ _ (SH5 _ _ e)
      have hDK : (upd H' DA (.dK [])) D = some (.lst ((sgs k2).map V.bl)) := by
        rw [upd_ne (by rintro rfl; rw [hA5] at hD5; cases hD5)]
        exact SB _ _ hD5
      refine ⟨_, rfl, v, k2.data, rfl, (kk SK).dp, okk, fun k3 ek3 _ => ?_, nok⟩
      obtain rfl := uniq k3 ek3
      intro HL DB ts3 SL nDB hDB hp3
      refine ⟨DB, _, rfl, hDB, _, rfl, _, _, rfl, .inl ⟨_, SqL.of (SL _ _ hDK), rfl⟩, rfl, ?_⟩
      have e : decide (V.int ((pairsFrom 0 ts3).length : Nat) = V.int (((sgs k3).map V.bl).length : Nat)) = true := decide_eq_true (by rw [pairs_len, hp3.len, rowsOf_len, List.length_map, hnn])
      show Q (.bl (decide (V.int ((pairsFrom 0 ts3).length : Nat) = V.int (((sgs k3).map V.bl).length : Nat)))) HL
      rw [e]
      exact cont HL (SK.trans SL)
end
end My
set_option Elab.async false
set_option linter.all false
set_option maxRecDepth 100000
set_option maxHeartbeats 4000000
namespace My
open PySem L2 Kn PyProof.Rows
/-! ### a def at f, its code object told -/
theorem okG_at {P : Program} {w : World} {K : PySem.W.Frag} {mg : Str → Option Value} {base : Heap} {x qual : Str} {st : Stmt} {f : Addr} {oc kV doc pm cdv ct : Value} {od an : Option Addr} {osl : Array (Option Value)} {N ps : List Str} {k : Nat} {sp : Sp}
    (lk : K.lookup f = some ⟨oc, od, .func (PySem.W.fnOf x qual (defArgs st) (defBody st) (defScope st) .none kV doc pm an cdv ct), osl⟩) (hcd : PySem.W.codeIn K cdv qual = true) (S : FnScope N ps (defScope st)) (len : ∀ vs H Q E, sp vs H Q E → vs.length = ps.length)
    (hbody : ∀ (A : Around) (outer : List Env) (s : Shared) (H : Hp) (vs : List V) (Q : VK) (E : XK), Room k (A.deeper (envOfC qual (defScope st) s.heap.objs.size f cdv)) → Grd (A.deeper (envOfC qual (defScope st) s.heap.objs.size f cdv)) → sp vs H Q E →
      ∃ t, PSs (cxOf CX0 P w K mg base N qual (defScope st) f cdv A outer s H E).nox (defBody st) t ∧ t { nx := fun _ H' => Q .non H', rt := Q } (start N vs) H) :
    FnG P w K mg base CX0 (k + 1) f (PySem.W.fnOf x qual (defArgs st) (defBody st) (defScope st) .none kV doc pm an cdv ct) ps sp := by
  refine ⟨len, fun A outer s H args us vs Q E hr hgd e0 hb rv hsp => ?_⟩
  exact LamX.run_ofS lk hcd S hr e0 hb rv (len _ _ _ _ hsp) fun hr' => by
    obtain ⟨t, h1, h2⟩ := hbody A outer s H vs Q E hr' (hgd.deeper _ _ _ _ _) hsp
    exact ⟨t, h1.nox, h2⟩
/-! ### all but the tables of code objects stays -/
theorem ext_same {H H' : Hp} (e : Same H H') : LamX.ExtN H H' := LamX.ExtN.of e
theorem ext_tups {H H' : Hp} (e : LamX.ExtN H H') : SameT H H' := fun b xs h => by
  rcases h with h | ⟨o, h⟩
  · exact .inl (e _ _ h fun ps z => nomatch z)
  · exact .inr ⟨o, e _ _ h fun ps z => nomatch z⟩
theorem ext_sqL {K : PySem.W.Frag} {H H' : Hp} (e : LamX.ExtN H H') {a : Addr} {xs : List V} (h : SqL K H a xs) : SqL K H' a xs := by
  rcases h with (h | ⟨o, h⟩) | h
  · exact .inl (.inl (e _ _ h fun ps z => nomatch z))
  · exact .inl (.inr ⟨o, e _ _ h fun ps z => nomatch z⟩)
  · exact .inr h
mutual
theorem ext_dp {K : PySem.W.Frag} {H H' : Hp} (e : LamX.ExtN H H') : ∀ {v : V} {d : PyData}, Dp K H v d → Dp K H' v d
  | _, _, .non => .non
  | _, _, .bl b => .bl b
  | _, _, .int i => .int i
  | _, _, .str x => .str x
  | _, _, .lst h r => .lst (ext_sqL e h) (ext_dpAll e r)
  | _, _, .tup h r => .tup (sameT_sq (ext_tups e) h) (ext_dpAll e r)
theorem ext_dpAll {K : PySem.W.Frag} {H H' : Hp} (e : LamX.ExtN H H') : ∀ {vs : List V} {ds : List PyData}, DpAll K H vs ds → DpAll K H' vs ds
  | _, _, .nil => .nil
  | _, _, .cons h r => .cons (ext_dp e h) (ext_dpAll e r)
end
/-- flat tuples and simple values stay where tuples stay -/
theorem dp_tups0 {K : PySem.W.Frag} {H H' : Hp} (e : SameT H H') {p : Addr} {i : Int} (h : SqT K H p [.int i]) : Dp K H' (.ref p) (.tuple [.int i]) := .tup (sameT_sq e h) (.cons (.int i) .nil)
/-! ### law -/
abbrev s_law : Stmt := top 32
def lamQ : Str := (envOfC "law" (defScope s_law) 0 0 .none).qual ++ "<lambda>"
def spLaw15 (K : PySem.W.Frag) (PL : Addr) : Sp := fun vs H Q _ => ∃ (a : Addr) (ns : List Int), vs = [.ref a] ∧ SqL K H a (ns.map V.int) ∧ ns.length ≤ 63 ∧ H PL = some (.tbl #[]) ∧ ∀ H', Q (.bl true) H'
/-- an error class of the package, as the law asks -/
structure ErrL (K : PySem.W.Frag) (C : Addr) : Prop where
  kit : PySem.W.kitOne K (.ref C) (.ref C) = some true
theorem sc_law : FnScope ["script", "state", "lap", "kind", "bad", "odd", "right"] ["script"] (defScope s_law) := ⟨rfl, rfl, rfl, by decide +kernel, rfl, by decide +kernel, by decide +kernel⟩
theorem odd_ok {k : Kd} {x : PyData} (h60 : k.ends ≤ 60) (h : x = .none ∨ x = .int (-1) ∨ x = .int 60 ∨ x = .bool true ∨ x = .str "0" ∨ x = .tuple [.int 0] ∨ x = .int (k.ends : Nat)) : ∀ i : Nat, x = .int i → k.ends ≤ i := fun i e => by
  rcases h with h | h | h | h | h | h | h <;> rw [h] at e <;> first | (injection e with e; omega) | cases e
section
variable {P : Program} {w : World} {K : PySem.W.Frag} {mg : Str → Option Value} {base : Heap} {tA BK BE HE : Addr}
theorem ok_law15 {f f1 f2 f3 f4 f5 f6 f7 f8 f9 f10 cL PL : Addr} {fd1 fd2 fd3 fd4 fd5 fd6 fd7 fd8 fd9 fd10 : FuncData} {oc kV doc pm ct : Value} {od an : Option Addr} {osl : Array (Option Value)}
    (lk : K.lookup f = some ⟨oc, od, .func (PySem.W.fnOf "law" "law" (defArgs s_law) (defBody s_law) (defScope s_law) .none kV doc pm an (.ref cL) ct), osl⟩) (hcd : PySem.W.codeIn K (.ref cL) "law" = true) (TB : LamX.TabB base mg cL PL)
    (zr : mg "range" = none) (zm : mg "min" = none) (zn : mg "len" = none) (zi : mg "isinstance" = none)
    (CK : ErrC K mg "BadKind" BK HE) (CE : ErrC K mg "BadEnd" BE HE) (kK : PySem.W.kitOne K (.ref BK) (.ref BK) = some true) (kE : PySem.W.kitOne K (.ref BE) (.ref BE) = some true) (gH : mg "HeadError" = some (.ref HE))
    (D1 : DefC P w K mg base CX0 1 "_law_begun" ["script"] (spBegun K) f1 fd1)
    (D2 : DefC P w K mg base CX0 9 "_law_k15_kind" ["state"] (spKind15 K) f2 fd2)
    (D3 : DefC P w K mg base CX0 60 "_law_hd_size" ["kind"] (spSize K 60) f3 fd3)
    (G4 : FnG P w K mg base CX0 64 f4 fd4 ["kind"] (spRight15 K)) (g4 : mg "_law_k15_right" = some (.ref f4)) (k4 : PySem.W.keepIn K (.ref f4) = true) (b4 : Binds K fd4 ["kind"] [])
    (D5 : DefC P w K mg base CX0 4 "_law_hd_bad_kind" ["state"] (spBad K) f5 fd5)
    (D6 : DefC P w K mg base CX0 3 "_law_pick" ["state", "some"] (spPick K) f6 fd6)
    (F7 : Fun K "_law_caught" "_law_caught" (top 22) f7 fd7) (g7 : mg "_law_caught" = some (.ref f7)) (k7 : PySem.W.keepIn K (.ref f7) = true) (b7 : Binds K fd7 ["action"] [])
    (D8 : DefC P w K mg base (L2.CX P w) 62 "signs" ["kind"] (spTell BK K (gSigns K)) f8 fd8)
    (D9 : DefC P w K mg base (L2.CX P w) 62 "parts" ["kind"] (spTell BK K (gParts K)) f9 fd9)
    (D10 : DefC P w K mg base (L2.CX P w) 63 "keeper" ["kind", "end"] (spKeeper BK BE K) f10 fd10) :
    FnG P w K mg base CX0 68 f (PySem.W.fnOf "law" "law" (defArgs s_law) (defBody s_law) (defScope s_law) .none kV doc pm an (.ref cL) ct) ["script"] (spLaw15 K PL) := by
  obtain ⟨oc7, od7, kV7, doc7, pm7, an7, cd7, ct7, osl7, rfl, lk7, hcd7⟩ := F7.ex
  have sc7 : FnScope ["action", "found", "error"] ["action"] (defScope (top 22)) := ⟨rfl, rfl, rfl, by decide +kernel, rfl, by decide +kernel, by decide +kernel⟩
  refine okG_at (N := ["script", "state", "lap", "kind", "bad", "odd", "right"]) lk hcd sc_law (fun vs H Q E h => ?_) (fun A outer s0 H vs Q E hr hgd h => ?_)
  · obtain ⟨a, ns, rfl, _⟩ := h
    rfl
  · obtain ⟨a, ns, rfl, hS, hlen, hPL, cont⟩ := h
    have r1 : Room 1 _ := hr.mono (by decide)
    have r3 : Room 3 _ := hr.mono (by decide)
    have r4 : Room 4 _ := hr.mono (by decide)
    have r9 : Room 9 _ := hr.mono (by decide)
    have r60 : Room 60 _ := hr.mono (by decide)
    have r64 : Room 64 _ := hr.mono (by decide)
    have r65 : Room 65 _ := hr.mono (by decide)
    refine ⟨_, pss_cons (ps_set (i := 1) sc_law.nd rfl (Or.inl rfl) (pe_call D1.ok r1 rfl D1.gf D1.kf D1.bf .nil pass0 (pa_cons (pv 0) pa_nil)))
      (pss_cons (ps_for PassesOwn.never rfl (pi_range1 (by rfl) zr (pa_cons (pe_op op_add pe_int (by exact (pe_callB (call_min2 rfl) (by rfl) zm (by decide +kernel) (pa_cons (by exact (pe_callB call_len (by rfl) zn (by decide +kernel) (pa_cons (pv 0) pa_nil))) (pa_cons pe_int pa_nil))))) pa_nil)) (pg_name (i := 2) sc_law.nd rfl (Or.inl rfl))
        (pss_cons (ps_set (i := 3) sc_law.nd rfl (Or.inr rfl) (pe_call D2.ok r9 rfl D2.gf D2.kf D2.bf .nil pass0 (pa_cons (pv 1) pa_nil)))
        (pss_one (ps_if (PW.pt (pw_and (pt_cmpR op_le (by exact (pe_call D3.ok r60 rfl D3.gf D3.kf D3.bf .nil pass0 (pa_cons (pv 3) pa_nil))) pe_int (nomark _)) (pw_and1 (pt_not (pt_val (by exact (pe_callG G4 r64 hgd rfl g4 k4 b4 pass0 (pa_cons (pv 3) pa_nil)))))))) (pss_one (ps_ret pe_bl)) pss_nil))))
      (pss_cons (ps_asg (pe_tup (pa_cons (by exact (pe_call D5.ok r4 rfl D5.gf D5.kf D5.bf .nil pass0 (pa_cons (pv 1) pa_nil)))
          (pa_cons (by exact (pe_call D6.ok r3 rfl D6.gf D6.kf D6.bf .nil pass0 (pa_cons (pv 1) (pa_cons (by exact (pe_lst (pa_cons pe_non (pa_cons (pe_un un_neg pe_int) (pa_cons pe_int (pa_cons pe_bl (pa_cons pe_str (pa_cons (by exact (pe_tup (pa_cons pe_int pa_nil)))
            (pa_cons (by exact (pe_call D3.ok r60 rfl D3.gf D3.kf D3.bf .nil pass0 (pa_cons (pv 3) pa_nil))) pa_nil))))))))) pa_nil)))) pa_nil)))
          (pg_tup rfl (pgs_cons (pg_name (i := 4) sc_law.nd rfl (Or.inr rfl)) (pgs_cons (pg_name (i := 5) sc_law.nd rfl (Or.inr rfl)) pgs_nil))))
      (pss_cons (ps_set (i := 6) sc_law.nd rfl (Or.inl rfl) (pe_lst
          (pa_cons (by exact (pe_callB call_isC (by rfl) zi (by decide +kernel) (pa_cons (by exact (LamX.pe_lamcall (k := 63) (T := [(PL, lamQ)]) (t := fun E => tCall (spTell BK K (gSigns K)) [] E (tCons (tVar 4) tNil)) rfl g7 k7 lk7 hcd7 b7 sc7 rfl (.inl rfl)
              (caught_gives (q := lamQ) sc7.nd (.inl rfl) rfl rfl rfl gH rfl rfl rfl rfl rfl) TB rfl (List.mem_singleton.mpr rfl) (fun p hp _ => by rw [List.mem_singleton.mp hp]; rfl) r65 (LamX.lamS_by (by show LamX.lamSB (defScope s_law) _ = true; decide +kernel)) rfl (fun _ _ _ _ _ => rfl)
              (fun A outer s H E f c' hr' => by exact pe_call D8.ok (hr'.mono (by decide)) rfl D8.gf D8.kf D8.bf .nil (passes_call (takes_of rfl rfl rfl rfl) (fun _ _ _ _ h => h)) (pa_cons (pv 4) pa_nil)))) (pa_cons (pe_cls CK.gC) pa_nil))))
          (pa_cons (by exact (pe_callB call_isC (by rfl) zi (by decide +kernel) (pa_cons (by exact (LamX.pe_lamcall (k := 63) (T := [(PL, lamQ)]) (t := fun E => tCall (spTell BK K (gParts K)) [] E (tCons (tVar 4) tNil)) rfl g7 k7 lk7 hcd7 b7 sc7 rfl (.inl rfl)
              (caught_gives (q := lamQ) sc7.nd (.inl rfl) rfl rfl rfl gH rfl rfl rfl rfl rfl) TB rfl (List.mem_singleton.mpr rfl) (fun p hp _ => by rw [List.mem_singleton.mp hp]; rfl) r65 (LamX.lamS_by (by show LamX.lamSB (defScope s_law) _ = true; decide +kernel)) rfl (fun _ _ _ _ _ => rfl)
              (fun A outer s H E f c' hr' => by exact pe_call D9.ok (hr'.mono (by decide)) rfl D9.gf D9.kf D9.bf .nil (passes_call (takes_of rfl rfl rfl rfl) (fun _ _ _ _ h => h)) (pa_cons (pv 4) pa_nil)))) (pa_cons (pe_cls CK.gC) pa_nil))))
          (pa_cons (by exact (pe_callB call_isC (by rfl) zi (by decide +kernel) (pa_cons (by exact (LamX.pe_lamcall (k := 63) (T := [(PL, lamQ)]) (t := fun E => tCall (spKeeper BK BE K) [] E (tCons (tVar 4) (tCons (tVar 5) tNil))) rfl g7 k7 lk7 hcd7 b7 sc7 rfl (.inl rfl)
              (caught_gives (q := lamQ) sc7.nd (.inl rfl) rfl rfl rfl gH rfl rfl rfl rfl rfl) TB rfl (List.mem_singleton.mpr rfl) (fun p hp _ => by rw [List.mem_singleton.mp hp]; rfl) r65 (LamX.lamS_by (by show LamX.lamSB (defScope s_law) _ = true; decide +kernel)) rfl (fun _ _ _ _ _ => rfl)
              (fun A outer s H E f c' hr' => by exact pe_call D10.ok hr' rfl D10.gf D10.kf D10.bf .nil (passes_call (takes_of rfl rfl rfl rfl) (fun _ _ _ _ h => h)) (pa_cons (pv 4) (pa_cons (pv 5) pa_nil))))) (pa_cons (pe_cls CK.gC) pa_nil)))) pa_nil)))))
      (pss_cons (ps_if (pt_cmpR op_le (by exact (pe_call D3.ok r60 rfl D3.gf D3.kf D3.bf .nil pass0 (pa_cons (pv 3) pa_nil))) pe_int (nomark _))
        (pss_one (ps_expr (pe_bm PySem.F.plainAttrs_list PySem.F.slot_list_append PySem.F.type_list_append mt_append (pv 6) (pa_cons
          (by exact (pe_callB call_isC (by rfl) zi (by decide +kernel) (pa_cons (by exact (LamX.pe_lamcall (k := 63) (T := [(PL, lamQ)]) (t := fun E => tCall (spKeeper BK BE K) [] E (tCons (tVar 3) (tCons (tVar 5) tNil))) rfl g7 k7 lk7 hcd7 b7 sc7 rfl (.inl rfl)
              (caught_gives (q := lamQ) sc7.nd (.inl rfl) rfl rfl rfl gH rfl rfl rfl rfl rfl) TB rfl (List.mem_singleton.mpr rfl) (fun p hp _ => by rw [List.mem_singleton.mp hp]; rfl) r65 (LamX.lamS_by (by show LamX.lamSB (defScope s_law) _ = true; decide +kernel)) rfl (fun _ _ _ _ _ => rfl)
              (fun A outer s H E f c' hr' => by exact pe_call D10.ok hr' rfl D10.gf D10.kf D10.bf .nil (passes_call (takes_of rfl rfl rfl rfl) (fun _ _ _ _ h => h)) (pa_cons (pv 3) (pa_cons (pv 5) pa_nil))))) (pa_cons (pe_cls CE.gC) pa_nil)))) pa_nil)))) pss_nil)
      (pss_one (ps_ret (by exact (pe_cmpR op_notIn_seq pe_bl (pv 6) (by rfl))))))))), ?_⟩
    refine ⟨_, rfl, a, ns, rfl, hS, hlen, fun H1 d g c S1 hd hg hc D0 => ?_⟩
    have hlen' : (ns.map V.int).length ≤ 63 := by
      rw [List.length_map]
      exact hlen
    refine ⟨_, rfl, _, _, rfl, .inl ⟨_, S1.seq hS, rfl⟩, _, _, rfl, _, _, rfl, rfl, _, rfl, by split <;> omega, by split <;> omega, ?_⟩
    refine for_it (walk_range (lo := 0) (n := _)) (fun i σ H' => ∃ (o2 o3 : Option V) (m : Nat), σ = [some (.ref a), some (.ref d), o2, o3, none, none, none] ∧ DrawSt H' d g c m ∧ m ≤ 101 * i ∧ Dr d g H1 H' ∧ (0 < i → ∃ v k, o3 = some v ∧ KdAt K H' v k ∧ k.ends ≤ 60))
      ⟨none, none, 0, rfl, D0, Nat.le_refl _, Dr.refl _ _ _, fun z => absurd z (Nat.lt_irrefl _)⟩ (fun _ _ _ _ _ => True.intro) ?_ ?_
    · rintro i x σ H2 H' hi ⟨o2, o3, m, rfl, D, hm, dr, _⟩ ⟨rfl, e2⟩
      have hi6 : i < 6 := by
        revert hi
        split <;> omega
      refine ⟨_, rfl, d, g, c, m, rfl, D, by omega, fun H3 v k m' hk he D3 hm3 dr3 => ?_⟩
      have dk := k.deep_ends
      refine ⟨_, rfl, v, k, rfl, hk, by show k.deep ≤ 60; omega, _, _, rfl, rfl, _, rfl, ?_⟩
      refine iteBT (decide_eq_true (by omega)) ?_
      refine ⟨_, rfl, v, k, rfl, hk, he, fun H4 S4 => ⟨_, rfl, ?_⟩⟩
      refine iteF ?_
      exact ⟨_, _, m', rfl, D3.same S4, by omega, dr.trans (Dr.trans dr3 (Dr.of S4)), fun _ => ⟨v, k, rfl, hk.same (SameT.of S4), he⟩⟩
    · rintro σ H2 ⟨o2, o3, m, rfl, D, hm, dr, hk0⟩
      obtain ⟨v, k, rfl, hk, he⟩ := hk0 (by split <;> omega)
      have dk := k.deep_ends
      have hm6 : m ≤ 606 := by
        revert hm
        split <;> omega
      -- bad, odd
      refine ⟨_, rfl, d, g, c, m, rfl, D, by omega, fun H3 vb x hb ox nx D3 dr3 => ?_⟩
      have hk3 : KdAt K H3 v k := hk.same (Dr.tups dr3 D)
      refine ⟨_, rfl, _, rfl, by show 1 ≤ sizeLine; decide, fun p hp => ?_⟩
      have S4 := (same_new hp : Same H3 (upd H3 p (.tup [.int 0])))
      have hp4 : (upd H3 p (.tup [.int 0])) p = some (.tup [.int 0]) := upd_same
      revert S4 hp4
      generalize upd H3 p (.tup [.int 0]) = H4
      intro S4 hp4
      have hk4 := hk3.same (SameT.of S4)
      refine ⟨_, rfl, v, k, rfl, hk4, by show k.deep ≤ 60; omega, by show 7 ≤ sizeLine; decide, fun l hl => ?_⟩
      have S5 := (same_new hl : Same H4 (upd H4 l (.lst [.non, .int (-1), .int 60, .bl true, .str "0", .ref p, intV k.ends])))
      have D5 := (D3.same S4).same S5
      refine ⟨d, g, c, l, m + 1, _, rfl, D5, by omega, upd_same, ((D3.same S4).ne hl).2.1, by simp, by show 7 < _; decide, fun H6 n vo hv D6 dr6 => ?_⟩
      have dr36 : Dr d g H3 H6 := (Dr.of (S4.trans S5)).trans dr6
      have hk6 : KdAt K H6 v k := hk4.same ((SameT.of S5).trans (Dr.tups dr6 D5))
      obtain ⟨y, hy, oy, ey⟩ : ∃ y, Dp K H6 vo y ∧ OkD y ∧ ∀ i : Nat, y = .int i → k.ends ≤ i := by
        have tt : SqT K H6 p [.int 0] := sameT_sq ((SameT.of S5).trans (Dr.tups dr6 D5)) (.inl (.inl hp4))
        match n, hv with
        | 0, hv => cases hv; exact ⟨.none, .non, by unfold OkD; decide +kernel, odd_ok he (.inl rfl)⟩
        | 1, hv => cases hv; exact ⟨.int (-1), .int _, by unfold OkD; decide +kernel, odd_ok he (.inr (.inl rfl))⟩
        | 2, hv => cases hv; exact ⟨.int 60, .int _, by unfold OkD; decide +kernel, odd_ok he (.inr (.inr (.inl rfl)))⟩
        | 3, hv => cases hv; exact ⟨.bool true, .bl _, by unfold OkD; decide +kernel, odd_ok he (.inr (.inr (.inr (.inl rfl))))⟩
        | 4, hv => cases hv; exact ⟨.str "0", .str _, by unfold OkD; decide +kernel, odd_ok he (.inr (.inr (.inr (.inr (.inl rfl)))))⟩
        | 5, hv => cases hv; exact ⟨.tuple [.int 0], .tup tt (.cons (.int _) .nil), by unfold OkD; decide +kernel, odd_ok he (.inr (.inr (.inr (.inr (.inr (.inl rfl))))))⟩
        | 6, hv =>
          cases hv
          refine ⟨.int (k.ends : Nat), .int _, ?_, odd_ok he (.inr (.inr (.inr (.inr (.inr (.inr rfl))))))⟩
          unfold OkD SeqAt.shaped
          rw [int_lay ⟨k.ends, by omega⟩]
          rfl
        | n + 7, hv => simp at hv
      refine ⟨by show 2 ≤ sizeLine; decide, fun p2 hp2 => ⟨p2, _, rfl, .inl (.inl upd_same), rfl, _, _, rfl, ?_⟩⟩
      refine ⟨_, _, rfl, ?_⟩
      refine ⟨rfl, ?_⟩
      have S7 := (same_new hp2 : Same H6 (upd H6 p2 (.tup [vb, vo])))
      have hb7 : Dp K (upd H6 p2 (.tup [vb, vo])) vb x := hb _ (dr36.trans (Dr.of S7))
      have hy7 : Dp K (upd H6 p2 (.tup [vb, vo])) vo y := dp_same S7 hy
      have hk7 : KdAt K (upd H6 p2 (.tup [vb, vo])) v k := hk6.same (SameT.of S7)
      have PLd : PL ≠ d := by
        rintro rfl
        rw [hPL] at hd
        cases hd
      have PLg : PL ≠ g := by
        rintro rfl
        rw [hPL] at hg
        cases hg
      have T7 : LamX.Tabs [(PL, lamQ)] (upd H6 p2 (.tup [vb, vo])) := fun q hq => by
        rw [List.mem_singleton.mp hq]
        exact LamX.TabS.nil (S7 _ _ (((dr.trans dr3).trans dr36) _ _ (S1 _ _ hPL) PLd PLg))
      revert hb7 hy7 hk7 T7
      generalize upd H6 p2 (.tup [vb, vo]) = H7
      intro hb7 hy7 hk7 T7
      -- right
      have eqx : ∀ k' : Kd, x = k'.data → k'.ends ≤ 60 → False := fun k' e h => by
        rw [e, isKd_data, decide_eq_true h] at nx
        cases nx
      have step : ∀ {H8 H9 : Hp} {q : Addr} {D : Addr}, LamX.Tabs [(PL, lamQ)] H8 → Same H8 H9 → H9 q = none → LamX.ExtN H8 (upd H9 q (ExI q (.ref D) none)) ∧ LamX.Tabs [(PL, lamQ)] (upd H9 q (ExI q (.ref D) none)) := fun {H8 H9 q D} T S n => ⟨ext_same (S.trans (same_new n)), T.ext (S.trans (same_new n))⟩
      refine ⟨T7, fun H8 e8 T8 => ⟨_, rfl, vb, x, rfl, ext_dp e8 hb7, ox, fun k' e h => (eqx k' e h).elim, fun _ H9 S9 => ⟨CK.em, fun q1 n1 => ?_⟩⟩⟩
      refine .inl ⟨q1, BK, .ref BK, .ref BK, true, rfl, .inl upd_same, CK.ec, (fun _ z => z), kK, ?_⟩
      obtain ⟨z1, T9⟩ := step (D := BK) T8 S9 n1
      have z1 := e8.trans z1
      refine ⟨T9, fun H10 e10 T10 => ⟨_, rfl, vb, x, rfl, ext_dp (z1.trans e10) hb7, ox, fun k' e h => (eqx k' e h).elim, fun _ H11 S11 => ⟨CK.em, fun q2 n2 => ?_⟩⟩⟩
      refine .inl ⟨q2, BK, .ref BK, .ref BK, true, rfl, .inl upd_same, CK.ec, (fun _ z => z), kK, ?_⟩
      obtain ⟨z2, T11⟩ := step (D := BK) T10 S11 n2
      have z2 := z1.trans (e10.trans z2)
      refine ⟨T11, fun H12 e12 T12 => ⟨_, rfl, _, rfl, vb, vo, x, y, rfl, ext_dp (z2.trans e12) hb7, ox, ext_dp (z2.trans e12) hy7, fun k' e h => (eqx k' e h).elim, fun _ H13 S13 => ⟨CK.em, fun q3 n3 => ?_⟩⟩⟩
      refine .inl ⟨q3, BK, .ref BK, .ref BK, true, rfl, .inl upd_same, CK.ec, (fun _ z => z), kK, ?_⟩
      obtain ⟨z3, T13⟩ := step (D := BK) T12 S13 n3
      have z3 := z2.trans (e12.trans z3)
      revert z3 T13
      generalize upd H13 q3 (ExI q3 (.ref BK) none) = H14
      intro T13 z3
      refine ⟨by show 3 ≤ sizeLine; decide, fun L hL => ?_⟩
      have S15 := (same_new hL : Same H14 (upd H14 L (.lst [.bl true, .bl true, .bl true])))
      have T15 := T13.ext S15
      have z15 := z3.trans (ext_same S15)
      have hL15 : (upd H14 L (.lst [.bl true, .bl true, .bl true])) L = some (.lst [.bl true, .bl true, .bl true]) := upd_same
      revert T15 z15 hL15
      generalize upd H14 L (.lst [.bl true, .bl true, .bl true]) = H15
      intro T15 z15 hL15
      -- the last one
      refine ⟨_, rfl, v, k, rfl, hk7.same (ext_tups z15), by show k.deep ≤ 60; omega, _, _, rfl, rfl, _, rfl, ?_⟩
      refine iteBT (decide_eq_true (by omega)) ?_
      refine ⟨_, rfl, .inl ⟨rfl, _, SqL.of hL15⟩, ?_⟩
      refine ⟨T15, fun H16 e16 T16 => ⟨_, rfl, _, rfl, v, vo, k.data, y, rfl, (hk7.same (ext_tups (z15.trans e16))).dp, okD_kind (by omega), ext_dp (z15.trans e16) hy7, fun k' e h => ⟨fun i ei hi => ?_, fun _ H17 S17 => ⟨CE.em, fun q4 n4 => ?_⟩⟩, fun e => ?_⟩⟩
      · have h1 := parse_data k
        rw [e, parse_data] at h1
        cases h1
        have := ey i ei
        omega
      · refine .inl ⟨q4, BE, .ref BE, .ref BE, true, rfl, .inl upd_same, CE.ec, (fun _ z => z), kE, ?_⟩
        have hL17 : (upd H17 q4 (ExI q4 (.ref BE) none)) L = some (.lst [.bl true, .bl true, .bl true]) := (same_new n4) _ _ (S17 _ _ (e16 _ _ hL15 fun ps z => nomatch z))
        refine ⟨L, _, _, rfl, rfl, hL17, small1000 (by decide), ?_⟩
        refine ⟨_, rfl, L, _, rfl, .inl (SqL.of upd_same), rfl, rfl, ?_⟩
        exact cont _
      · rw [isKd_data, decide_eq_true he] at e
        cases e
end
end My
set_option Elab.async false
set_option linter.all false
set_option maxRecDepth 100000
set_option maxHeartbeats 4000000
namespace My
open PySem L2 Kn PyProof.Rows
/-! ### the end -/
theorem all_mk {l : PySem.W.OpenLaw} {w : World} {K : PySem.W.Frag} {h : Heap} {mg : Str → Option Value} {fa HE tA cL PL CBadKind CBadEnd f_is_kind f_need_kind f_is_whole f_end_rows f_add_rows f_signs f_parts f_keeper f_begun f_blended f_draw f_pick f_caught f_oh_same f_hd_size f_hd_wanted f_hd_signs f_hd_parts f_hd_any_kind f_hd_bad_kind f_k15_kind f_k15_right f_law : Addr} (X : K.In h) (G : h.Ns mainGlobals mg) (hfa : mg "law" = some (.ref fa))
    (TC : ∀ c P : Addr, PySem.W.tabIn K "law" = some (c, P) → PySem.W.CodeHd h c P ∧ h.get? P = some tblObj)
    {dT odC od0 od1 od2 od3 od4 od5 od6 od7 od8 od9 od10 od11 od12 od13 od14 od15 od16 od17 od18 od19 od20 od21 od22 an0 an1 an2 an3 an4 an5 an6 an7 an8 an9 an10 an11 an12 an13 an14 an15 an16 an17 an18 an19 an20 an21 an22 : Option Addr} {vsC : Array Value} {ocC : Value} {sT slC sl0 sl1 sl2 sl3 sl4 sl5 sl6 sl7 sl8 sl9 sl10 sl11 sl12 sl13 sl14 sl15 sl16 sl17 sl18 sl19 sl20 sl21 sl22 : Array (Option Value)} {tt tM : Tok} {nT : Nat} {oc0 oc1 oc2 oc3 oc4 oc5 oc6 oc7 oc8 oc9 oc10 oc11 oc12 oc13 oc14 oc15 oc16 oc17 oc18 oc19 oc20 oc21 oc22 kV0 kV1 kV2 kV3 kV4 kV5 kV6 kV7 kV8 kV9 kV10 kV11 kV12 kV13 kV14 kV15 kV16 kV17 kV18 kV19 kV20 kV21 kV22 dc0 dc1 dc2 dc3 dc4 dc5 dc6 dc7 dc8 dc9 dc10 dc11 dc12 dc13 dc14 dc15 dc16 dc17 dc18 dc19 dc20 dc21 dc22 pm0 pm1 pm2 pm3 pm4 pm5 pm6 pm7 pm8 pm9 pm10 pm11 pm12 pm13 pm14 pm15 pm16 pm17 pm18 pm19 pm20 pm21 pm22 cd0 cd1 cd2 cd3 cd4 cd5 cd6 cd7 cd8 cd9 cd10 cd11 cd12 cd13 cd14 cd15 cd16 cd17 cd18 cd19 cd20 cd21 ct0 ct1 ct2 ct3 ct4 ct5 ct6 ct7 ct8 ct9 ct10 ct11 ct12 ct13 ct14 ct15 ct16 ct17 ct18 ct19 ct20 ct21 ct22 : Value}
    (aH : PySem.W.nsIn K mainGlobals "HeadError" = some (some (.ref HE)))
    (aBadKind : PySem.W.nsIn K mainGlobals "BadKind" = some (some (.ref CBadKind)))
    (bBadKind : errB K CBadKind HE = true)
    (aBadEnd : PySem.W.nsIn K mainGlobals "BadEnd" = some (some (.ref CBadEnd)))
    (bBadEnd : errB K CBadEnd HE = true)
    (aT : PySem.W.nsIn K mainGlobals "TEXT" = some (some (.ref tA)))
    (lT : K.lookup tA = some ⟨.type "tuple", dT, .seq #[.str "text" tt] nT, sT⟩)
    (aM : PySem.W.nsIn K mainGlobals "MOST_ENDS" = some (some (.int 60 tM)))
    (gis_kind : PySem.W.nsIn K mainGlobals "is_kind" = some (some (.ref f_is_kind)))
    (lis_kind : K.lookup f_is_kind = some ⟨oc0, od0, .func (PySem.W.fnOf "is_kind" "is_kind" (defArgs s_is_kind) (defBody s_is_kind) (defScope s_is_kind) .none kV0 dc0 pm0 an0 cd0 ct0), sl0⟩)
    (cis_kind : PySem.W.codeIn K cd0 "is_kind" = true)
    (kis_kind : PySem.W.keepIn K (.ref f_is_kind) = true)
    (gneed_kind : PySem.W.nsIn K mainGlobals "need_kind" = some (some (.ref f_need_kind)))
    (lneed_kind : K.lookup f_need_kind = some ⟨oc1, od1, .func (PySem.W.fnOf "need_kind" "need_kind" (defArgs s_need_kind) (defBody s_need_kind) (defScope s_need_kind) .none kV1 dc1 pm1 an1 cd1 ct1), sl1⟩)
    (cneed_kind : PySem.W.codeIn K cd1 "need_kind" = true)
    (kneed_kind : PySem.W.keepIn K (.ref f_need_kind) = true)
    (gis_whole : PySem.W.nsIn K mainGlobals "is_whole" = some (some (.ref f_is_whole)))
    (lis_whole : K.lookup f_is_whole = some ⟨oc2, od2, .func (PySem.W.fnOf "is_whole" "is_whole" (defArgs s_is_whole) (defBody s_is_whole) (defScope s_is_whole) .none kV2 dc2 pm2 an2 cd2 ct2), sl2⟩)
    (cis_whole : PySem.W.codeIn K cd2 "is_whole" = true)
    (kis_whole : PySem.W.keepIn K (.ref f_is_whole) = true)
    (gend_rows : PySem.W.nsIn K mainGlobals "end_rows" = some (some (.ref f_end_rows)))
    (lend_rows : K.lookup f_end_rows = some ⟨oc3, od3, .func (PySem.W.fnOf "end_rows" "end_rows" (defArgs s_end_rows) (defBody s_end_rows) (defScope s_end_rows) .none kV3 dc3 pm3 an3 cd3 ct3), sl3⟩)
    (cend_rows : PySem.W.codeIn K cd3 "end_rows" = true)
    (kend_rows : PySem.W.keepIn K (.ref f_end_rows) = true)
    (gadd_rows : PySem.W.nsIn K mainGlobals "_add_rows" = some (some (.ref f_add_rows)))
    (ladd_rows : K.lookup f_add_rows = some ⟨oc4, od4, .func (PySem.W.fnOf "_add_rows" "_add_rows" (defArgs s_add_rows) (defBody s_add_rows) (defScope s_add_rows) .none kV4 dc4 pm4 an4 cd4 ct4), sl4⟩)
    (cadd_rows : PySem.W.codeIn K cd4 "_add_rows" = true)
    (kadd_rows : PySem.W.keepIn K (.ref f_add_rows) = true)
    (gsigns : PySem.W.nsIn K mainGlobals "signs" = some (some (.ref f_signs)))
    (lsigns : K.lookup f_signs = some ⟨oc5, od5, .func (PySem.W.fnOf "signs" "signs" (defArgs s_signs) (defBody s_signs) (defScope s_signs) .none kV5 dc5 pm5 an5 cd5 ct5), sl5⟩)
    (csigns : PySem.W.codeIn K cd5 "signs" = true)
    (ksigns : PySem.W.keepIn K (.ref f_signs) = true)
    (gparts : PySem.W.nsIn K mainGlobals "parts" = some (some (.ref f_parts)))
    (lparts : K.lookup f_parts = some ⟨oc6, od6, .func (PySem.W.fnOf "parts" "parts" (defArgs s_parts) (defBody s_parts) (defScope s_parts) .none kV6 dc6 pm6 an6 cd6 ct6), sl6⟩)
    (cparts : PySem.W.codeIn K cd6 "parts" = true)
    (kparts : PySem.W.keepIn K (.ref f_parts) = true)
    (gkeeper : PySem.W.nsIn K mainGlobals "keeper" = some (some (.ref f_keeper)))
    (lkeeper : K.lookup f_keeper = some ⟨oc7, od7, .func (PySem.W.fnOf "keeper" "keeper" (defArgs s_keeper) (defBody s_keeper) (defScope s_keeper) .none kV7 dc7 pm7 an7 cd7 ct7), sl7⟩)
    (ckeeper : PySem.W.codeIn K cd7 "keeper" = true)
    (kkeeper : PySem.W.keepIn K (.ref f_keeper) = true)
    (gbegun : PySem.W.nsIn K mainGlobals "_law_begun" = some (some (.ref f_begun)))
    (lbegun : K.lookup f_begun = some ⟨oc8, od8, .func (PySem.W.fnOf "_law_begun" "_law_begun" (defArgs sBegun) (defBody sBegun) (defScope sBegun) .none kV8 dc8 pm8 an8 cd8 ct8), sl8⟩)
    (cbegun : PySem.W.codeIn K cd8 "_law_begun" = true)
    (kbegun : PySem.W.keepIn K (.ref f_begun) = true)
    (gblended : PySem.W.nsIn K mainGlobals "_law_blended" = some (some (.ref f_blended)))
    (lblended : K.lookup f_blended = some ⟨oc9, od9, .func (PySem.W.fnOf "_law_blended" "_law_blended" (defArgs sBlended) (defBody sBlended) (defScope sBlended) .none kV9 dc9 pm9 an9 cd9 ct9), sl9⟩)
    (cblended : PySem.W.codeIn K cd9 "_law_blended" = true)
    (kblended : PySem.W.keepIn K (.ref f_blended) = true)
    (gdraw : PySem.W.nsIn K mainGlobals "_law_draw" = some (some (.ref f_draw)))
    (ldraw : K.lookup f_draw = some ⟨oc10, od10, .func (PySem.W.fnOf "_law_draw" "_law_draw" (defArgs sDraw) (defBody sDraw) (defScope sDraw) .none kV10 dc10 pm10 an10 cd10 ct10), sl10⟩)
    (cdraw : PySem.W.codeIn K cd10 "_law_draw" = true)
    (kdraw : PySem.W.keepIn K (.ref f_draw) = true)
    (gpick : PySem.W.nsIn K mainGlobals "_law_pick" = some (some (.ref f_pick)))
    (lpick : K.lookup f_pick = some ⟨oc11, od11, .func (PySem.W.fnOf "_law_pick" "_law_pick" (defArgs sPick) (defBody sPick) (defScope sPick) .none kV11 dc11 pm11 an11 cd11 ct11), sl11⟩)
    (cpick : PySem.W.codeIn K cd11 "_law_pick" = true)
    (kpick : PySem.W.keepIn K (.ref f_pick) = true)
    (gcaught : PySem.W.nsIn K mainGlobals "_law_caught" = some (some (.ref f_caught)))
    (lcaught : K.lookup f_caught = some ⟨oc12, od12, .func (PySem.W.fnOf "_law_caught" "_law_caught" (defArgs (top 22)) (defBody (top 22)) (defScope (top 22)) .none kV12 dc12 pm12 an12 cd12 ct12), sl12⟩)
    (ccaught : PySem.W.codeIn K cd12 "_law_caught" = true)
    (kcaught : PySem.W.keepIn K (.ref f_caught) = true)
    (goh_same : PySem.W.nsIn K mainGlobals "_law_oh_same" = some (some (.ref f_oh_same)))
    (loh_same : K.lookup f_oh_same = some ⟨oc13, od13, .func (PySem.W.fnOf "_law_oh_same" "_law_oh_same" (defArgs s_oh_same) (defBody s_oh_same) (defScope s_oh_same) .none kV13 dc13 pm13 an13 cd13 ct13), sl13⟩)
    (coh_same : PySem.W.codeIn K cd13 "_law_oh_same" = true)
    (koh_same : PySem.W.keepIn K (.ref f_oh_same) = true)
    (ghd_size : PySem.W.nsIn K mainGlobals "_law_hd_size" = some (some (.ref f_hd_size)))
    (lhd_size : K.lookup f_hd_size = some ⟨oc14, od14, .func (PySem.W.fnOf "_law_hd_size" "_law_hd_size" (defArgs s_hd_size) (defBody s_hd_size) (defScope s_hd_size) .none kV14 dc14 pm14 an14 cd14 ct14), sl14⟩)
    (chd_size : PySem.W.codeIn K cd14 "_law_hd_size" = true)
    (khd_size : PySem.W.keepIn K (.ref f_hd_size) = true)
    (ghd_wanted : PySem.W.nsIn K mainGlobals "_law_hd_wanted" = some (some (.ref f_hd_wanted)))
    (lhd_wanted : K.lookup f_hd_wanted = some ⟨oc15, od15, .func (PySem.W.fnOf "_law_hd_wanted" "_law_hd_wanted" (defArgs s_hd_wanted) (defBody s_hd_wanted) (defScope s_hd_wanted) .none kV15 dc15 pm15 an15 cd15 ct15), sl15⟩)
    (chd_wanted : PySem.W.codeIn K cd15 "_law_hd_wanted" = true)
    (khd_wanted : PySem.W.keepIn K (.ref f_hd_wanted) = true)
    (ghd_signs : PySem.W.nsIn K mainGlobals "_law_hd_signs" = some (some (.ref f_hd_signs)))
    (lhd_signs : K.lookup f_hd_signs = some ⟨oc16, od16, .func (PySem.W.fnOf "_law_hd_signs" "_law_hd_signs" (defArgs s_hd_signs) (defBody s_hd_signs) (defScope s_hd_signs) .none kV16 dc16 pm16 an16 cd16 ct16), sl16⟩)
    (chd_signs : PySem.W.codeIn K cd16 "_law_hd_signs" = true)
    (khd_signs : PySem.W.keepIn K (.ref f_hd_signs) = true)
    (ghd_parts : PySem.W.nsIn K mainGlobals "_law_hd_parts" = some (some (.ref f_hd_parts)))
    (lhd_parts : K.lookup f_hd_parts = some ⟨oc17, od17, .func (PySem.W.fnOf "_law_hd_parts" "_law_hd_parts" (defArgs s_hd_parts) (defBody s_hd_parts) (defScope s_hd_parts) .none kV17 dc17 pm17 an17 cd17 ct17), sl17⟩)
    (chd_parts : PySem.W.codeIn K cd17 "_law_hd_parts" = true)
    (khd_parts : PySem.W.keepIn K (.ref f_hd_parts) = true)
    (ghd_any_kind : PySem.W.nsIn K mainGlobals "_law_hd_any_kind" = some (some (.ref f_hd_any_kind)))
    (lhd_any_kind : K.lookup f_hd_any_kind = some ⟨oc18, od18, .func (PySem.W.fnOf "_law_hd_any_kind" "_law_hd_any_kind" (defArgs s_hd_any_kind) (defBody s_hd_any_kind) (defScope s_hd_any_kind) .none kV18 dc18 pm18 an18 cd18 ct18), sl18⟩)
    (chd_any_kind : PySem.W.codeIn K cd18 "_law_hd_any_kind" = true)
    (khd_any_kind : PySem.W.keepIn K (.ref f_hd_any_kind) = true)
    (ghd_bad_kind : PySem.W.nsIn K mainGlobals "_law_hd_bad_kind" = some (some (.ref f_hd_bad_kind)))
    (lhd_bad_kind : K.lookup f_hd_bad_kind = some ⟨oc19, od19, .func (PySem.W.fnOf "_law_hd_bad_kind" "_law_hd_bad_kind" (defArgs s_hd_bad_kind) (defBody s_hd_bad_kind) (defScope s_hd_bad_kind) .none kV19 dc19 pm19 an19 cd19 ct19), sl19⟩)
    (chd_bad_kind : PySem.W.codeIn K cd19 "_law_hd_bad_kind" = true)
    (khd_bad_kind : PySem.W.keepIn K (.ref f_hd_bad_kind) = true)
    (gk15_kind : PySem.W.nsIn K mainGlobals "_law_k15_kind" = some (some (.ref f_k15_kind)))
    (lk15_kind : K.lookup f_k15_kind = some ⟨oc20, od20, .func (PySem.W.fnOf "_law_k15_kind" "_law_k15_kind" (defArgs s_k15_kind) (defBody s_k15_kind) (defScope s_k15_kind) .none kV20 dc20 pm20 an20 cd20 ct20), sl20⟩)
    (ck15_kind : PySem.W.codeIn K cd20 "_law_k15_kind" = true)
    (kk15_kind : PySem.W.keepIn K (.ref f_k15_kind) = true)
    (gk15_right : PySem.W.nsIn K mainGlobals "_law_k15_right" = some (some (.ref f_k15_right)))
    (lk15_right : K.lookup f_k15_right = some ⟨oc21, od21, .func (PySem.W.fnOf "_law_k15_right" "_law_k15_right" (defArgs s_k15_right) (defBody s_k15_right) (defScope s_k15_right) .none kV21 dc21 pm21 an21 cd21 ct21), sl21⟩)
    (ck15_right : PySem.W.codeIn K cd21 "_law_k15_right" = true)
    (kk15_right : PySem.W.keepIn K (.ref f_k15_right) = true)
    (glaw : PySem.W.nsIn K mainGlobals "law" = some (some (.ref f_law)))
    (llaw : K.lookup f_law = some ⟨oc22, od22, .func (PySem.W.fnOf "law" "law" (defArgs s_law) (defBody s_law) (defScope s_law) .none kV22 dc22 pm22 an22 (.ref cL) ct22), sl22⟩)
    (claw : PySem.W.codeIn K (.ref cL) "law" = true)
    (klaw : PySem.W.keepIn K (.ref f_law) = true)
    (qlaw : K.lookup cL = some ⟨ocC, odC, .fields vsC, slC⟩)
    (plaw : vsC[11]? = some (.ref PL))
    (tlaw : PySem.W.tabIn K "law" = some (cL, PL))
    (nlaw : K.lookup PL = none)
    (zabs : PySem.W.nsIn K mainGlobals "abs" = some none)
    (zint : PySem.W.nsIn K mainGlobals "int" = some none)
    (zlen : PySem.W.nsIn K mainGlobals "len" = some none)
    (zisinstance : PySem.W.nsIn K mainGlobals "isinstance" = some none)
    (zbool : PySem.W.nsIn K mainGlobals "bool" = some none)
    (ztuple : PySem.W.nsIn K mainGlobals "tuple" = some none)
    (zlist : PySem.W.nsIn K mainGlobals "list" = some none)
    (zrange : PySem.W.nsIn K mainGlobals "range" = some none)
    (zmin : PySem.W.nsIn K mainGlobals "min" = some none)
    (zrepr : PySem.W.nsIn K mainGlobals "repr" = some none)
    (zenumerate : PySem.W.nsIn K mainGlobals "enumerate" = some none)
    : ∃ cs, LawG l.prog w K 68 63 "script" mg fa h cs := by
  have e := hfa.symm.trans (PySem.W.mg_of X G glaw)
  cases e
  have gt : ∀ {n : Str} {v : Value}, PySem.W.nsIn K mainGlobals n = some (some v) → mg n = some v := fun q => PySem.W.mg_of X G q
  have gn : ∀ {n : Str}, PySem.W.nsIn K mainGlobals n = some none → mg n = none := fun q => PySem.W.mg_none_of X G q
  have T : TxtK K mg tA := ⟨gt aT, fun H => .inr ⟨_, _, _, lT, rfl, rfl, by show 1 ≤ sizeLine; decide, .cons ⟨_, rfl⟩ .nil⟩, ⟨_, gt aM⟩, gn zisinstance, gn zlen, gn ztuple⟩
  have eBadKind := errB_ok bBadKind
  have XBadKind : ErrC K mg "BadKind" CBadKind HE := ⟨gt aBadKind, eBadKind.kC, eBadKind.q, eBadKind.sB, eBadKind.tC, eBadKind.ec, eBadKind.em⟩
  have eBadEnd := errB_ok bBadEnd
  have XBadEnd : ErrC K mg "BadEnd" CBadEnd HE := ⟨gt aBadEnd, eBadEnd.kC, eBadEnd.q, eBadEnd.sB, eBadEnd.tC, eBadEnd.ec, eBadEnd.em⟩
  have Fis_kind := fun_mk (st := s_is_kind) lis_kind cis_kind kis_kind
  have bis_kind := Fis_kind.binds (ps := ["value"]) fun _ _ _ _ _ _ us hl => match us, hl with | [_], _ => rfl
  have Fneed_kind := fun_mk (st := s_need_kind) lneed_kind cneed_kind kneed_kind
  have bneed_kind := Fneed_kind.binds (ps := ["kind"]) fun _ _ _ _ _ _ us hl => match us, hl with | [_], _ => rfl
  have Fis_whole := fun_mk (st := s_is_whole) lis_whole cis_whole kis_whole
  have bis_whole := Fis_whole.binds (ps := ["value"]) fun _ _ _ _ _ _ us hl => match us, hl with | [_], _ => rfl
  have Fend_rows := fun_mk (st := s_end_rows) lend_rows cend_rows kend_rows
  have bend_rows := Fend_rows.binds (ps := ["kind"]) fun _ _ _ _ _ _ us hl => match us, hl with | [_], _ => rfl
  have Fadd_rows := fun_mk (st := s_add_rows) ladd_rows cadd_rows kadd_rows
  have badd_rows := Fadd_rows.binds (ps := ["kind", "asked", "rows"]) fun _ _ _ _ _ _ us hl => match us, hl with | [_, _, _], _ => rfl
  have Fsigns := fun_mk (st := s_signs) lsigns csigns ksigns
  have bsigns := Fsigns.binds (ps := ["kind"]) fun _ _ _ _ _ _ us hl => match us, hl with | [_], _ => rfl
  have Fparts := fun_mk (st := s_parts) lparts cparts kparts
  have bparts := Fparts.binds (ps := ["kind"]) fun _ _ _ _ _ _ us hl => match us, hl with | [_], _ => rfl
  have Fkeeper := fun_mk (st := s_keeper) lkeeper ckeeper kkeeper
  have bkeeper := Fkeeper.binds (ps := ["kind", "end"]) fun _ _ _ _ _ _ us hl => match us, hl with | [_, _], _ => rfl
  have Fbegun := fun_mk (st := sBegun) lbegun cbegun kbegun
  have bbegun := Fbegun.binds (ps := ["script"]) fun _ _ _ _ _ _ us hl => match us, hl with | [_], _ => rfl
  have Fblended := fun_mk (st := sBlended) lblended cblended kblended
  have bblended := Fblended.binds (ps := ["state"]) fun _ _ _ _ _ _ us hl => match us, hl with | [_], _ => rfl
  have Fdraw := fun_mk (st := sDraw) ldraw cdraw kdraw
  have bdraw := Fdraw.binds (ps := ["state", "room"]) fun _ _ _ _ _ _ us hl => match us, hl with | [_, _], _ => rfl
  have Fpick := fun_mk (st := sPick) lpick cpick kpick
  have bpick := Fpick.binds (ps := ["state", "some"]) fun _ _ _ _ _ _ us hl => match us, hl with | [_, _], _ => rfl
  have Fcaught := fun_mk (st := (top 22)) lcaught ccaught kcaught
  have bcaught := Fcaught.binds (ps := ["action"]) fun _ _ _ _ _ _ us hl => match us, hl with | [_], _ => rfl
  have Foh_same := fun_mk (st := s_oh_same) loh_same coh_same koh_same
  have boh_same := Foh_same.binds (ps := ["found", "due"]) fun _ _ _ _ _ _ us hl => match us, hl with | [_, _], _ => rfl
  have Fhd_size := fun_mk (st := s_hd_size) lhd_size chd_size khd_size
  have bhd_size := Fhd_size.binds (ps := ["kind"]) fun _ _ _ _ _ _ us hl => match us, hl with | [_], _ => rfl
  have Fhd_wanted := fun_mk (st := s_hd_wanted) lhd_wanted chd_wanted khd_wanted
  have bhd_wanted := Fhd_wanted.binds (ps := ["kind"]) fun _ _ _ _ _ _ us hl => match us, hl with | [_], _ => rfl
  have Fhd_signs := fun_mk (st := s_hd_signs) lhd_signs chd_signs khd_signs
  have bhd_signs := Fhd_signs.binds (ps := ["kind"]) fun _ _ _ _ _ _ us hl => match us, hl with | [_], _ => rfl
  have Fhd_parts := fun_mk (st := s_hd_parts) lhd_parts chd_parts khd_parts
  have bhd_parts := Fhd_parts.binds (ps := ["kind", "first", "found"]) fun _ _ _ _ _ _ us hl => match us, hl with | [_, _, _], _ => rfl
  have Fhd_any_kind := fun_mk (st := s_hd_any_kind) lhd_any_kind chd_any_kind khd_any_kind
  have bhd_any_kind := Fhd_any_kind.binds (ps := ["state", "deep"]) fun _ _ _ _ _ _ us hl => match us, hl with | [_, _], _ => rfl
  have Fhd_bad_kind := fun_mk (st := s_hd_bad_kind) lhd_bad_kind chd_bad_kind khd_bad_kind
  have bhd_bad_kind := Fhd_bad_kind.binds (ps := ["state"]) fun _ _ _ _ _ _ us hl => match us, hl with | [_], _ => rfl
  have Fk15_kind := fun_mk (st := s_k15_kind) lk15_kind ck15_kind kk15_kind
  have bk15_kind := Fk15_kind.binds (ps := ["state"]) fun _ _ _ _ _ _ us hl => match us, hl with | [_], _ => rfl
  have Fk15_right := fun_mk (st := s_k15_right) lk15_right ck15_right kk15_right
  have bk15_right := Fk15_right.binds (ps := ["kind"]) fun _ _ _ _ _ _ us hl => match us, hl with | [_], _ => rfl
  have Flaw := fun_mk (st := s_law) llaw claw klaw
  have blaw := Flaw.binds (ps := ["script"]) fun _ _ _ _ _ _ us hl => match us, hl with | [_], _ => rfl
  have tc := TC cL PL tlaw
  refine ⟨[(cL, PL)], fun p hp => by rw [List.mem_singleton.mp hp]; exact tc.2, fun p hp => by rw [List.mem_singleton.mp hp]; exact nlaw, fun p hp => by rw [List.mem_singleton.mp hp]; exact tc.1, PySem.W.fnOf "law" "law" (defArgs s_law) (defBody s_law) (defScope s_law) .none kV22 dc22 pm22 an22 (.ref cL) ct22, spLaw15 K PL, fun s u => .of_eq rfl,
    fun H a ns hl _ ht hS => ⟨a, ns, rfl, hS, hl, ht (cL, PL) (List.mem_singleton.mpr rfl), fun _ => rfl⟩, fun base _ _ TB => ?_⟩
  have Gis_kind : FnOk l.prog w K mg base CX0 1 f_is_kind _ ["value"] (spIsKind K) := ok_is_kind Fis_kind T
  have Gneed_kind : FnOk l.prog w K mg base (L2.CX l.prog w) 2 f_need_kind _ ["kind"] (spNeed K CBadKind) := ok_need_kind Fneed_kind XBadKind Gis_kind (gt gis_kind) kis_kind bis_kind
  have Gadd_rows : FnOk l.prog w K mg base CX0 60 f_add_rows _ ["kind", "asked", "rows"] (spAdd K 60) := ok_add_rows Fadd_rows T (gt gadd_rows) kadd_rows badd_rows 60
  have Gend_rows : FnOk l.prog w K mg base CX0 61 f_end_rows _ ["kind"] (spEndRows K) := ok_end_rows Fend_rows Gadd_rows (gt gadd_rows) kadd_rows badd_rows
  have Gsigns : FnOk l.prog w K mg base (L2.CX l.prog w) 62 f_signs _ ["kind"] (spTell CBadKind K (gSigns K)) := ok_signs Fsigns T Gneed_kind (gt gneed_kind) kneed_kind bneed_kind Gend_rows (gt gend_rows) kend_rows bend_rows
  have Gparts : FnOk l.prog w K mg base (L2.CX l.prog w) 62 f_parts _ ["kind"] (spTell CBadKind K (gParts K)) := ok_parts Fparts (gn zenumerate) Gneed_kind (gt gneed_kind) kneed_kind bneed_kind Gend_rows (gt gend_rows) kend_rows bend_rows
  have Gis_whole : FnOk l.prog w K mg base CX0 1 f_is_whole _ ["value"] (spWhole K) := ok_is_whole Fis_whole (gn zisinstance) (gn zint) (gn zbool)
  have Gkeeper : FnOk l.prog w K mg base (L2.CX l.prog w) 63 f_keeper _ ["kind", "end"] (spKeeper CBadKind CBadEnd K) := ok_keeper Fkeeper XBadEnd Gparts (gt gparts) kparts bparts Gis_whole (gt gis_whole) kis_whole bis_whole
  have Gbegun : FnOk l.prog w K mg base CX0 1 f_begun _ ["script"] (spBegun K) := ok_begun Fbegun (gn zabs)
  have Gblended : FnOk l.prog w K mg base CX0 1 f_blended _ ["state"] spBlended := ok_blended Fblended (gn zint)
  have Gdraw : FnOk l.prog w K mg base CX0 2 f_draw _ ["state", "room"] spDraw := ok_draw Fdraw (gn zint) Gblended (gt gblended) kblended bblended
  have Gpick : FnOk l.prog w K mg base CX0 3 f_pick _ ["state", "some"] (spPick K) := ok_pick Fpick (gn zlen) Gdraw (gt gdraw) kdraw bdraw
  have Gsz := fun n => ok_hd_size (P := l.prog) (w := w) (mg := mg) (base := base) Fhd_size (gt ghd_size) khd_size bhd_size n
  have Ghd_wanted : FnOk l.prog w K mg base CX0 1 f_hd_wanted _ ["kind"] (spWanted K) := ok_hd_wanted Fhd_wanted
  have Ghd_signs : FnOk l.prog w K mg base CX0 60 f_hd_signs _ ["kind"] (spSigns K 60) := ok_hd_signs Fhd_signs (gt ghd_signs) khd_signs bhd_signs 60
  have Ghd_parts : FnOk l.prog w K mg base CX0 61 f_hd_parts _ ["kind", "first", "found"] (spHParts K 60) := ok_hd_parts Fhd_parts (gt ghd_parts) khd_parts bhd_parts Ghd_wanted (gt ghd_wanted) khd_wanted bhd_wanted Gsz (gt ghd_size) khd_size bhd_size 60
  have Ghd_any_kind : FnOk l.prog w K mg base CX0 8 f_hd_any_kind _ ["state", "deep"] (spAny K 6) := ok_hd_any_kind Fhd_any_kind (gt ghd_any_kind) khd_any_kind bhd_any_kind Gdraw (gt gdraw) kdraw bdraw 6
  have Ghd_bad_kind : FnOk l.prog w K mg base CX0 4 f_hd_bad_kind _ ["state"] (spBad K) := ok_hd_bad_kind Fhd_bad_kind (gn zrange) Gpick (gt gpick) kpick bpick
  have Gk15_kind : FnOk l.prog w K mg base CX0 9 f_k15_kind _ ["state"] (spKind15 K) := ok_k15_kind Fk15_kind (gn zrange) Gdraw (gt gdraw) kdraw bdraw Gpick (gt gpick) kpick bpick Ghd_any_kind (gt ghd_any_kind) khd_any_kind bhd_any_kind
  have Goh : FnG l.prog w K mg base CX0 1 f_oh_same _ ["found", "due"] (spSame15 K) := ok_oh_same Foh_same (gn zrepr)
  have Gri : FnG l.prog w K mg base CX0 64 f_k15_right _ ["kind"] (spRight15 K) := ok_k15_right Fk15_right (gn zbool) (gn ztuple) (gn zlist) (gn zrange) (gn zlen) ⟨Ghd_signs, gt ghd_signs, khd_signs, bhd_signs⟩ ⟨Ghd_parts, gt ghd_parts, khd_parts, bhd_parts⟩ ⟨Gparts, gt gparts, kparts, bparts⟩ (fun s ws _ hl => match ws, hl with | [_], _ => .of_eq rfl) ⟨Gsigns, gt gsigns, ksigns, bsigns⟩ (fun s ws _ hl => match ws, hl with | [_], _ => .of_eq rfl) ⟨Gkeeper, gt gkeeper, kkeeper, bkeeper⟩ (fun s ws _ hl => match ws, hl with | [_, _], _ => .of_eq rfl) Goh (gt goh_same) koh_same boh_same
  exact ok_law15 llaw claw (TB (cL, PL) (List.mem_singleton.mpr rfl)) (gn zrange) (gn zmin) (gn zlen) (gn zisinstance) XBadKind XBadEnd eBadKind.kit eBadEnd.kit (gt aH) ⟨Gbegun, gt gbegun, kbegun, bbegun⟩ ⟨Gk15_kind, gt gk15_kind, kk15_kind, bk15_kind⟩ ⟨Gsz 60, gt ghd_size, khd_size, bhd_size⟩ Gri (gt gk15_right) kk15_right bk15_right ⟨Ghd_bad_kind, gt ghd_bad_kind, khd_bad_kind, bhd_bad_kind⟩ ⟨Gpick, gt gpick, kpick, bpick⟩ Fcaught (gt gcaught) kcaught bcaught ⟨Gsigns, gt gsigns, ksigns, bsigns⟩ ⟨Gparts, gt gparts, kparts, bparts⟩ ⟨Gkeeper, gt gkeeper, kkeeper, bkeeper⟩
end My
open PySem PySem.W PyProof.Rows
set_option maxRecDepth 100000 in
set_option maxHeartbeats 0 in
theorem PySem.Challenge.cw_oneuseheads_k15_ends_of_kinds_holds : PySem.Challenge.rw_oneuseheads_k15_ends_of_kinds.Holds := by
  w_on; o_law; k_head; (case hw => w_witness2)
  k_fill
  refine L2.walk_T (l := PySem.Challenge.rw_oneuseheads_k15_ends_of_kinds) (n := 63) (k := 68) (x := "script") rfl (by decide) rfl ⟨rfl, by decide, by decide⟩ (fun w h Y => PySem.W.km_in_of Y) ?F
  case F =>
    intro w mg fa h KX G hmg TC
    refine' My.all_mk KX G hmg (fun c P e => TC "law" _ c P rfl e) ?aH ?aBadKind ?bBadKind ?aBadEnd ?bBadEnd ?aT ?lT ?aM ?gis_kind ?lis_kind ?cis_kind ?kis_kind ?gneed_kind ?lneed_kind ?cneed_kind ?kneed_kind ?gis_whole ?lis_whole ?cis_whole ?kis_whole ?gend_rows ?lend_rows ?cend_rows ?kend_rows ?gadd_rows ?ladd_rows ?cadd_rows ?kadd_rows ?gsigns ?lsigns ?csigns ?ksigns ?gparts ?lparts ?cparts ?kparts ?gkeeper ?lkeeper ?ckeeper ?kkeeper ?gbegun ?lbegun ?cbegun ?kbegun ?gblended ?lblended ?cblended ?kblended ?gdraw ?ldraw ?cdraw ?kdraw ?gpick ?lpick ?cpick ?kpick ?gcaught ?lcaught ?ccaught ?kcaught ?goh_same ?loh_same ?coh_same ?koh_same ?ghd_size ?lhd_size ?chd_size ?khd_size ?ghd_wanted ?lhd_wanted ?chd_wanted ?khd_wanted ?ghd_signs ?lhd_signs ?chd_signs ?khd_signs ?ghd_parts ?lhd_parts ?chd_parts ?khd_parts ?ghd_any_kind ?lhd_any_kind ?chd_any_kind ?khd_any_kind ?ghd_bad_kind ?lhd_bad_kind ?chd_bad_kind ?khd_bad_kind ?gk15_kind ?lk15_kind ?ck15_kind ?kk15_kind ?gk15_right ?lk15_right ?ck15_right ?kk15_right ?glaw ?llaw ?claw ?klaw ?qlaw ?plaw ?tlaw ?nlaw ?zabs ?zint ?zlen ?zisinstance ?zbool ?ztuple ?zlist ?zrange ?zmin ?zrepr ?zenumerate
    (case aH => k_is)
    (case aBadKind => k_is)
    (case bBadKind => kernel_rfl)
    (case aBadEnd => k_is)
    (case bBadEnd => kernel_rfl)
    (case aT => k_is)
    (case lT => k_is)
    (case aM => k_is)
    (case gis_kind => k_is)
    (case lis_kind => k_is)
    (case cis_kind => k_is)
    (case kis_kind => k_is)
    (case gneed_kind => k_is)
    (case lneed_kind => k_is)
    (case cneed_kind => k_is)
    (case kneed_kind => k_is)
    (case gis_whole => k_is)
    (case lis_whole => k_is)
    (case cis_whole => k_is)
    (case kis_whole => k_is)
    (case gend_rows => k_is)
    (case lend_rows => k_is)
    (case cend_rows => k_is)
    (case kend_rows => k_is)
    (case gadd_rows => k_is)
    (case ladd_rows => k_is)
    (case cadd_rows => k_is)
    (case kadd_rows => k_is)
    (case gsigns => k_is)
    (case lsigns => k_is)
    (case csigns => k_is)
    (case ksigns => k_is)
    (case gparts => k_is)
    (case lparts => k_is)
    (case cparts => k_is)
    (case kparts => k_is)
    (case gkeeper => k_is)
    (case lkeeper => k_is)
    (case ckeeper => k_is)
    (case kkeeper => k_is)
    (case gbegun => k_is)
    (case lbegun => k_is)
    (case cbegun => k_is)
    (case kbegun => k_is)
    (case gblended => k_is)
    (case lblended => k_is)
    (case cblended => k_is)
    (case kblended => k_is)
    (case gdraw => k_is)
    (case ldraw => k_is)
    (case cdraw => k_is)
    (case kdraw => k_is)
    (case gpick => k_is)
    (case lpick => k_is)
    (case cpick => k_is)
    (case kpick => k_is)
    (case gcaught => k_is)
    (case lcaught => k_is)
    (case ccaught => k_is)
    (case kcaught => k_is)
    (case goh_same => k_is)
    (case loh_same => k_is)
    (case coh_same => k_is)
    (case koh_same => k_is)
    (case ghd_size => k_is)
    (case lhd_size => k_is)
    (case chd_size => k_is)
    (case khd_size => k_is)
    (case ghd_wanted => k_is)
    (case lhd_wanted => k_is)
    (case chd_wanted => k_is)
    (case khd_wanted => k_is)
    (case ghd_signs => k_is)
    (case lhd_signs => k_is)
    (case chd_signs => k_is)
    (case khd_signs => k_is)
    (case ghd_parts => k_is)
    (case lhd_parts => k_is)
    (case chd_parts => k_is)
    (case khd_parts => k_is)
    (case ghd_any_kind => k_is)
    (case lhd_any_kind => k_is)
    (case chd_any_kind => k_is)
    (case khd_any_kind => k_is)
    (case ghd_bad_kind => k_is)
    (case lhd_bad_kind => k_is)
    (case chd_bad_kind => k_is)
    (case khd_bad_kind => k_is)
    (case gk15_kind => k_is)
    (case lk15_kind => k_is)
    (case ck15_kind => k_is)
    (case kk15_kind => k_is)
    (case gk15_right => k_is)
    (case lk15_right => k_is)
    (case ck15_right => k_is)
    (case kk15_right => k_is)
    (case glaw => k_is)
    (case llaw => k_is)
    (case claw => k_is)
    (case klaw => k_is)
    (case qlaw => k_is)
    (case plaw => rfl)
    (case tlaw => kernel_rfl)
    (case nlaw => kernel_rfl)
    (case zabs => k_is)
    (case zint => k_is)
    (case zlen => k_is)
    (case zisinstance => k_is)
    (case zbool => k_is)
    (case ztuple => k_is)
    (case zlist => k_is)
    (case zrange => k_is)
    (case zmin => k_is)
    (case zrepr => k_is)
    (case zenumerate => k_is)
#print axioms PySem.Challenge.cw_oneuseheads_k15_ends_of_kinds_holds
