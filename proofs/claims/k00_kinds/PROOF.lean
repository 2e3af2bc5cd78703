import PyProof.Rows.All
import Wide.All
import OpenK.AllK
import Wide.FinOn
import HandS.ForMost
import HandS.Exc
import HandS.ExcOwn
import HandS.ExcInit
import HandS.ExcIs
import HandS.ExcValue
import HandS.FStr
import HandS.IsInst
import HandS.Defaults
import HandS.ExcField
import PyProof.FString2
import HandS.Lambda
import HandS.EndTab
import HandS.EndBits
import PyProof.ReprRoads
import HandS.TupAny
import HandS.CallLocal
import HandS.Style
import KE.KRevSl
import HandS.Walk
import HandS.DictComp
import HandS.ForDict
import HandS.WordsExc
import HandS.Finally
import HandS.TupLe
import PySem.Challenge.RW_oneuseheads_k00_kinds
import HandS.Conv
import HandS.Rev
import HandS.Text
set_option Elab.async false
set_option linter.all false
set_option maxRecDepth 100000
set_option maxHeartbeats 4000000
namespace MyX
open PySem PySem.W PySem.HandSPX
section
variable {M : Model} {A : Around} {E : Value → Shared → Prop} {h : Heap} {g : Array GenState} {d : Drawn} {t : Nat} {os : OsState} {prog : Program} {w : World} {R : Result → Shared → Prop}
  {nm q : Str} {C N : Addr} {bs bm bmB : List Value} {hdct : Bool} {sn : List Str} {sub : List Value} {ab : Bool} {col : Option Bool} {dd : Option Addr} {k0 k1 k2 k3 k5 : Option Value} {B newId initId : String}
  {kw : List (Str × Value)}
theorem chk_new (F : ExcBaseFacts B newId initId bmB) (hT : ∀ X : String, bm.contains (.type X) = bmB.contains (.type X)) {Q : Unit → Shared → Prop}
    (hC : h.get? C = some (excClassObj nm q C N bs bm hdct sn sub ab col dd k0 k1 k2 k3 k5 newId)) (hq : Q () ⟨h, g, d, t, os⟩) :
    wpAny M A (checkBuiltinCall newId ⟨[.ref C], kw⟩) Q E ⟨h, g, d, t, os⟩ := by
  have c1 : (Value.ref C :: bm).contains (.type B) = true := by rw [List.contains_cons, hT, F.hasB, Bool.or_true]
  have c2 := F.noStar
  simp only [checkBuiltinCall, F.newKind, F.newSplit, F.newRow]
  repeat (first
    | refine wpAny_loadPart_at hC ?_
    | (refine wpAny_isSubtype_exc hC ?_; rw [c1])
    | refine wpAny_staticBase_exc hC ?_
    | refine wpAny_madeBy_exc hC ?_
    | simp only [bne_self_eq_false, Bool.false_eq_true, if_false]
    | wp_step)
  exact hq

theorem run_new (F : ExcBaseFacts B newId initId bmB) (hT : ∀ X : String, bm.contains (.type X) = bmB.contains (.type X))
    (hC : h.get? C = some (excClassObj nm q C N bs bm hdct sn sub ab col dd k0 k1 k2 k3 k5 newId))
    (hq : R (.ok (.ret (.ref (h.objs.size + 1)))) ⟨(h.push (W.kdv_tup [])).push (excO C h.objs.size), g, d, t, os⟩) :
    codeAny (model prog w) A (.builtin newId ⟨[.ref C], kw⟩) R ⟨h, g, d, t, os⟩ := by
  have z1 := F.ends
  have c1 : (Value.ref C :: bm).contains (.type B) = true := by rw [List.contains_cons, hT, F.hasB, Bool.or_true]
  have c2 : (Value.ref C :: bm).contains (.type "AttributeError") = false := by
    rw [List.contains_cons, hT, F.noAttr]
    rfl
  have c3 : (Value.ref C :: bm).contains (.type "NameError") = false := by
    rw [List.contains_cons, hT, F.noName]
    rfl
  have hrest : ([] : List Value).length ≤ sizeLine := Nat.zero_le _
  refine codeAny_builtinAt F.entry ?_
  unfold Builtin.«BaseException.__new__»
  refine wpAt_bind ?_
  show wpAt _ _ _ (stack >>= _) _ _ _
  refine wpAt_bind (wpAt_stack fun p below => wpAt_of_wpAny ?_)
  wp_walk
  refine wpAt_of_wpAny ?_
  rw [F.owner]
  repeat (first
    | with_reducible refine wpAny_madeHere_exc F.canon hC ?_
    | with_reducible refine wpAny_loadPart_at hC ?_
    | (with_reducible refine wpAny_isSubtype_exc hC ?_; first | rw [c1] | rw [c2] | rw [c3])
    | wp_step)
  show R _ _
  rw [Heap.size_push]
  exact hq
theorem run_type_call (F : ExcBaseFacts B newId initId bmB) (hT : ∀ X : String, bm.contains (.type X) = bmB.contains (.type X)) {fI : Addr} {Q : Fin → Shared → Prop}
    (hC : h.get? C = some (excClassObj nm q C N bs bm hdct sn sub ab col dd k0 k1 k2 k3 k5 newId))
    (hi : W.Looks (model prog w) h (typeLookup (.ref C) "__init__") (some (.ref fI))) (hb : ∀ self, W.Looks (model prog w) h (bindSpecial (.ref fI) self) (.ref fI, [self]))
    (hq : codeAny (model prog w) A (.call (.ref fI) ⟨[.ref (h.objs.size + 1)], kw⟩)
      (fun r s' => match r with | .ok (.ret v) => v = .none ∧ Q (.done (.ret (.ref (h.objs.size + 1)))) s' | .ok _ => False | .error e => E e s')
      ⟨(h.push (W.kdv_tup [])).push (excO C h.objs.size), g, d, t, os⟩) :
    wpAny (model prog w) A (Builtin.«type.__call__» ⟨[.ref C], kw⟩) Q E ⟨h, g, d, t, os⟩ := by
  repeat (first | with_reducible refine wpAny_loadPart_at hC ?_ | with_reducible refine wpAny_madeBy_exc hC ?_ | wp_step)
  refine codeAny_call_builtin_code (Code.quiet_builtin _ F.quiet) (chk_new F hT hC ?_)
  refine run_new F hT hC ?_
  show wpAny _ _ _ _ _ _
  have kp : ∀ b o, h.get? b = some o → ((h.push (W.kdv_tup [])).push (excO C h.objs.size)).get? b = some o := fun b o e =>
    Heap.get?_push_of_some _ (Heap.get?_push_of_some _ e)
  have z1 := kp _ _ hC
  have z2 : ((h.push (W.kdv_tup [])).push (excO C h.objs.size)).get? (h.objs.size + 1) = some (excO C h.objs.size) := by heap_get
  have z3 : (Value.ref C :: bm).contains (.ref C) = true := by simp
  have z4 := hi.keeps kp
  have z5 := (hb (.ref (h.objs.size + 1))).keeps kp
  unfold isInstance
  repeat (first | with_reducible refine wpAny_loadPart_at z2 ?_ | (with_reducible refine wpAny_isSubtype_exc z1 ?_; rw [z3]) | wp_step)
  show wpAny _ _ (typeLookup (.ref C) _) _ _ _
  refine z4.at ?_
  refine wpAny_holding (wpAny_bind (z5.at ?_))
  refine wpAny_bind (wpAny_call (codeAny_mono hq fun r s' z => ?_))
  rcases r with e | (v | _ | _ | _) <;> first | exact z | exact z.elim | skip
  obtain ⟨rfl, z⟩ := z
  first
    | exact wpAny_pure (wpAny_pure z)
    | (wp_walk; exact z)
theorem chk_tc {Q : Unit → Shared → Prop} (hC : h.get? C = some (excClassObj nm q C N bs bm hdct sn sub ab col dd k0 k1 k2 k3 k5 newId)) (hq : Q () ⟨h, g, d, t, os⟩) :
    wpAny M A (checkBuiltinCall "type.__call__" ⟨[.ref C], kw⟩) Q E ⟨h, g, d, t, os⟩ := by
  have z1 := tc_sub
  have z2 : (⟨h, g, d, t, os⟩ : Shared).TypeIs (.ref C) "type" := ⟨_, hC, rfl⟩
  simp only [checkBuiltinCall, tc_kind, tc_split]
  repeat (any_goals (first | assumption | with_reducible refine wpAny_loadPart_at hC ?_ | with_reducible refine wpAny_onRaise ?_ | with_reducible refine wpAny_map ?_ | wp_step))
theorem call_kw (F : ExcBaseFacts B newId initId bmB) (hT : ∀ X : String, bm.contains (.type X) = bmB.contains (.type X)) {fI : Addr}
    (hC : h.get? C = some (excClassObj nm q C N bs bm hdct sn sub ab col dd k0 k1 k2 k3 k5 newId))
    (hi : W.Looks (model prog w) h (typeLookup (.ref C) "__init__") (some (.ref fI))) (hb : ∀ self, W.Looks (model prog w) h (bindSpecial (.ref fI) self) (.ref fI, [self]))
    (hq : codeAny (model prog w) (A.under (.builtin "type.__call__" ⟨[.ref C], kw⟩)) (.call (.ref fI) ⟨[.ref (h.objs.size + 1)], kw⟩) (W.InitBack (h.objs.size + 1) R)
      ⟨(h.push (W.kdv_tup [])).push (excO C h.objs.size), g, d, t, os⟩) :
    codeAny (model prog w) A (.call (.ref C) ⟨[], kw⟩) R ⟨h, g, d, t, os⟩ := by
  have f1 := tc_lookup
  have f2 := tc_bind (.ref C)
  have f3 : (⟨h, g, d, t, os⟩ : Shared).TypeIs (.ref C) "type" := ⟨_, hC, rfl⟩
  refine codeAny_of_tree ?_
  show wpAny _ _ (callAny (.ref C) _) _ _ _
  repeat (any_goals (first | assumption | with_reducible refine wpAny_loadPart_at hC ?_ | wp_step))
  refine ⟨rfl, ?_⟩
  refine codeAny_call_builtin_at (Code.quiet_builtin _ (by decide +kernel)) entry_typeCall (chk_tc hC (run_type_call F hT hC hi hb ?_))
  refine codeAny_mono hq fun r s' z => ?_
  rcases r with e | (v | _ | _ | _) <;> exact z
end
end MyX
namespace L2
open PySem PySem.Spec PyProof.Rows

/-! ### an own exception class with an __init__ of its own: C(e), C(k = e) as values -/
/-- C(e, ..) as a value: __init__ keeps sp at the new exception a, and leaves it as it leaves it -/
def tExcV (C : Addr) (sp : Sp) (ta : TA) : TE := fun σ H Q => ta σ H fun vs H1 => vs.length ≤ 1000 ∧ ∀ a, H1 a = none → sp (.ref a :: vs) (upd H1 a (exo a C none)) (fun v H2 => v = .non ∧ Q (.ref a) H2) fun _ _ _ => False
def tExcK (C : Addr) (m : Nat) (sp : Sp) (gV : List V → List V) (tk : TA) : TE := fun σ H Q => tk σ H fun zs H1 => zs.length = m ∧ ∀ a, H1 a = none → sp (.ref a :: gV zs) (upd H1 a (exo a C none)) (fun v H2 => v = .non ∧ Q (.ref a) H2) fun _ _ _ => False
section
variable {X : Cx} {CX : CXT} {x : Str} {C fI : Addr} {k : Nat} {fd : FuncData} {ps : List Str} {sp : Sp} {ta : TA} {p pos : Pos} {e : Expr} {es : List Expr}
theorem run_excV {pins : List (Addr × Obj)} {σ : St} {H : Hp} {s : Shared} {Q : VK} {us : List Value} {vs : List V} {kw : List (Str × Value)} {us' : List Value} (T : OexC X.K C) (iC : PySem.W.findIn X.K (.ref C) "__init__" = some (some (.ref fI)))
    (tI : PySem.W.typeIn X.K (.ref fI) = some (.type "function")) (F1 : FnOk X.prog X.w X.K X.mg X.base CX k fI fd ps sp) (hr : Room (k + 1) X.A) (hx : Passes CX X (fun _ _ _ => False))
    (I : Inv X pins σ H s) (hk : kw = [] ∨ us = []) (hus : us.length ≤ sizeLine)
    (hbind : ∀ s' : Shared, X.K.In s'.heap → ∀ a : Addr, BindsTo s' fd ⟨.ref a :: us, kw⟩ (ps.zip (.ref a :: us'))) (r : Vals vs us')
    (q1 : ∀ a, H a = none → sp (.ref a :: vs) (upd H a (exo a C none)) (fun v H2 => v = .non ∧ Q (.ref a) H2) fun _ _ _ => False) :
    wpAny (model X.prog X.w) X.A (call (.ref C) us kw) (EP X pins σ Q) X.xe s := by
  obtain ⟨nm, q, N, bs, bm, sn, sub, ab, col, dd, k0, k1, k2, k3, k5, hC, hbm⟩ := T.cls
  obtain ⟨hp, g, dr, tk, os⟩ := s
  have z1 : hp.objs.size ≤ hp.objs.size + 1 := Nat.le_succ _
  have z2 : H (hp.objs.size + 1) = none := I.hok.fresh z1
  have hq := q1 (hp.objs.size + 1) z2
  have z3 : ((hp.push (PySem.W.kdv_tup us)).push (PySem.HandSPX.excO C hp.objs.size)).get? (hp.objs.size + 1) = some (PySem.HandSPX.excO C hp.objs.size) := by heap_get
  have I2 : Inv X pins σ (upd H (hp.objs.size + 1) (exo (hp.objs.size + 1) C none)) ⟨(hp.push (PySem.W.kdv_tup us)).push (PySem.HandSPX.excO C hp.objs.size), g, dr, tk, os⟩ :=
    I.laid (t' := tk) (fun b o e => Heap.get?_push_of_some _ (Heap.get?_push_of_some _ e)) z1 (exo_ok z3)
  have z4 : Vals (V.ref (hp.objs.size + 1) :: vs) (Value.ref (hp.objs.size + 1) :: us') := .cons rfl r
  have kp : ∀ b o, hp.get? b = some o → _ := fun b o e => Heap.get?_push_of_some (PySem.HandSPX.excO C hp.objs.size) (Heap.get?_push_of_some (PySem.W.kdv_tup us) e)
  have back : ∀ (r : Result) (s' : Shared), CR CX X.stack X.prog X.w (upd H (hp.objs.size + 1) (exo (hp.objs.size + 1) C none)) ⟨(hp.push (PySem.W.kdv_tup us)).push (PySem.HandSPX.excO C hp.objs.size), g, dr, tk, os⟩
      (fun v H2 => v = .non ∧ Q (.ref (hp.objs.size + 1)) H2) (fun _ _ _ => False) r s' →
      PySem.W.InitBack (hp.objs.size + 1) (fun r s' => match r with | .ok (.ret v) => EP X pins σ Q v s' | .ok _ => False | .error e => X.xe e s') r s' := by
    intro r s' hq'
    cases r with
    | error e => exact hx pins σ _ _ e s' I2 hq'
    | ok fl =>
      cases fl with
      | ret u =>
        obtain ⟨v, H', I3, rv, ev, q3⟩ := I2.after hq'
        subst ev
        exact ⟨rv, V.ref (hp.objs.size + 1), H', I3, rfl, q3⟩
      | next => exact False.elim hq'
      | brk => exact False.elim hq'
      | cont => exact False.elim hq'
  have run1 := F1.run (X.A.under (.builtin "type.__call__" ⟨.ref C :: us, kw⟩)) X.stack ⟨(hp.push (PySem.W.kdv_tup us)).push (PySem.HandSPX.excO C hp.objs.size), g, dr, tk, os⟩ _ ⟨.ref (hp.objs.size + 1) :: us, kw⟩ _ _ _ _ (hr.make C us kw) (I2.env0.make C us kw)
    (hbind _ I2.kIn _) z4 hq
  rcases hk with rfl | rfl
  · exact wpAny_call (PySem.HandSPX.call_own F.excBase_ValueError (fun Y => PySem.HandSPX.refsVE_contains Y bm hbm) (I.kIn _ _ hC) (PySem.W.looks_findIn I.kIn iC) (fun self => PySem.W.bind_fn I.kIn self tI) hus (codeAny_mono run1 back))
  · exact wpAny_call (MyX.call_kw F.excBase_ValueError (fun Y => PySem.HandSPX.refsVE_contains Y bm hbm) (I.kIn _ _ hC) (PySem.W.looks_findIn I.kIn iC) (fun self => PySem.W.bind_fn I.kIn self tI) (codeAny_mono run1 back))
end
end L2
set_option Elab.async false
set_option linter.all false
set_option maxRecDepth 100000
set_option maxHeartbeats 4000000
namespace L2
open PySem PySem.Spec PyProof.Rows
section
variable {X : Cx} {CX : CXT} {x : Str} {C fI : Addr} {k : Nat} {fd : FuncData} {ps : List Str} {sp : Sp} {ta tk : TA} {p pos : Pos} {e : Expr} {es : List Expr}
theorem pe_excV (T : OexC X.K C) (iC : PySem.W.findIn X.K (.ref C) "__init__" = some (some (.ref fI))) (tI : PySem.W.typeIn X.K (.ref fI) = some (.type "function"))
    (F1 : FnOk X.prog X.w X.K X.mg X.base CX k fI fd ps sp) (hr : Room (k + 1) X.A) (hb : Binds X.K fd ps []) (hx : Passes CX X (fun _ _ _ => False)) (hg : Gl X x) (hm : X.mg x = some (.ref C)) (ha : PA X (e :: es) ta)
    (hdb : (x == ("__debug__" : Str)) = false := by decide) (he : starEach (e :: es) X.env = (false, eval e X.env) :: starEach es X.env := by rfl) (hpl : (backTo pos (starEach es X.env)).any (·.1) = false := by rfl) :
    PE X (.Call (.Name x p) (e :: es) [] pos) (tExcV C sp ta) := by
  refine ⟨fun pins s σ H Q I h => wpAny_Call_Name_kw (ld_glob I hg hm ?_ hdb)⟩
  refine PySem.W.callWith_K (h₀ := X.base) I.ok.mod.kin T.kC (thn (ha.run pos pins s σ H _ I h) fun us s1 ⟨vs, H1, I1, r1, hz, q1⟩ => ⟨I1.kIn, ?_⟩) he hpl
  have hl : (V.ref 0 :: vs).length = ps.length := by
    have := F1.len _ _ _ _ (q1 s1.heap.objs.size (I1.hok.fresh (Nat.le_refl _)))
    simpa using this
  refine run_excV (kw := []) T iC tI F1 hr hx I1 (.inl rfl) ?_ (fun s' X' a => ?_) r1 q1
  · show us.length ≤ sizeLine
    rw [← r1.length, sizeLine_eq]
    omega
  · have b := hb s' (.ref a :: us) X' (by
      rw [List.append_nil, List.length_cons, ← r1.length, ← hl, List.length_cons])
    rw [List.append_nil] at b
    exact b
theorem pe_excK {ks : List Str} {kws : List Keyword} {g : List Value → List Value} {gV : List V → List V} (T : OexC X.K C) (iC : PySem.W.findIn X.K (.ref C) "__init__" = some (some (.ref fI))) (tI : PySem.W.typeIn X.K (.ref fI) = some (.type "function"))
    (F1 : FnOk X.prog X.w X.K X.mg X.base CX k fI fd ps sp) (hr : Room (k + 1) X.A) (hx : Passes CX X (fun _ _ _ => False)) (hg : Gl X x) (hm : X.mg x = some (.ref C)) (hkw : PK X kws tk)
    (hb : ∀ (s : Shared) (a : Addr) (ws : List Value), X.K.In s.heap → ws.length = ks.length → BindsTo s fd ⟨[.ref a], ks.zip ws⟩ (ps.zip (.ref a :: g ws))) (hrel : ∀ {zs : List V} {ws : List Value}, Vals zs ws → Vals (gV zs) (g ws))
    (hall : (backToKw pos (keywordEach kws X.env)).all (·.1.isSome) = true := by rfl) (hks : (backToKw pos (keywordEach kws X.env)).filterMap (·.1) = ks := by rfl) (hdb : (x == ("__debug__" : Str)) = false := by decide)
    (hpl : ((backTo pos (starEach [] X.env)).any (·.1) || (backToKw pos (keywordEach kws X.env)).any (·.1.isNone)) = false := by rfl) :
    PE X (.Call (.Name x p) [] kws pos) (tExcK C ks.length sp gV tk) := by
  refine ⟨fun pins s σ H Q I h => wpAny_Call_Name_kw (ld_glob I hg hm ?_ hdb)⟩
  refine PySem.W.callWith_KW0 (h₀ := X.base) I.ok.mod.kin T.kC hall ?_ hpl
  refine thn (hkw.run pos pins s σ H _ I h) fun ws s2 ⟨zs, H2, I2, rz, l2, q2⟩ => ⟨I2.kIn, ?_⟩
  rw [hks]
  exact run_excV (us := []) (us' := g ws) T iC tI F1 hr hx I2 (.inr rfl) (Nat.zero_le _) (fun s' X' a => hb s' a ws X' (rz.length.symm.trans l2)) (hrel rz) q2
end

/-- a class, or a def, by its name, as a value -/
theorem pe_cls {X : Cx} {x : Str} {C : Addr} {pos : Pos} (hm : X.mg x = some (.ref C)) (hg : Gl X x := by rfl) (hd : (x == ("__debug__" : Str)) = false := by decide) :
    PE X (.Name x pos) (tC (.ref C)) := pe_glob (v := .ref C) hg hm rfl hd

/-! ### HeadError.__init__(self, e): the base's own -/
/-- what the written part says of a base class at D, so that D.__init__ is ValueError's -/
structure BasC (K : PySem.W.Frag) (D : Addr) : Prop where
  kD : PySem.W.keepIn K (.ref D) = true
  sg : PySem.W.specialIn K (.ref D) "__getattribute__" = some (some (.builtin "type.__getattribute__"))
  rd : PySem.W.readsIn K D (.type "type") = true
  fi : PySem.W.findCls K (.ref D) (.type "type") "__init__" = some (.val (.builtin "ValueError.__init__"))
section
variable {X : Cx} {x : Str} {D : Addr} {ta : TA} {p1 p2 pos : Pos} {e : Expr} {es : List Expr}
theorem pe_clsinit {pl : Sem Bool} (B : BasC X.K D) (hg : Gl X x) (hm : X.mg x = some (.ref D)) (ha : PA X (e :: es) ta)
    (hc : eval (.Call (.Attribute (.Name x p1) "__init__" p2) (e :: es) [] pos) X.env = (do
      let ov ← eval (.Name x p1) X.env
      standAt p2.atName
      let (f, first) ← holding [ov] (getMethod ov "__init__" pl)
      callWith pos f first (backTo pos (starEach (e :: es) X.env)) (backToKw pos (keywordEach [] X.env))) := by rfl)
    (hdb : (x == ("__debug__" : Str)) = false := by decide)
    (he : starEach (e :: es) X.env = (false, eval e X.env) :: starEach es X.env := by rfl) (hpl : (backTo pos (starEach es X.env)).any (·.1) = false := by rfl) :
    PE X (.Call (.Attribute (.Name x p1) "__init__" p2) (e :: es) [] pos) (tVeI X.K ta) := by
  refine ⟨fun pins s σ H Q I h => PySem.W.methodCall_KW (ld_glob I hg hm ?_ hdb) hc⟩
  refine PySem.W.method_cls I.kIn B.sg (PySem.W.cls_value I.kIn B.rd B.fi (by decide +kernel) ?_)
  show wpAny _ _ (callWith pos (Value.builtin "ValueError.__init__") [] (backTo pos (starEach (e :: es) X.env)) []) _ _ _
  refine PyProof.Rows.callWith_method1 (thn (ha.run pos pins _ σ H _ (I.tok _) h) fun us s1 hh => ?_) he hpl
  obtain ⟨vs, H1, I1, r1, a, C, ws, ev, hl, T, ea, q⟩ := hh
  subst ev
  cases r1 with
  | @cons _ u0 _ ur ra rw' =>
    obtain rfl : u0 = Value.ref a := ra
    refine oinit_ok T I1 ea ?_ fun s' J => ⟨.non, H1, J, rfl, q⟩
    rw [← Paired.length rw', sizeLine_eq]
    omega
end

/-! ### e.f, e an exception that stands as a value -/
def tXfV (K : PySem.W.Frag) (n : Str) (te : TE) : TE := fun σ H Q => te σ H fun x H1 => ∃ (a C dd : Addr) (fs : List (Str × V)) (v : V), x = .ref a ∧ XfC K C ∧ PySem.W.findIn K (.ref C) n = some none ∧
  H1 a = some (exo a C (some dd)) ∧ H1 dd = some (exd dd fs) ∧ fs.lookup n = some v ∧ Q v H1
theorem exo_inst {X : Cx} {pins : List (Addr × Obj)} {σ : St} {H : Hp} {s : Shared} {a C dd : Addr} {fs : List (Str × V)} (I : Inv X pins σ H s) (e1 : H a = some (exo a C (some dd))) (e2 : H dd = some (exd dd fs)) :
    ∃ (oe od : Obj) (mA : Str → Option Value), PySem.W.InstAt s.heap a oe C (some od) ∧ (∀ n, PySem.W.lookIn n od = some (mA n)) ∧ ∀ f, RelO (fs.lookup f) (mA f) := by
  obtain ⟨t1, ho⟩ := exo_at I.hok e1
  obtain ⟨mA, hns, rel⟩ := exd_at I.hok e2
  obtain ⟨od, hod, hl⟩ := lookIn_ns hns
  exact ⟨_, od, mA, ⟨ho, rfl, rfl, hod⟩, hl, rel⟩
theorem pe_xfV {X : Cx} {te : TE} {e : Expr} {n : Str} {pos : Pos} (he : PE X e te) (hb : attributeBase e n X.env (eval e X.env) = eval e X.env := by rfl) : PE X (.Attribute e n pos) (tXfV X.K n te) := by
  refine ⟨fun pins s σ H Q I h => attr_of hb (thn (he.run pins s σ H _ I h) fun u s1 hh => ?_)⟩
  obtain ⟨x, H1, I1, rx, a, C, dd, fs, v, ex, T, hno, ea, ed, l, q⟩ := hh
  subst ex
  obtain rfl : u = Value.ref a := rx
  obtain ⟨oe, od, mA, J, hl, hr⟩ := exo_inst I1 ea ed
  obtain ⟨u, hu, ru⟩ := RelO.some_of (v := v) (o := mA n) (by rw [← l]; exact hr n)
  exact HandSPX.exc_get I1.kIn J T.ga T.gg T.exC (PySem.W.findObj_own T.hdC hno rfl (by rw [hl, hu])) (handed_of ru) ⟨v, H1, I1.tok _, ru, q⟩
end L2
namespace MyX
open PySem PySem.W PySem.Calls PyProof.Rows
section
variable {prog : Program} {w : World} {A : Around} {E : Value → Shared → Prop} {s : Shared} {K : Frag} {x D : Addr} {ox : Obj} {od : Option Obj}
theorem findObj_dat {C : Addr} {name : Str} {a g : Value} (hc : (clsIn K C).isSome = true) (ha : findIn K (.ref C) name = some (some a)) (hg : specialIn K a "__get__" = some (some g)) (ht : takesIn K a = some true) :
    findObj K C od name = some (.bind g a) := by
  obtain ⟨cd, hc⟩ := Option.isSome_iff_exists.mp hc
  unfold findObj
  rw [hc, Option.bind_some, ha, Option.bind_some]
  simp [hg, ht]
theorem own_class {Q : Option Value → Shared → Prop} (C : L2.ExcC K D) (X : K.In s.heap) (I : InstAt s.heap x ox D od) (h : Q (some (.ref D)) { s with toks := s.toks + 1 }) :
    wpAny (model prog w) A (getAttr? (.ref x) "__class__") Q E s := by
  have z0 : findObj K D od "__class__" = some (.bind (.builtin "getset_descriptor.__get__") (.builtin "object.__class__")) :=
    findObj_dat (by obtain ⟨cd, hc, _⟩ := any_some C.hd; rw [hc]; rfl) C.ha C.hn C.ht
  obtain ⟨hp, g, d, t, os⟩ := s
  have b0 := I.type (M := model prog w)
  have b1 := looks_findIn (M := model prog w) X C.hg
  have b2 := looks_findIn (M := model prog w) X C.hk
  have b3 := looks_find (M := model prog w) X I z0
  have b4 : Looks (model prog w) hp (isInstance (.ref x) (.type "BaseException")) true := b0.andThen (looks_subIn X C.hs)
  have c0 : (false && onTheHeap (Value.builtin "BaseException.__getattribute__")) = false := rfl
  have c1 : (Value.builtin "BaseException.__getattribute__" == Value.builtin "object.__getattribute__") = false := by decide +kernel
  have c2 : (onTheHeap (Value.ref D) && Value.builtin "BaseException.__getattribute__" == Value.builtin "object.__getattribute__") = false := by
    rw [c1]
    rfl
  unfold getAttr? getAttrBy? getAttrBy
  refine wpAny_bind (wpAny_mkText (wpAny_bind (wpAny_attempt (wpAny_holding (wpAny_bind (b0.at (wpAny_bind (b1.at ?_))))))))
  show wpAny _ _ (if (onTheHeap (Value.ref D) && Value.builtin "BaseException.__getattribute__" == Value.builtin "object.__getattribute__") = true then _ else _) _ _ _
  rw [c2, if_neg Bool.false_ne_true]
  unfold getAttrByItsOwn hookBefore
  refine wpAny_bind ?_
  rw [if_pos (show onTheHeap (Value.ref D) = true from rfl)]
  refine b2.at (wpAny_bind (wpAny_attempt (wpAny_holding ?_)))
  unfold callGetattribute
  rw [c0, if_neg Bool.false_ne_true]
  unfold boundAndCalled
  rw [PySem.F.excAttr_ValueError.ga.bind (.ref x)]
  refine wpAny_bind (wpAny_pure ?_)
  show wpAny _ _ (call (.builtin "BaseException.__getattribute__") [.ref x, .str "__class__" t]) _ _ _
  refine wpAny_call (codeAny_call_builtin PySem.F.excAttr_ValueError.ga.plain PySem.F.entry_bexc_ga (@check_slot (model prog w) _ _ ⟨hp, g, d, t + 1, os⟩ "BaseException.__getattribute__" "BaseException" "__getattribute__" (.ref x)
    [.str "__class__" t] [] _ (by decide +kernel) (by decide +kernel) b4 (PySem.F.args_bexc_ga (.ref x) (.str "__class__" t)) ?_))
  unfold Builtin.«object.__getattribute__»
  refine wpAny_bind (wpAny_of_eq (a := ((Value.ref x : Value), [Value.str "__class__" t])) (by first | rfl | (simp only [slotArgs]; rfl)) ?_)
  refine wpAny_bind (wpAny_pure (wpAny_bind (b0.at (wpAny_bind (b3.at ?_)))))
  show wpAny _ _ (holding [Value.builtin "object.__class__"] (call (.builtin "getset_descriptor.__get__") [.builtin "object.__class__", .ref x, .ref D]) >>= ret) _ _ _
  refine wpAny_bind (wpAny_holding (wpAny_call (class_get (s := ⟨hp, g, d, t + 1, os⟩) (ox := ox) (od := od) X I C.hm (wpAny_pure ?_))))
  show wpAny _ _ (handedOut (.ref D)) _ _ _
  rw [handedOut_of (v := .ref D) rfl]
  first
    | exact wpAny_pure (wpAny_pure h)
    | exact wpAny_pure h
    | exact wpAny_pure (wpAny_bind (wpAny_pure (wpAny_pure h)))
theorem cls_there (C : L2.ExcC K D) : ∃ oc od cd osl, K.lookup D = some ⟨oc, od, .cls cd, osl⟩ := by
  obtain ⟨cdD, hcD, _⟩ := any_some C.hd
  unfold clsIn at hcD
  split at hcD
  · rename_i c' d' cd' sl' ho
    exact ⟨_, _, _, _, ho⟩
  · cases hcD
theorem kitx_own (C : L2.ExcC K D) : KitX K (.ref x) (.ref D) (fun h => ∃ ox od, InstAt h x ox D od) where
  ty := fun _ _ _ ⟨_, _, I⟩ => I.type
  it := fun _ _ X _ => by
    obtain ⟨oc, od, cd, osl, ho⟩ := cls_there C
    intro A' Q' E' s' kq q
    unfold isType loadHead
    exact wpAny_bind (wpAny_loadPart (kq _ _ (X _ _ ho)) (wpAny_pure q))
  ne := fun h tp dd its n sl X htp => by
    obtain ⟨oc, od, cd, osl, ho⟩ := cls_there C
    refine Bool.eq_false_iff.mpr fun q => ?_
    have e : D = tp := Value.ref.inj (beq_iff_eq.mp q)
    subst e
    cases (X _ _ ho).symm.trans htp
  ca := fun X ⟨_, _, I⟩ k => own_class C X I k
end
end MyX
namespace L2
open PySem PySem.Spec PyProof.Rows
/-- at a stands an exception of the class at D, made and not raised -/
def ExcAt (H : Hp) (a D : Addr) : Prop := H a = some (ExO (.ref D) a) ∨ ∃ (dd : Addr) (fs : List (Str × V)), H a = some (exo a D (some dd)) ∧ H dd = some (exd dd fs)
theorem ExcAt.same {H H' : Hp} {a D : Addr} (h : ExcAt H a D) (k : ∀ b o, H b = some o → (∀ kv, o ≠ .dK kv) → (∀ xs, o ≠ .lst xs) → H' b = some o) : ExcAt H' a D := by
  have nd : ∀ (φ : Heap → Prop) kv, HO.ext φ ≠ .dK kv := fun _ _ z => HO.noConfusion z
  have nl : ∀ (φ : Heap → Prop) xs, HO.ext φ ≠ .lst xs := fun _ _ z => HO.noConfusion z
  rcases h with h | ⟨dd, fs, h1, h2⟩
  · exact .inl (k _ _ h (nd _) (nl _))
  · exact .inr ⟨dd, fs, k _ _ h1 (nd _) (nl _), k _ _ h2 (nd _) (nl _)⟩
/-- isinstance(e, c), e such an exception -/
def rIsV (K : PySem.W.Frag) : List V → Hp → VK → Prop := fun xs H Q => ∃ (a D : Addr) (c : V) (cv : Value) (b : Bool), xs = [.ref a, c] ∧ ExcAt H a D ∧ ExcC K D ∧ (∀ u, RelV c u → u = cv) ∧ PySem.W.kitOne K (.ref D) cv = some b ∧ Q (.bl b) H
theorem call_isV {X : Cx} : CallR X (.builtin "isinstance") (rIsV X.K) := by
  intro pins s σ H xs us Q I r h
  obtain ⟨a, D, c, cv, b, rfl, hA, C, hcv, e, q⟩ := h
  obtain ⟨u1, u2, rfl, r1, r2⟩ := vals2 r
  cases (show u1 = Value.ref a from r1)
  have ec := hcv _ r2
  subst ec
  have J : ∃ ox od, PySem.W.InstAt s.heap a ox D od := by
    rcases hA with hA | ⟨dd, fs, h1, h2⟩
    · obtain ⟨⟨oe, vs, ho, hz, hd, _⟩, _, _⟩ := I.hok a _ hA
      obtain ⟨oc, odd, oda, osl⟩ := oe
      obtain ⟨e1, e2⟩ := hz
      dsimp only at e1 e2 hd
      subst e1 e2 hd
      exact ⟨_, none, ho, rfl, rfl, trivial⟩
    · obtain ⟨oe, od, mA, J, _⟩ := exo_inst I h1 h2
      exact ⟨oe, some od, J⟩
  exact PySem.W.kia_one (MyX.kitx_own C) I.kIn J e (fun z => nomatch z) fun tk => ⟨.bl b, H, I.kept (t' := tk) fun _ _ z => z, rfl, q⟩

/-! ### {x} in an f-string, x a text, an int, None -/
def tFmtN (te : TE) : TE := fun σ H Q => te σ H fun x H1 =>
    (∃ y : Str, x = .str y ∧ y.length ≤ sizeLine ∧ Q (.str y) H1) ∨ (∃ i : Int, x = .int i ∧ i.natAbs.log2 < 1920 ∧ Q (.str (toString i)) H1) ∨ (x = .non ∧ Q (.str "None") H1)
theorem pe_fmtN {X : Cx} {e : Expr} {te : TE} {pos : Pos} (he : PE X e te) : PE X (.FormattedValue e (-1) none pos) (tFmtN te) := by
  refine ⟨fun pins s σ H Q I h => wpAny_FormattedValue_plain (thn (he.run pins s σ H _ I h) fun v s1 hv => ?_)⟩
  obtain ⟨x, H1, I1, r1, q⟩ := hv
  rcases q with ⟨y, rfl, hz, q⟩ | ⟨i, rfl, hz, q⟩ | ⟨rfl, q⟩
  · obtain ⟨t, rfl⟩ := r1
    exact wpAny_formatField_str ⟨.str y, H1, I1, ⟨t, rfl⟩, q⟩ ⟨.str y, H1, I1.tok _, ⟨_, rfl⟩, q⟩ hz
  · obtain ⟨t, rfl⟩ := r1
    exact wpAny_formatField_int hz ⟨.str (toString i), H1, I1.tok _, ⟨_, rfl⟩, q⟩
  · cases r1
    exact wpAny_formatField_none ⟨.str "None", H1, I1.tok _, ⟨_, rfl⟩, q⟩
end L2
set_option Elab.async false
set_option linter.all false
set_option maxRecDepth 100000
set_option maxHeartbeats 4000000
namespace L2
open PySem PySem.Spec PyProof.Rows
/-! ### a caught exception that is kept -/
/-- at a: an exception that has been raised and caught, of the class cls, its own dict d -/
def ExI (a : Addr) (cls : Value) (d : Option Addr) : HO := .ext fun h => ∃ oe : Obj, h.get? a = some oe ∧ Zc cls d oe ∧ ∃ vs, oe.data = .fields vs
theorem exI_ok {P : Program} {w : World} {H : Hp} {h : Heap} {a : Addr} {cls : Value} {d : Option Addr} {oe : Obj} {vs : Array Value} (e : h.get? a = some oe) (z : Zc cls d oe) (k : oe.data = .fields vs) : ObjOk P w H h a (ExI a cls d) :=
  ⟨⟨oe, e, z, vs, k⟩, ⟨oe, e⟩, fun _ _ ⟨o, q, r⟩ st => ⟨o, st o q, r⟩⟩
section
variable {X : Cx} {pins : List (Addr × Obj)} {σ : St} {H : Hp} {s : Shared}
/-- an object that was not there at the entry is tracked from now on -/
theorem Inv.track {a : Addr} {o : HO} {oe : Obj} {vs : Array Value} (I : Inv X pins σ H s) (he : s.heap.get? a = some oe) (hd : oe.data = .fields vs) (na : H a = none) (nL : a ≠ X.env.locals) (n0 : X.s_0.heap.get? a = none) (nP : ∀ p ∈ X.pn ++ pins, p.1 ≠ a)
    (ok : ObjOk X.prog X.w (upd H a o) s.heap a o) : Inv X pins σ (upd H a o) s := by
  have ne0 : ∀ {b : Addr} {u : Obj}, X.s_0.heap.get? b = some u → b ≠ a := fun {b u} e z => by rw [z, n0] at e; cases e
  have neH : ∀ {b : Addr} {u : HO}, H b = some u → b ≠ a := fun e => ne_of_none e na
  have neC : ∀ {x c}, X.env.cells.lookup x = some c → c ≠ a := fun {x c} e z => by
    obtain ⟨v, oc, h1, h2⟩ := I.cell x c e
    rw [z, he] at h1
    cases h1
    rw [hd] at h2
    cases h2
  have B := I.base
  exact {
    ok := I.ok, os := I.os, bare := I.bare, loc := I.loc, cell := I.cell, len := I.len
    base := { keep := B.keep, slot := B.slot, there := B.there
              free := fun b u e n hx => by rw [upd_ne (ne0 e)]; exact B.free b u e n hx
              tups := fun b xs e => by rw [upd_ne (neH (B.tups b xs e))]; exact B.tups b xs e
              frzs := fun b u z e => by rw [upd_ne (neH (B.frzs b u z e))]; exact B.frzs b u z e
              tbls := fun b ps e => by
                obtain ⟨m, q⟩ := B.tbls b ps e
                exact ⟨m, by rw [upd_ne (neH q)]; exact q⟩ }
    free := by rw [upd_ne nL.symm]; exact I.free
    freeC := fun x c e => by rw [upd_ne (neC e)]; exact I.freeC x c e
    pin := fun p hp => by
      obtain ⟨h1, h2, h3⟩ := I.pin p hp
      exact ⟨h1, by rw [upd_ne (nP p hp)]; exact h2, h3⟩
    hok := fun b u e => by
      by_cases hb : b = a
      · subst hb
        rw [upd_same] at e
        cases e
        exact ok
      · rw [upd_ne hb] at e
        exact (I.hok b u e).stay (fun _ _ _ q => q) (fun c q => by rw [upd_ne (neH q)]; exact q) fun c xs q => by rw [upd_ne (neH q)]; exact q }
/-- into the suite and out of it -/
theorem Inv.intoSuite (I : Inv X pins σ H s) (a : Addr) : Inv (X.suite a (X.pn ++ pins)) [] σ H s where
  ok := I.ok.suite _ _
  os := I.os
  bare := I.bare
  base := I.base
  loc := I.loc
  cell := I.cell
  free := I.free
  freeC := I.freeC
  pin := fun p hp => I.pin p (by rw [List.append_nil] at hp; exact hp)
  hok := I.hok
  len := I.len
theorem Inv.fromSuite {a : Addr} (I : Inv (X.suite a (X.pn ++ pins)) [] σ H s) (ok : X.Ok) : Inv X pins σ H s where
  ok := ok
  os := I.os
  bare := I.bare
  base := I.base
  loc := I.loc
  cell := I.cell
  free := I.free
  freeC := I.freeC
  pin := fun p hp => I.pin p (by rw [List.append_nil]; exact hp)
  hok := I.hok
  len := I.len
end
/-- what «except x as n» wishes, where every error of the body is one of x's; it is tracked in the suite and behind it -/
def wTrk (K : PySem.W.Frag) (c : Value) (i m : Nat) (ts : Addr → TS) (D : Ends) : WX := fun cls d σ H => PySem.W.exmOne K cls c = some true ∧ ∀ a, H a = none → σ.length = m →
  ts a { nx := fun σ' H' => D.nx (σ'.set i none) H', rt := D.rt, bk := fun σ' H' => D.bk (σ'.set i none) H', ct := fun σ' H' => D.ct (σ'.set i none) H' } (σ.set i (some (.ref a))) (upd H a (ExI a cls d))
section
variable {X : Cx} {x n : Str} {c : Value} {i : Nat} {body suite : List Stmt} {b₀ : Stmt} {np pos pos' : Pos} {tb : WX → TS} {ts : Addr → TS}
theorem ps_try_trk (hs : X.stack = X.env :: X.outer) (hf : X.env.frame = some X.env.locals) (hN : X.N.Nodup) (hi : X.N[i]? = some n) (hln : X.env.kindOf n = some .local) (hc : Names X x c) (hex : X.ex = [])
    (hb : ∀ (W : WX) (pn : List (Addr × Obj)) (xe : Value → Shared → Prop), Takes (X.tr pn xe) W → PassesOwn (model X.prog X.w) X.A X.env xe → PSs (X.tr pn xe) body (tb W))
    (hsu : ∀ (a : Addr) (pn : List (Addr × Obj)), PSs (X.suite a pn) (b₀ :: suite) (ts a)) :
    PS X (.Try body [.ExceptHandler (some (.Name x np)) (some n) (b₀ :: suite) pos'] [] [] pos) (fun D σ H => tb (wTrk X.K c i X.N.length ts D) D σ H) := by
  constructor
  intro pins s σ H D I h
  have iok := I.ok
  have caught : Takes (X.tr (X.pn ++ pins) fun e s₁ => wpAny (model X.prog X.w) X.A (noteFrame e X.env) (fun _ s₂ => wpAny (model X.prog X.w) X.A (setFlight e none) (fun _ s₃ =>
      wpAny (model X.prog X.w) X.A (handleBy e X.env [.ExceptHandler (some (.Name x np)) (some n) (b₀ :: suite) pos']) (SP X pins D) X.xe s₃) X.xe s₂) X.xe s₁) (wTrk X.K c i X.N.length ts D) := ?hit
  refine wpAny_Try_except (wpAny_mono ((hb (wTrk X.K c i X.N.length ts D) (X.pn ++ pins) _ caught PassesOwn.looking).run [] s σ H D (I.toTry _) h) (fun f s1 hsp => ?calm) (fun e s1 he => he))
  case calm =>
    cases f with
    | next => obtain ⟨σ', H', J', q⟩ := hsp; exact wpAny_execs_nil ⟨σ', H', J'.ofTry iok, q⟩
    | brk => obtain ⟨σ', H', J', q⟩ := hsp; exact ⟨σ', H', J'.ofTry iok, q⟩
    | cont => obtain ⟨σ', H', J', q⟩ := hsp; exact ⟨σ', H', J'.ofTry iok, q⟩
    | ret u => obtain ⟨v, σ', H', J', r, q⟩ := hsp; exact ⟨v, σ', H', J'.ofTry iok, r, q⟩
  case hit =>
    rintro u s' ⟨a, B, sI, pins', σ', H', cls, d, rfl, J', nb, up, sky, na, os, ag, em, hyes⟩
    have J := J'.ofTry iok
    -- the exception stands on new ground
    have hsky : Sky B (X.env :: X.outer) a (Zc cls d) X.env.locals s'.heap := hs ▸ sky
    show wpAny (model X.prog X.w) X.A (noteFrame (.ref a) X.env) _ _ _
    refine Sky.land Zc.steady (iok.frames.trans (congrArg some hs)) hf hsky fun h3 fl3 up3 => ?_
    have J3 : Inv X pins σ' H' { s' with heap := h3 } := J.landed nb fl3.1 (up.trans up3) os ag
    obtain ⟨oe, vs, q1, q2, q3⟩ := fl3.there
    have nfr : a ∉ frs (X.env :: X.outer) := fun hm => by
      obtain ⟨_, o', e', hnf⟩ := fl3.2.2.1.mem hm
      rw [q1] at e'
      cases e'
      exact hnf _ q3
    have nL : a ≠ X.env.locals := fun z => nfr (List.mem_filterMap.mpr ⟨X.env, List.mem_cons_self, by rw [hf, z]⟩)
    have nI : sI.heap.get? a = none := by
      cases q : sI.heap.get? a with
      | none => rfl
      | some o => exact absurd ((nb a o q (hs ▸ nfr)).symm.trans fl3.2.1) (by simp)
    have n0 : X.s_0.heap.get? a = none := by
      cases q : X.s_0.heap.get? a with
      | none => rfl
      | some o =>
        obtain ⟨o', q'⟩ := J.base.there a o q (by rw [hex]; exact fun z => nomatch z)
        rw [nI] at q'
        cases q'
    have nP : ∀ p ∈ X.pn ++ pins, p.1 ≠ a := fun p hp z => by
      have q := (J.pin p hp).1
      rw [z, nI] at q
      cases q
    refine wpAny_handleBy_cons (codeAny_handlers_test ?_) (by intro q; cases q)
    have look : PySem.W.Looks (model X.prog X.w) h3 (typeOf (.ref a)) cls := fun A Q E s k q => wpAny_typeOf_ref (k _ _ q1) (by rw [q2.1]; exact q)
    have asks : ∀ {Q : Value → Shared → Prop} {E : Value → Shared → Prop}, Q c { s' with heap := h3 } → wpAny (model X.prog X.w) (X.A.mark (some (.ref a))) (eval (.Name x np) X.env) Q E { s' with heap := h3 } := fun {Q E} q => by
      obtain ⟨hg, hdbg, hm | ⟨hm, hv, hnn⟩⟩ := hc
      · exact ld_glob (X := X.suite a (X.pn ++ pins)) (J3.intoSuite a) hg hm q hdbg
      · exact ld_blt (X := X.suite a (X.pn ++ pins)) (J3.intoSuite a) hg hm hv q hnn hdbg
    refine asks ((PySem.W.exm_one (M := model X.prog X.w) J3.kIn look em).here (codeAny_handlers_suite_as (HandSPX.lands_againZ fl3 fun h4 fl4 up4 => ?_)))
    have J4 : Inv X pins σ' H' { s' with heap := h4 } := J.landed nb fl4.1 ((up.trans up3).trans up4) os ag
    obtain ⟨oe', vs', w1, w2, w3⟩ := fl4.there
    have T4 : Inv X pins σ' (upd H' a (ExI a cls d)) { s' with heap := h4 } := J4.track w1 w3 na nL n0 nP (exI_ok w1 w2 w3)
    refine store_ok (X := X.suite a (X.pn ++ pins)) (v := .ref a) (T4.intoSuite a) hN hi (.inl hln) rfl (fun s5 S5 => ?_) (.inr hln)
    refine wpAny_mono ((hsu a (X.pn ++ pins)).run [] s5 _ _ _ S5 (hyes a na J.len)) (fun f s6 hsp => ?_) (fun _ _ z => False.elim z)
    have over : ∀ {σ6 : St} {H6 : Hp} {Q : Shared → Prop}, Inv (X.suite a (X.pn ++ pins)) [] σ6 H6 s6 → (∀ s7, Inv X pins (σ6.set i none) H6 s7 → Q s7) →
        wpAny (model X.prog X.w) X.A (do bindName X.env n .none; unbindBehindTheSuite X.env n pos') (fun _ s7 => Q s7) X.xe s6 := fun {σ6 H6 Q} S6 hq => gone_ok (S6.fromSuite iok) hN hi hln hq
    cases f with
    | next => obtain ⟨σ6, H6, S6, q6⟩ := hsp; exact over S6 fun s7 J7 => ⟨_, _, J7, q6⟩
    | brk => obtain ⟨σ6, H6, S6, q6⟩ := hsp; exact over S6 fun s7 J7 => ⟨_, _, J7, q6⟩
    | cont => obtain ⟨σ6, H6, S6, q6⟩ := hsp; exact over S6 fun s7 J7 => ⟨_, _, J7, q6⟩
    | ret u => obtain ⟨v6, σ6, H6, S6, r6, q6⟩ := hsp; exact over S6 fun s7 J7 => ⟨_, _, _, J7, r6, q6⟩
end
end L2
set_option Elab.async false
set_option linter.all false
set_option maxRecDepth 100000
set_option maxHeartbeats 4000000
namespace L2
open PySem PySem.Spec PyProof.Rows LamX
/-- found = None; try: action() / except x as error: found = error; return found -/
def TTc (K : PySem.W.Frag) (HE : Addr) : (XK → Hp → VK → Prop) → Hp → VK → Prop := fun tl H Q =>
  tl (fun cls d H' => PySem.W.exmOne K cls (.ref HE) = some true ∧ ∀ a, H' a = none → Q (.ref a) (upd H' a (ExI a cls d))) H fun _ H' => Q .non H'
theorem caught_gives {X : Cx} {x a fo e q er : Str} {sg : Scope} {g HE : Addr} {cdg : Value} {p1 p2 p3 p4 p5 p6 p7 p8 p9 pa pb pc pd pe : Pos} {j : Nat} (nd : ([a, fo, er] : List Str).Nodup) (hka : Vis sg a) (hkf : sg.names.lookup fo = some .local) (hke : sg.names.lookup er = some .local)
    (hge : sg.names.lookup e = some .globalImplicit) (hme : X.mg e = some (.ref HE)) (hde : (e == ("__debug__" : Str)) = false) (df : (fo == ("__debug__" : Str)) = false) (dr : (er == ("__debug__" : Str)) = false)
    (cf : (fo == ("__classdict__" : Str)) = false) (cr : (er == ("__classdict__" : Str)) = false) :
    GivesTo X [a, fo, er] x sg g cdg
      [.Assign [.Name fo p1] (.Constant .none j p2) p3, .Try [.Expr (.Call (.Name a p4) [] [] p5) p6] [.ExceptHandler (some (.Name e p7)) (some er) [.Assign [.Name fo p8] (.Name er p9) pa] pb] [] [] pc, .Return (some (.Name fo pd)) pe] a q (TTc X.K HE) := by
  intro f c' s H Q tl act hc h
  have hgl : Gl (cxOf C8.CX0 X.prog X.w X.K X.mg X.base [a, fo, er] x sg g cdg X.A X.stack s H C8.E0).nox e := hge
  refine ⟨_, pss_cons (ps_set (i := 1) nd rfl (.inl hkf) pe_non)
    (pss_cons (ps_try_trk (X := (cxOf C8.CX0 X.prog X.w X.K X.mg X.base [a, fo, er] x sg g cdg X.A X.stack s H C8.E0).nox) (c := .ref HE) (i := 2)
      (tb := fun W D σ H => ∃ Ech : XK, (∀ cls d σ' H', Ech cls d H' → W cls d σ' H') ∧ σ[0]? = some (some (.ref f)) ∧ H c' = some (CodeO c' q) ∧ tl Ech H fun _ H' => D.nx σ H')
      (ts := fun _ => tAsg (tVar 2) (gName 1)) rfl rfl nd rfl hke ⟨hgl, hde, .inl hme⟩ rfl (fun W pn xe tk _ => ?_) (fun a pn => ?_))
    (pss_one (ps_ret (pv 1 rfl (.inl hkf) df cf)))), ?_⟩
  · refine ⟨fun pins s' σ H' D I h' => ?_⟩
    obtain ⟨Ech, hW, h1, h2, h3⟩ := h'
    exact (pss_one (ps_expr (pos := p6) (act W pn xe Ech p4 p5 tk hW))).run pins s' σ H' D I ⟨h1, h2, h3⟩
  · exact pss_one (ps_set (i := 1) nd rfl (.inl hkf) (pv 2 rfl (.inl hke) dr cr))
  · refine ⟨fun cls d H' => PySem.W.exmOne X.K cls (.ref HE) = some true ∧ ∀ a, H' a = none → Q (.ref a) (upd H' a (ExI a cls d)), fun cls d σ' H' hx => ⟨hx.1, fun a na hl => ?_⟩, rfl, hc, ?_⟩
    · match σ', hl with
      | [x0, x1, x2], _ => exact ⟨_, rfl, _, rfl, hx.2 a na⟩
    · have e : (fun (_ : V) (H' : Hp) => ∃ v, (List.set (start [a, fo, er] [V.ref f]) 1 (some V.non))[1]? = some (some v) ∧ Q v H') = fun _ H' => Q .non H' := by
        funext _ H'
        refine propext ⟨fun ⟨v, e, q⟩ => ?_, fun q => ⟨_, rfl, q⟩⟩
        cases (show some (some V.non) = some (some v) from e)
        exact q
      show tl _ H (fun (_ : V) (H' : Hp) => ∃ v, (List.set (start [a, fo, er] [V.ref f]) 1 (some V.non))[1]? = some (some v) ∧ Q v H')
      rw [e]
      exact h

/-! ### what such an exception tells -/
/-- at a stands an exception that was caught: its class, its own dict -/
theorem exI_inst {X : Cx} {pins : List (Addr × Obj)} {σ : St} {H : Hp} {s : Shared} {a D : Addr} (I : Inv X pins σ H s) (e : H a = some (ExI a (.ref D) none)) : ∃ oe, PySem.W.InstAt s.heap a oe D none := by
  obtain ⟨⟨oe, h1, h2, vs, h3⟩, _, _⟩ := I.hok a _ e
  exact ⟨oe, h1, h2.1, by unfold PySem.W.notCls; rw [h3], by rw [h2.2]; trivial⟩
theorem exI_instD {X : Cx} {pins : List (Addr × Obj)} {σ : St} {H : Hp} {s : Shared} {a D dd : Addr} {fs : List (Str × V)} (I : Inv X pins σ H s) (e : H a = some (ExI a (.ref D) (some dd))) (ed : H dd = some (.xd fs)) :
    ∃ (oe od : Obj) (mA : Str → Option Value), PySem.W.InstAt s.heap a oe D (some od) ∧ (∀ n, PySem.W.lookIn n od = some (mA n)) ∧ ∀ f, RelO (fs.lookup f) (mA f) := by
  obtain ⟨⟨oe, h1, h2, vs, h3⟩, _, _⟩ := I.hok a _ e
  obtain ⟨mA, hns, hr⟩ : ObjOk X.prog X.w H s.heap dd (.xd fs) := I.hok dd _ ed
  obtain ⟨od, ho, hl⟩ := lookIn_ns hns
  exact ⟨oe, od, mA, ⟨h1, h2.1, by unfold PySem.W.notCls; rw [h3], by rw [h2.2]; exact ho⟩, hl, hr⟩
/-- an exception that was caught stands at a, of the class at D -/
def CauAt (H : Hp) (a D : Addr) : Prop := H a = some (ExI a (.ref D) none) ∨ ∃ dd fs, H a = some (ExI a (.ref D) (some dd)) ∧ H dd = some (.xd fs)
/-- isinstance(e, c), e such an exception, or None -/
def rIsC (K : PySem.W.Frag) : List V → Hp → VK → Prop := fun xs H Q =>
  (∃ (a D : Addr) (c : V) (cv : Value) (b : Bool), xs = [.ref a, c] ∧ CauAt H a D ∧ ExcC K D ∧ (∀ u, RelV c u → u = cv) ∧ PySem.W.kitOne K (.ref D) cv = some b ∧ Q (.bl b) H) ∨
  ∃ (c : V) (cv : Value) (b : Bool), xs = [.non, c] ∧ ClsV c cv ∧ PySem.W.kitOne K (.type "NoneType") cv = some b ∧ Q (.bl b) H
theorem call_isC {X : Cx} : CallR X (.builtin "isinstance") (rIsC X.K) := by
  intro pins s σ H xs us Q I r h
  rcases h with ⟨a, D, c, cv, b, rfl, hA, C, hcv, e, q⟩ | ⟨c, cv, b, rfl, k, e, q⟩
  · obtain ⟨u1, u2, rfl, r1, r2⟩ := vals2 r
    cases (show u1 = Value.ref a from r1)
    have ec := hcv _ r2
    subst ec
    have J : ∃ ox od, PySem.W.InstAt s.heap a ox D od := by
      rcases hA with hA | ⟨dd, fs, h1, h2⟩
      · obtain ⟨oe, J⟩ := exI_inst I hA
        exact ⟨oe, none, J⟩
      · obtain ⟨oe, od, _, J, _⟩ := exI_instD I h1 h2
        exact ⟨oe, some od, J⟩
    exact PySem.W.kia_one (MyX.kitx_own C) I.kIn J e (fun z => nomatch z) fun tk => ⟨.bl b, H, I.kept (t' := tk) fun _ _ z => z, rfl, q⟩
  · obtain ⟨u1, u2, rfl, r1, r2⟩ := vals2 r
    have e2 := k.eq r2
    subst e2
    obtain ⟨P, Z, p, hx⟩ := kit_of I r1 (.base .non)
    exact PySem.W.kia_one Z I.kIn p e hx fun tk => ⟨.bl b, H, I.tok tk, rfl, q⟩
/-- e.f of such an exception -/
def tXfC (K : PySem.W.Frag) (n : Str) (te : TE) : TE := fun σ H Q => te σ H fun x H1 => ∃ (a C dd : Addr) (fs : List (Str × V)) (v : V), x = .ref a ∧ XfC K C ∧ PySem.W.findIn K (.ref C) n = some none ∧
  H1 a = some (ExI a (.ref C) (some dd)) ∧ H1 dd = some (.xd fs) ∧ fs.lookup n = some v ∧ Q v H1
theorem pe_xfC {X : Cx} {te : TE} {e : Expr} {n : Str} {pos : Pos} (he : PE X e te) (hb : attributeBase e n X.env (eval e X.env) = eval e X.env := by rfl) : PE X (.Attribute e n pos) (tXfC X.K n te) := by
  refine ⟨fun pins s σ H Q I h => attr_of hb (thn (he.run pins s σ H _ I h) fun u s1 hh => ?_)⟩
  obtain ⟨x, H1, I1, rx, a, C, dd, fs, v, ex, T, hno, ea, ed, l, q⟩ := hh
  subst ex
  obtain rfl : u = Value.ref a := rx
  obtain ⟨oe, od, mA, J, hl, hr⟩ := exI_instD I1 ea ed
  obtain ⟨u, hu, ru⟩ := RelO.some_of (v := v) (o := mA n) (by rw [← l]; exact hr n)
  exact HandSPX.exc_get I1.kIn J T.ga T.gg T.exC (PySem.W.findObj_own T.hdC hno rfl (by rw [hl, hu])) (handed_of ru) ⟨v, H1, I1.tok _, ru, q⟩
end L2
set_option Elab.async false
set_option linter.all false
set_option maxRecDepth 100000
set_option maxHeartbeats 4000000
namespace L2
open PySem PySem.Spec PyProof.Rows LamX
/-! ### f(k = e, ..) -/
section
variable {X : Cx} {CX : CXT} {k : Nat} {f : Addr} {fd : FuncData} {ps ks : List Str} {sp : Sp} {E : XK} {x : Str} {p pos : Pos} {kws : List Keyword} {tk : TA} {g : List Value → List Value} {gV : List V → List V}
def tCallW (m : Nat) (sp : Sp) (gV : List V → List V) (E : XK) (tk : TA) : TE := fun σ H Q => tk σ H fun zs H1 => zs.length = m ∧ sp (gV zs) H1 Q E
theorem pe_callW (F : FnOk X.prog X.w X.K X.mg X.base CX k f fd ps sp) (hr : Room k X.A) (hg : Gl X x) (hm : X.mg x = some (.ref f)) (hk : PySem.W.keepIn X.K (.ref f) = true) (hx : Passes CX X E) (hkw : PK X kws tk)
    (hb : ∀ (s : Shared) (ws : List Value), X.K.In s.heap → ws.length = ks.length → BindsTo s fd ⟨[], ks.zip ws⟩ (ps.zip (g ws))) (hrel : ∀ {zs : List V} {ws : List Value}, Vals zs ws → Vals (gV zs) (g ws))
    (hall : (backToKw pos (keywordEach kws X.env)).all (·.1.isSome) = true := by rfl) (hks : (backToKw pos (keywordEach kws X.env)).filterMap (·.1) = ks := by rfl) (hdb : (x == ("__debug__" : Str)) = false := by decide)
    (hpl : ((backTo pos (starEach [] X.env)).any (·.1) || (backToKw pos (keywordEach kws X.env)).any (·.1.isNone)) = false := by rfl) :
    PE X (.Call (.Name x p) [] kws pos) (tCallW ks.length sp gV E tk) := by
  refine ⟨fun pins s σ H Q I h => wpAny_Call_Name_kw (ld_glob I hg hm ?_ hdb)⟩
  refine PySem.W.callWith_KW0 (h₀ := X.base) I.ok.mod.kin hk hall ?_ hpl
  refine thn (hkw.run pos pins s σ H _ I h) fun ws s2 ⟨zs, H2, I2, rz, l2, q2⟩ => ⟨I2.kIn, ?_⟩
  rw [hks]
  refine wpAny_call (codeAny_mono (F.run X.A X.stack s2 H2 ⟨[], ks.zip ws⟩ (g ws) (gV zs) Q E hr I2.env0 (hb s2 ws I2.kIn (rz.length.symm.trans l2)) (hrel rz) q2) fun r s' hq => ?_)
  cases r with
  | error e => exact hx pins σ H2 s2 e s' I2 hq
  | ok fl =>
    cases fl with
    | ret u => exact I2.after hq
    | next => exact False.elim hq
    | brk => exact False.elim hq
    | cont => exact False.elim hq
end

/-! ### where no repr is under way -/
abbrev Grd (A : Around) : Prop := A.guards = some []
theorem Grd.deeper {A : Around} (h : Grd A) (q : Str) (sc : Scope) (L f : Addr) (cdv : Value) : Grd (A.deeper (envOfC q sc L f cdv)) := by
  show (A.deeper (envOfC q sc L f cdv)).guards = some []
  have e : (A.deeper (envOfC q sc L f cdv)).guards = A.guards := by rfl
  rw [e]
  exact h
theorem grd_caller : Grd callerA := by rfl
/-- a def's promise, where no repr is under way -/
structure FnG (P : Program) (w : World) (K : PySem.W.Frag) (mg : Str → Option Value) (base : Heap) (CX : CXT) (k : Nat) (f : Addr) (fd : FuncData) (ps : List Str) (sp : Sp) : Prop where
  len : ∀ vs H Q E, sp vs H Q E → vs.length = ps.length
  run : ∀ (A : Around) (outer : List Env) (s : Shared) (H : Hp) (args : Args) (us : List Value) (vs : List V) (Q : VK) (E : XK), Room k A → Grd A → Env0 P w K mg base A outer s H → BindsTo s fd args (ps.zip us) → Vals vs us → sp vs H Q E →
    codeAny (model P w) A (.call (.ref f) args) (CR CX outer P w H s Q E) s
section
variable {P : Program} {w : World} {K : PySem.W.Frag} {mg : Str → Option Value} {base : Heap}
theorem Fun.okG {x qual : Str} {st : Stmt} {f : Addr} {fd : FuncData} {N ps : List Str} {k : Nat} {sp : Sp} (F : Fun K x qual st f fd) (S : FnScope N ps (defScope st)) (len : ∀ vs H Q E, sp vs H Q E → vs.length = ps.length)
    (hbody : ∀ (cdv : Value) (A : Around) (outer : List Env) (s : Shared) (H : Hp) (vs : List V) (Q : VK) (E : XK), Room k (A.deeper (envOfC qual (defScope st) s.heap.objs.size f cdv)) → Grd (A.deeper (envOfC qual (defScope st) s.heap.objs.size f cdv)) → sp vs H Q E →
      ∃ t, PSs (cxOf CX0 P w K mg base N qual (defScope st) f cdv A outer s H E).nox (defBody st) t ∧ t { nx := fun _ H' => Q .non H', rt := Q } (start N vs) H) : FnG P w K mg base CX0 (k + 1) f fd ps sp := by
  obtain ⟨oc, od, kV, doc, pm, an, cdv, ct, osl, rfl, lk, hcd⟩ := F.ex
  refine ⟨len, fun A outer s H args us vs Q E hr hgd e0 hb rv hsp => ?_⟩
  exact run_ofS lk hcd S hr e0 hb rv (len _ _ _ _ hsp) fun hr' => by
    obtain ⟨t, h1, h2⟩ := hbody cdv A outer s H vs Q E hr' (hgd.deeper _ _ _ _ _) hsp
    exact ⟨t, h1.nox, h2⟩
end
section
variable {X : Cx} {CX : CXT} {k : Nat} {f : Addr} {fd : FuncData} {ps : List Str} {sp : Sp} {E : XK} {x : Str} {p pos : Pos} {e : Expr} {es : List Expr} {t : TA}
theorem pe_callG (F : FnG X.prog X.w X.K X.mg X.base CX k f fd ps sp) (hr : Room k X.A) (hgd : Grd X.A) (hg : Gl X x) (hm : X.mg x = some (.ref f)) (hk : PySem.W.keepIn X.K (.ref f) = true) (hb : Binds X.K fd ps []) (hx : Passes CX X E) (ha : PA X (e :: es) t)
    (hdb : (x == ("__debug__" : Str)) = false := by decide) (he : starEach (e :: es) X.env = (false, eval e X.env) :: starEach es X.env := by rfl) (hpl : (backTo pos (starEach es X.env)).any (·.1) = false := by rfl) :
    PE X (.Call (.Name x p) (e :: es) [] pos) (tCall sp [] E t) := by
  refine ⟨fun pins s σ H Q I h => wpAny_Call_Name_kw (ld_glob I hg hm ?_ hdb)⟩
  refine PySem.W.callWith_K (h₀ := X.base) I.ok.mod.kin hk (thn (ha.run pos pins s σ H _ I h) fun us s1 ⟨vs, H1, I1, r, q⟩ => ⟨I1.kIn, ?_⟩) he hpl
  have q' : sp vs H1 Q E := by
    have q2 : sp (vs ++ []) H1 Q E := q
    rw [List.append_nil] at q2
    exact q2
  have b := hb s1 us I1.kIn (by rw [List.append_nil, ← r.length]; exact F.len _ _ _ _ q')
  rw [List.append_nil] at b
  show wpAny _ _ (call (.ref f) us) _ _ _
  refine wpAny_call (codeAny_mono (F.run X.A X.stack s1 H1 ⟨us, []⟩ us vs Q E hr hgd I1.env0 b r q') fun r s' hq => ?_)
  cases r with
  | error e => exact hx pins σ H1 s1 e s' I1 hq
  | ok fl =>
    cases fl with
    | ret u => exact I1.after hq
    | next => exact False.elim hq
    | brk => exact False.elim hq
    | cont => exact False.elim hq
/-- repr of a list, a tuple, an int -/
def rRepr (K : PySem.W.Frag) : List V → Hp → VK → Prop := fun xs H Q => (∃ i, xs = [.int i] ∧ i.natAbs.log2 < 1920 ∧ Q (.str (toString i)) H) ∨
  ∃ (a : Addr) (d : PyData), xs = [.ref a] ∧ Dp K H (.ref a) d ∧ d.canLay0 = true ∧ d.depth ≤ 100 ∧ d.showable = true ∧ d.shown.length ≤ sizeLine ∧ Q (.str d.shown) H
theorem call_reprD (hr : Room 0 X.A) (hgd : Grd X.A) : CallR X (.builtin "repr") (rRepr X.K) := by
  intro pins s σ H xs us Q I r h
  rcases h with ⟨i, rfl, hz, q⟩ | ⟨a, d, rfl, dp, lay, dep, shw, sz, q⟩
  · obtain ⟨u, rfl, t, rfl⟩ := vals1 r
    exact PySem.P.repr_of_int hz ⟨.str _, H, I.tok _, ⟨_, rfl⟩, q⟩
  · obtain ⟨u, rfl, ru⟩ := vals1 r
    obtain ⟨as, rd⟩ := dp.reads I d _ u ru
    obtain rfl : u = Value.ref a := ru
    have nd : d.hasDict = false := PyData.hasDict_of_canLay d lay
    have un := hr.un
    refine repr_of_reads' (h₀ := s.heap) rd shw (fun z => by rw [nd] at z; cases z) hgd (by omega) (fun _ _ e => e) (fun h' u tk hk => ?_) sz
    exact ⟨.str _, H, I.kept hk, ⟨_, rfl⟩, q⟩
end
end L2
set_option Elab.async false
set_option linter.all false
set_option maxRecDepth 100000
set_option maxHeartbeats 4000000
namespace L2
open PySem PySem.Spec PyProof.Rows LamX
/-! ### the law's own call, from the heap behind the top -/
abbrev tblObj : Obj := { cls := .none, data := .fields #[] }
abbrev scrObj (vs : List Value) : Obj := { cls := .type "list", data := .seq vs.toArray }
/-- at the start the tables are tracked, and the script if the top has not written it -/
def startH (a : Addr) (o : Obj) (xs : List V) (ts : List Addr) (own : Bool) : Hp := fun b => if b ∈ ts then some (.tbl #[]) else if own = true ∧ b = a then some (.frz o (.lst xs)) else none
section
variable {a b : Addr} {o : Obj} {xs : List V} {ts : List Addr} {own : Bool}
theorem startH_tbl (h : b ∈ ts) : startH a o xs ts own b = some (.tbl #[]) := if_pos h
theorem startH_scr (h : a ∉ ts) : startH a o xs ts true a = some (.frz o (.lst xs)) := (if_neg h).trans (if_pos ⟨rfl, rfl⟩)
theorem startH_cases {u : HO} (h : startH a o xs ts own b = some u) : (b ∈ ts ∧ u = .tbl #[]) ∨ (b ∉ ts ∧ own = true ∧ b = a ∧ u = .frz o (.lst xs)) := by
  unfold startH at h
  split at h
  · rename_i hb
    exact .inl ⟨hb, (Option.some.inj h).symm⟩
  · rename_i hb
    split at h
    · rename_i hc
      exact .inr ⟨hb, hc.1, hc.2, (Option.some.inj h).symm⟩
    · cases h
end
/-- what the law's def must be, over the heap behind the top: cs, its code objects with their tables -/
structure LawG (P : Program) (w : World) (K : PySem.W.Frag) (k n : Nat) (x : Str) (mg : Str → Option Value) (fa : Addr) (h : Heap) (cs : List (Addr × Addr)) : Prop where
  hT : ∀ p ∈ cs, h.get? p.2 = some tblObj
  nT : ∀ p ∈ cs, K.lookup p.2 = none
  C : ∀ p ∈ cs, PySem.W.CodeHd h p.1 p.2
  F : ∃ (fd : FuncData) (sp : Sp), (∀ (s : Shared) (u : Value), BindsTo s fd ⟨[u], []⟩ [(x, u)]) ∧
    (∀ (H : Hp) (a : Addr) (ns : List Int), ns.length ≤ n → (∀ z ∈ ns, Builtin.Int.intBits z ≤ 1048576) → (∀ p ∈ cs, H p.2 = some (.tbl #[])) → SqL K H a (ns.map V.int) → sp [.ref a] H (fun v _ => v = .bl true) fun _ _ _ => False) ∧
    ∀ base : Heap, K.In base → base.Ns mainGlobals mg → (∀ p ∈ cs, TabB base mg p.1 p.2) → FnG P w K mg base CX0 k fa fd [x] sp
theorem law_callG {P : Program} {w : World} {K : PySem.W.Frag} {mg mb : Str → Option Value} {k n : Nat} {fa a : Addr} {cs : List (Addr × Addr)} {x : Str} {s₁ : Shared} {vs : List Value} {ns : List Int}
    (KX : K.In s₁.heap) (hns : s₁.heap.Ns mainGlobals mg) (hb : s₁.heap.Ns builtinsNs mb) (hbb : ∀ x : Str, x ≠ "__name__" → mb x = bootBuiltins x) (hlim : s₁.heap.NoLimit) (hg : s₁.gens = #[])
    (hbm : ∃ (bm : Addr) (ob : Obj), mg "__builtins__" = some (.ref bm) ∧ bm ≠ builtinsNs ∧ s₁.heap.get? bm = some ob ∧ ob.cls = .type "module" ∧ ob.dict = some builtinsNs ∧ ob.data = .plain)
    (ha : s₁.heap.get? a = some (scrObj vs)) (hi : IntsAre vs ns) (hl : ns.length ≤ n) (hn2 : n ≤ sizeLine) (hbits : ∀ z ∈ ns, Builtin.Int.intBits z ≤ 1048576) (hr : Room k callerA) (G : LawG P w K k n x mg fa s₁.heap cs) :
    codeAny (model P w) callerA (.call (.ref fa) ⟨[.ref a], []⟩) (fun r s' => r = .ok (.ret (.bool true)) ∧ OldK s₁.heap s'.heap ∧ s'.os = s₁.os ∧ AllBare s'.gens) s₁ := by
  obtain ⟨fd, sp, bnd, hsp, hF⟩ := G.F
  have rv := vals_ints hi
  generalize hts : cs.map (·.2) = ts
  have inT : ∀ p ∈ cs, p.2 ∈ ts := fun p hp => hts ▸ List.mem_map.mpr ⟨p, hp, rfl⟩
  have ofT : ∀ {b}, b ∈ ts → ∃ p ∈ cs, p.2 = b := fun {b} m => List.mem_map.mp (hts ▸ m)
  have objT : ∀ {b o}, b ∈ ts → s₁.heap.get? b = some o → o = tblObj := fun {b o} m e => by
    obtain ⟨p, hp, rfl⟩ := ofT m
    exact Option.some.inj (e.symm.trans (G.hT p hp))
  have aT : a ∉ ts := fun m => by
    have q := objT m ha
    cases congrArg Obj.cls q
  let own : Bool := (K.lookup a).isNone
  generalize hH : startH a (scrObj vs) (ns.map V.int) ts own = H
  have cas : ∀ {b u}, H b = some u → (b ∈ ts ∧ u = .tbl #[]) ∨ (b ∉ ts ∧ own = true ∧ b = a ∧ u = .frz (scrObj vs) (.lst (ns.map V.int))) := fun {b u} e => startH_cases (hH ▸ e)
  have tb : ∀ p ∈ cs, H p.2 = some (.tbl #[]) := fun p hp => hH ▸ startH_tbl (inT p hp)
  -- an object of another make is not tracked
  have unt : ∀ {b o}, s₁.heap.get? b = some o → o ≠ tblObj → o ≠ scrObj vs → H b = none := fun {b o} e n1 n2 => by
    cases q : H b with
    | none => rfl
    | some u =>
      rcases cas q with ⟨m, _⟩ | ⟨_, _, e', _⟩
      · exact (n1 (objT m e)).elim
      · rw [e', ha] at e
        exact (n2 (Option.some.inj e).symm).elim
  have untK : ∀ {b o}, K.lookup b = some o → H b = none := fun {b o} e => by
    cases q : H b with
    | none => rfl
    | some u =>
      rcases cas q with ⟨m, _⟩ | ⟨_, ho, e', _⟩
      · obtain ⟨p, hp, rfl⟩ := ofT m
        rw [G.nT p hp] at e
        cases e
      · rw [e'] at e
        have ho' : (K.lookup a).isNone = true := ho
        rw [e] at ho'
        cases ho'
  have dictN : ∀ {b o es ep}, s₁.heap.get? b = some o → o.data = .dict es ep → H b = none := fun {b o es ep} e d => unt e (fun z => by rw [z] at d; cases d) fun z => by rw [z] at d; cases d
  have nsN : ∀ {b m}, s₁.heap.Ns b m → (hidT s₁.heap H).Ns b m := fun {b m} ⟨o, es, ep, e, d, r⟩ => ⟨o, es, ep, hidT_get e (dictN e d), d, r⟩
  have KN : K.In (hidT s₁.heap H) := fun b o e => hidT_get (KX b o e) (untK e)
  have hSq : SqL K H a (ns.map V.int) := by
    cases q : K.lookup a with
    | none =>
      have e : own = true := by
        show (K.lookup a).isNone = true
        rw [q]
        rfl
      exact .inl (.inr ⟨scrObj vs, by rw [← hH, e]; exact startH_scr aT⟩)
    | some o =>
      have e := (KX a o q).symm.trans ha
      cases e
      exact .inr ⟨_, vs.toArray, _, q, rfl, rfl, rfl, by rw [List.size_toArray, hi.length]; omega, by simpa using rv⟩
  have hok : HOk P w H s₁.heap := fun b u e => by
    rcases cas e with ⟨m, rfl⟩ | ⟨_, _, rfl, rfl⟩
    · obtain ⟨p, hp, rfl⟩ := ofT m
      exact G.hT p hp
    · exact ⟨ha, by rw [List.length_map]; omega, vs, _, rv, ha⟩
  have tabs : ∀ p ∈ cs, TabB (hidT s₁.heap H) mg p.1 p.2 := fun p hp => by
    have e0 := G.hT p hp
    refine ⟨?_, ?_, fun z => ?_⟩
    · obtain ⟨o, us, file, tf, flags, tg, inF, text, tt, e1, r1, r2, r3, rest⟩ := G.C p hp
      refine ⟨o, us, file, tf, flags, tg, inF, text, tt, hidT_get e1 (unt e1 (fun z => ?_) fun z => ?_), r1, r2, r3, rest⟩
      · rw [z] at r2
        cases r2
        simp at r3
      · rw [z] at r2
        cases r2
    · obtain ⟨bm, ob, b1, b2, b3, b4, b5, b6⟩ := hbm
      refine ⟨bm, ob, b1, b2, fun q => ?_, fun q => ?_, hidT_get b3 (unt b3 (fun z => ?_) fun z => ?_), b4, b5, b6⟩
      · obtain ⟨o, es, ep, e, hd, _⟩ := hns
        rw [← q, b3] at e
        cases e
        rw [hd] at b6
        cases b6
      · rw [q, e0] at b3
        cases b3
        cases b6
      · rw [z] at b6
        cases b6
      · rw [z] at b6
        cases b6
    · obtain ⟨o, es, ep, e, hd, _⟩ := hns
      rw [z, e0] at e
      cases e
      cases hd
  have env : Env0 P w K mg (hidT s₁.heap H) callerA [] s₁ H := ⟨rfl, ⟨KN, nsN hns, ⟨mb, nsN hb, hbb⟩, let ⟨mc, h1, h2⟩ := hlim; ⟨mc, nsN h1, h2⟩⟩, fun b o e => of_hidT e, Nat.le_of_eq (hidT_size _ _), trivial, (fun b hb => nomatch hb), hok, .of_eq hg⟩
  refine codeAny_mono ((hF _ KN (nsN hns) tabs).run callerA [] s₁ H ⟨[.ref a], []⟩ [.ref a] [.ref a] _ _ hr grd_caller env (bnd s₁ (.ref a)) (.cons rfl .nil) (hsp H a ns hl hbits tb hSq)) fun r s' h => ?_
  cases r with
  | error e => exact (show False from h).elim
  | ok fl =>
   cases fl with
   | next => exact False.elim h
   | brk => exact False.elim h
   | cont => exact False.elim h
   | ret u =>
    obtain ⟨v, H', os, bare, un, hok', r', q⟩ := h
    obtain rfl : v = .bl true := q
    obtain rfl : u = Value.bool true := r'
    have kp : ∀ b o, b ∉ ts → s₁.heap.get? b = some o → s'.heap.get? b = some o := fun b o nb e => by
      cases q : H b with
      | none => exact un.keep b o e q (fun z => nomatch (show b ∈ ([] : List Addr) from z)) (fun z => nomatch z)
      | some u =>
        rcases cas q with ⟨m, _⟩ | ⟨_, _, rfl, rfl⟩
        · exact (nb m).elim
        · obtain ⟨w1, _⟩ := hok' _ _ (un.frzs _ _ _ q)
          rw [ha] at e
          cases e
          exact w1
    have gr : ∀ b ∈ ts, ∃ p ∈ cs, p.2 = b ∧ ∃ more : Array Value, s'.heap.get? b = some { cls := .none, data := .fields more } := fun b m => by
      obtain ⟨p, hp, rfl⟩ := ofT m
      obtain ⟨more, z⟩ := un.tbls p.2 #[] (tb p hp)
      exact ⟨p, hp, rfl, _, hok' p.2 _ z⟩
    refine ⟨rfl, ⟨fun b o e => ?_, fun b o e => ?_⟩, os, bare⟩
    · by_cases m : b ∈ ts
      · obtain ⟨p, hp, rfl, more, hm⟩ := gr b m
        cases objT m e
        exact .inr (.inl ⟨((G.C p hp).tab (G.hT p hp)).isCodeTable, rfl, #[], more, rfl, by rw [Array.empty_append]; exact hm⟩)
      · exact .inl (kp b o m e)
    · by_cases m : b ∈ ts
      · obtain ⟨p, hp, rfl, more, hm⟩ := gr b m
        exact ⟨_, hm⟩
      · exact ⟨o, kp b o m e⟩
theorem walk_G {l : PySem.W.OpenLaw} {n k : Nat} {q : Program} {loose : List Str} {XP : (Str → Option Value) → Heap → Prop} {YP : World → Heap → Prop} {d : DefRec} {K : Params → PySem.W.Frag} {x : Str}
    (hn : l.most = some n) (hn2 : n ≤ sizeLine) (hdf : d.params.defaults = []) (hr : Room k callerA) (hY : ∀ (w : World) (h : Heap), YP w h → (K w.params).In h)
    (F : ∀ (w : World) (mg : Str → Option Value) (fa : Addr) (h : Heap), YP w h → (K w.params).In h → h.Ns mainGlobals mg → mg d.name = some (.ref fa) → ∃ cs, LawG l.prog w (K w.params) k n x mg fa h cs) :
    PySem.W.WalkO q loose XP YP l.row.toRowW d [] (fun f vs => PySem.call f vs) := by
  refine Att.attach_callB hn hdf fun w s₀ s₁ mg mb fa o pm cd doc a vs ns G Y ho hd hcd hmg hobj hints hlen hbits hg => ?_
  obtain ⟨cs, L⟩ := F w mg fa _ Y (hY w _ Y) G.T.g hmg
  exact law_callG (hY w _ Y) G.T.g G.T.b G.T.builtins G.T.nolimit hg G.T.bmain hobj hints hlen hn2 hbits hr L
end L2
set_option Elab.async false
set_option linter.all false
set_option maxRecDepth 100000
set_option maxHeartbeats 4000000
namespace L2
open PySem PySem.Spec PyProof.Rows LamX
/-- the law's end, the tables of the top's code objects at hand -/
theorem walk_T {l : PySem.W.OpenLaw} {n k : Nat} {q : Program} {loose : List Str} {XP : (Str → Option Value) → Heap → Prop} {YP : World → Heap → Prop} {d : DefRec} {K : Params → PySem.W.Frag} {x : Str}
    (hn : l.most = some n) (hn2 : n ≤ sizeLine) (hdf : d.params.defaults = []) (hr : Room k callerA) (hY : ∀ (w : World) (h : Heap), YP w h → (K w.params).In h)
    (F : ∀ (w : World) (mg : Str → Option Value) (fa : Addr) (h : Heap), (K w.params).In h → h.Ns mainGlobals mg → mg d.name = some (.ref fa) →
      (∀ (y : Str) (d' : DefRec) (c P : Addr), (PyProof.Rows.recsOf q).find? (fun e => e.name == y) = some d' → PySem.W.tabIn (K w.params) y = some (c, P) → PySem.W.CodeHd h c P ∧ h.get? P = some tblObj) → ∃ cs, LawG l.prog w (K w.params) k n x mg fa h cs) :
    PySem.W.WalkO q loose XP YP l.row.toRowW d [] (fun f vs => PySem.call f vs) := by
  refine Att.attach_callB hn hdf fun w s₀ s₁ mg mb fa o pm cd doc a vs ns G Y ho hd hcd hmg hobj hints hlen hbits hg => ?_
  obtain ⟨cs, L⟩ := F w mg fa _ (hY w _ Y) G.T.g hmg fun y d' c P hr ht => PySem.W.tab_of G.T (hY w _ Y) hr ht
  exact law_callG (hY w _ Y) G.T.g G.T.b G.T.builtins G.T.nolimit hg G.T.bmain hobj hints hlen hn2 hbits hr L
/-! ### checks over the written part -/
def bmVE : List Value := [.type "ValueError", .type "Exception", .type "BaseException", .type "object"]
open PySem.W in
def ecB (K : Frag) (D : Addr) : Bool :=
  decide (findIn K (.ref D) "__getattribute__" = some (some (.builtin "BaseException.__getattribute__"))) && (decide (findIn K (.ref D) "__getattr__" = some none) && (decide (subIn K (.ref D) (.type "BaseException") = some true) &&
    (hasDictIn K D && (decide (findIn K (.ref D) "__class__" = some (some (.builtin "object.__class__"))) && (decide (specialIn K (.builtin "object.__class__") "__get__" = some (some (.builtin "getset_descriptor.__get__"))) &&
    (decide (takesIn K (.builtin "object.__class__") = some true) && decide (mroIn K D (.type "object") = some true)))))))
theorem ecB_ok {K : PySem.W.Frag} {D : Addr} (h : ecB K D = true) : ExcC K D := by
  unfold ecB at h
  simp only [Bool.and_eq_true, decide_eq_true_eq] at h
  obtain ⟨h1, h2, h3, h4, h5, h6, h7, h8⟩ := h
  exact ⟨h1, h2, h3, h4, h5, h6, h7, h8⟩
/-- a class of errors without fields, under the one at HE -/
structure ErrK (K : PySem.W.Frag) (C HE : Addr) : Prop where
  kC : PySem.W.keepIn K (.ref C) = true
  q : PySem.W.excIn K C [.type "ValueError", .type "Exception", .type "BaseException", .type "object"] "ValueError.__new__" = true
  sB : PySem.W.subIn K (.ref C) (.type "BaseException") = some true
  tC : PySem.W.typeIn K (.ref C) = some (.type "type")
  ec : ExcC K C
  em : PySem.W.exmOne K (.ref C) (.ref HE) = some true
  kit : PySem.W.kitOne K (.ref C) (.ref C) = some true
open PySem.W in
def errB (K : Frag) (C HE : Addr) : Bool :=
  keepIn K (.ref C) && (excIn K C bmVE "ValueError.__new__" && (decide (subIn K (.ref C) (.type "BaseException") = some true) && (decide (typeIn K (.ref C) = some (.type "type")) && (ecB K C && (decide (exmOne K (.ref C) (.ref HE) = some true) && decide (kitOne K (.ref C) (.ref C) = some true))))))
theorem errB_ok {K : PySem.W.Frag} {C HE : Addr} (h : errB K C HE = true) : ErrK K C HE := by
  unfold errB at h
  simp only [Bool.and_eq_true, decide_eq_true_eq] at h
  obtain ⟨h1, h2, h3, h4, h5, h6, h7⟩ := h
  exact ⟨h1, h2, h3, h4, ecB_ok h5, h6, h7⟩
end L2
set_option Elab.async false
set_option linter.all false
set_option maxRecDepth 100000
set_option maxHeartbeats 4000000
namespace Kn
open PySem L2
/-! ### data -/
theorem eqv_str (d : PyData) (s : Str) : PyData.eqv d (.str s) = true ↔ d = .str s := by
  cases d <;> simp [PyData.eqv]
theorem eqv_one_str (d : PyData) (s : Str) : PyData.eqv d (.tuple [.str s]) = true ↔ d = .tuple [.str s] := by
  cases d with
  | tuple xs =>
    match xs with
    | [] => simp [PyData.eqv, PyData.eqvAll]
    | [x] => simp [PyData.eqv, PyData.eqvAll, eqv_str]
    | x :: y :: r => simp [PyData.eqv, PyData.eqvAll]
  | _ => simp [PyData.eqv]

/-- a kind -/
inductive Kd where
  | text
  | to (a b : Kd)
  deriving DecidableEq
namespace Kd
def data : Kd → PyData
  | .text => .tuple [.str "text"]
  | .to a b => .tuple [.str "to", a.data, b.data]
def ends : Kd → Nat
  | .text => 1
  | .to a b => a.ends + b.ends
theorem ends_pos : ∀ k : Kd, 1 ≤ k.ends
  | .text => Nat.le_refl _
  | .to a b => Nat.le_trans a.ends_pos (Nat.le_add_right _ _)
def deep : Kd → Nat
  | .text => 1
  | .to a b => 1 + max a.deep b.deep
theorem deep_ends : ∀ k : Kd, k.deep ≤ k.ends
  | .text => Nat.le_refl _
  | .to a b => by
    have h1 := deep_ends a
    have h2 := deep_ends b
    have h3 := a.ends_pos
    have h4 := b.ends_pos
    simp only [deep, ends]
    omega
theorem data_depth : ∀ k : Kd, k.data.depth = k.deep
  | .text => by simp [data, deep, PyData.depth, PyData.depthAll]
  | .to a b => by
    have h1 := data_depth a
    have h2 := data_depth b
    simp only [data, deep, PyData.depth, PyData.depthAll, h1, h2]
    omega
theorem data_lay : ∀ k : Kd, k.data.canLay0 = true
  | .text => by
    simp only [data, PyData.canLay0, PyData.canLayAll0, Bool.and_true]
    decide +kernel
  | .to a b => by
    simp only [data, PyData.canLay0, PyData.canLayAll0, data_lay a, data_lay b, Bool.and_true]
    decide +kernel
end Kd
/-- the kind that a datum is -/
def parse : PyData → Option Kd
  | .tuple [.str s] => if s = "text" then some .text else none
  | .tuple [.str s, x, y] => if s = "to" then (parse x).bind fun a => (parse y).bind fun b => some (.to a b) else none
  | _ => none
termination_by d => sizeOf d
theorem parse_data : ∀ k : Kd, parse k.data = some k
  | .text => by simp [Kd.data, parse]
  | .to a b => by simp [Kd.data, parse, parse_data a, parse_data b]
theorem of_parse (d : PyData) : ∀ k : Kd, parse d = some k → d = k.data := by
  fun_induction parse d with
  | case1 =>
    intro k h
    cases h
    rfl
  | case2 s e => intro k h; cases h
  | case3 x y ih1 ih2 =>
    intro k h
    obtain ⟨a, ha, h⟩ := Option.bind_eq_some_iff.mp h
    obtain ⟨b, hb, h⟩ := Option.bind_eq_some_iff.mp h
    cases h
    rw [ih1 a ha, ih2 b hb]
    rfl
  | case4 s x y e => intro k h; cases h
  | case5 d h1 h2 => intro k h; cases h
/-- how many ends a datum has, built as kinds are -/
def endsD (d : PyData) : Option Nat := (parse d).map Kd.ends
/-- is_kind's answer -/
def isKd (d : PyData) : Bool := match endsD d with
  | some n => decide (n ≤ 60)
  | none => false
/-- all of them, summed -/
def tot : List PyData → Option Nat
  | [] => some 0
  | d :: r => (endsD d).bind fun n => (tot r).map fun m => n + m
theorem tot_len : ∀ {ds : List PyData} {n : Nat}, tot ds = some n → ds.length ≤ n
  | [], n, _ => Nat.zero_le _
  | d :: r, n, h => by
    obtain ⟨a, ha, h⟩ := Option.bind_eq_some_iff.mp h
    obtain ⟨b, hb, e⟩ := Option.map_eq_some_iff.mp h
    obtain ⟨k, _, ek⟩ := Option.map_eq_some_iff.mp ha
    have := tot_len hb
    have := k.ends_pos
    rw [List.length_cons]
    omega
theorem tot_snoc : ∀ (ds : List PyData) (d : PyData), tot (ds ++ [d]) = (tot ds).bind fun m => (endsD d).map fun n => m + n
  | [], d => by
    simp only [List.nil_append, tot, Option.bind_some]
    cases endsD d <;> simp
  | c :: r, d => by
    show (endsD c).bind (fun n => (tot (r ++ [d])).map fun m => n + m) = ((endsD c).bind fun n => (tot r).map fun m => n + m).bind fun m => (endsD d).map fun n => m + n
    rw [tot_snoc r d]
    cases endsD c <;> cases tot r <;> cases endsD d <;> simp
    omega
/-- what the loop of is_kind keeps: e ends so far, ds still to look at -/
def ans (e : Nat) (ds : List PyData) : Bool := match tot ds with
  | some n => decide (e + n ≤ 60)
  | none => false
theorem ans_start (d : PyData) : ans 0 [d] = isKd d := by
  unfold ans isKd tot tot
  cases endsD d <;> simp
theorem ans_done (e : Nat) (h : e ≤ 60) : ans e [] = true := by
  simp [ans, tot, h]
theorem ans_text (e : Nat) (ds : List PyData) : ans e (ds ++ [.tuple [.str "text"]]) = ans (e + 1) ds := by
  unfold ans
  have q : endsD (.tuple [.str "text"]) = some 1 := by simp [endsD, parse, Kd.ends]
  rw [tot_snoc, q]
  cases tot ds with
  | none => rfl
  | some n =>
    show decide (e + (n + 1) ≤ 60) = decide (e + 1 + n ≤ 60)
    congr 1
    exact propext ⟨fun h => by omega, fun h => by omega⟩
theorem ans_to (e : Nat) (ds : List PyData) (x y : PyData) : ans e (ds ++ [.tuple [.str "to", x, y]]) = ans e (ds ++ [y] ++ [x]) := by
  unfold ans
  have q : endsD (.tuple [.str "to", x, y]) = (endsD x).bind fun a => (endsD y).map fun b => a + b := by
    unfold endsD
    rw [parse]
    simp only [if_true]
    cases parse x <;> cases parse y <;> simp [Kd.ends]
  rw [tot_snoc, tot_snoc, tot_snoc, q]
  cases tot ds <;> cases endsD x <;> cases endsD y <;> simp
  omega
theorem ans_many (e : Nat) (ds : List PyData) (h : 60 < e + ds.length) : ans e ds = false := by
  unfold ans
  cases q : tot ds with
  | none => rfl
  | some n =>
    have := tot_len q
    exact decide_eq_false (by omega)
/-- a datum that is neither -/
theorem ans_no (e : Nat) (ds : List PyData) (d : PyData) (h1 : d ≠ .tuple [.str "text"]) (h2 : ∀ x y, d ≠ .tuple [.str "to", x, y]) : ans e (ds ++ [d]) = false := by
  have q : endsD d = none := by
    unfold endsD
    rw [Option.map_eq_none_iff]
    cases r : parse d with
    | none => rfl
    | some k =>
      have e := of_parse d k r
      cases k with
      | text => exact (h1 e).elim
      | to a b => exact (h2 _ _ e).elim
  unfold ans
  rw [tot_snoc, q]
  cases tot ds <;> rfl
theorem isKd_data (k : Kd) : isKd k.data = decide (k.ends ≤ 60) := by
  unfold isKd endsD
  rw [parse_data]
  rfl
theorem isKd_true {d : PyData} (h : isKd d = true) : ∃ k : Kd, d = k.data ∧ k.ends ≤ 60 := by
  unfold isKd endsD at h
  cases q : parse d with
  | none => rw [q] at h; cases h
  | some k =>
    rw [q] at h
    exact ⟨k, of_parse d k q, of_decide_eq_true h⟩

theorem nil_or_snoc {α : Type} (l : List α) : l = [] ∨ ∃ l' x, l = l' ++ [x] := by
  rcases List.eq_nil_or_concat l with h | ⟨l', x, h⟩
  · exact .inl h
  · exact .inr ⟨l', x, by rw [h, List.concat_eq_append]⟩
theorem sz_pos (d : PyData) : 0 < sizeOf d := by cases d <;> simp <;> omega
theorem sz_to (x y : PyData) : sizeOf x + sizeOf y < sizeOf (PyData.tuple [.str "to", x, y]) := by
  simp
  omega
/-! ### data in the heap -/
theorem same_new {H : Hp} {D : Addr} {o : HO} (hD : H D = none) : Same H (upd H D o) := fun b u e => by
  rw [upd_ne (ne_of_none e hD)]
  exact e
mutual
theorem dp_same {K : PySem.W.Frag} {H H' : Hp} (e : Same H H') : ∀ {v : V} {d : PyData}, Dp K H v d → Dp K H' v d
  | _, _, .non => .non
  | _, _, .bl b => .bl b
  | _, _, .int i => .int i
  | _, _, .str x => .str x
  | _, _, .lst h r => .lst (e.seq h) (dpAll_same e r)
  | _, _, .tup h r => .tup (by
      rcases h with (h | ⟨o, h⟩) | h
      · exact .inl (.inl (e _ _ h))
      · exact .inl (.inr ⟨o, e _ _ h⟩)
      · exact .inr h) (dpAll_same e r)
theorem dpAll_same {K : PySem.W.Frag} {H H' : Hp} (e : Same H H') : ∀ {vs : List V} {ds : List PyData}, DpAll K H vs ds → DpAll K H' vs ds
  | _, _, .nil => .nil
  | _, _, .cons h r => .cons (dp_same e h) (dpAll_same e r)
end
theorem seqT_same {K : PySem.W.Frag} {H H' : Hp} (e : Same H H') {a : Addr} {xs : List V} (h : SqT K H a xs) : SqT K H' a xs := by
  rcases h with (h | ⟨o, h⟩) | h
  · exact .inl (.inl (e _ _ h))
  · exact .inl (.inr ⟨o, e _ _ h⟩)
  · exact .inr h
theorem dpAll_len {K : PySem.W.Frag} {H : Hp} : ∀ {vs : List V} {ds : List PyData}, DpAll K H vs ds → vs.length = ds.length
  | _, _, .nil => rfl
  | _, _, .cons _ r => by rw [List.length_cons, List.length_cons, dpAll_len r]
theorem dpAll_snoc {K : PySem.W.Frag} {H : Hp} : ∀ {vs : List V} {ds : List PyData} {v : V} {d : PyData}, DpAll K H vs ds → Dp K H v d → DpAll K H (vs ++ [v]) (ds ++ [d])
  | _, _, _, _, .nil, h => .cons h .nil
  | _, _, _, _, .cons a r, h => .cons a (dpAll_snoc r h)
theorem dpAll_unsnoc {K : PySem.W.Frag} {H : Hp} : ∀ {vs : List V} {ds : List PyData} {v : V}, DpAll K H (vs ++ [v]) ds → ∃ ds' d, ds = ds' ++ [d] ∧ DpAll K H vs ds' ∧ Dp K H v d
  | [], _, v, .cons h .nil => ⟨[], _, rfl, .nil, h⟩
  | x :: r, _, v, .cons h t => by
    obtain ⟨ds', d, e, h1, h2⟩ := dpAll_unsnoc (vs := r) t
    exact ⟨_ :: ds', d, by rw [e]; rfl, .cons h h1, h2⟩
/-- the name of a datum's class -/
def tyName : PyData → String
  | .none => "NoneType"
  | .bool _ => "bool"
  | .int _ => "int"
  | .str _ => "str"
  | .list _ => "list"
  | .tuple _ => "tuple"
  | .dict _ => "dict"
theorem tyX_list {K : PySem.W.Frag} {H : Hp} {a : Addr} {xs : List V} (h : SqL K H a xs) : TyX K H (.ref a) (.type "list") := by
  rcases h with (h | ⟨o, h⟩) | ⟨o, its, n, h, c, _⟩
  · exact .base (.lst h)
  · exact .base (.frz h)
  · exact .kList h c
theorem tyX_tup {K : PySem.W.Frag} {H : Hp} {a : Addr} {xs : List V} (h : SqT K H a xs) : TyX K H (.ref a) (.type "tuple") := by
  rcases h with (h | ⟨o, h⟩) | ⟨o, its, n, h, c, _⟩
  · exact .base (.tup h)
  · exact .fTuple h
  · exact .kTuple h c
theorem tyX_dp {K : PySem.W.Frag} {H : Hp} : ∀ {v : V} {d : PyData}, Dp K H v d → TyX K H v (.type (tyName d))
  | _, _, .non => .base .non
  | _, _, .bl b => .base (.bl b)
  | _, _, .int i => .base (.int i)
  | _, _, .str x => .base (.str x)
  | _, _, .lst h _ => tyX_list h
  | _, _, .tup h _ => tyX_tup h
def isTup : PyData → Bool
  | .tuple _ => true
  | _ => false
theorem kit_tuple {K : PySem.W.Frag} : ∀ d : PyData, PySem.W.kitOne K (.type (tyName d)) (.type "tuple") = some (isTup d)
  | .none => (kit_ty (by decide +kernel) : PySem.W.kitOne K (.type "NoneType") (.type "tuple") = some false)
  | .bool _ => (kit_ty (by decide +kernel) : PySem.W.kitOne K (.type "bool") (.type "tuple") = some false)
  | .int _ => (kit_ty (by decide +kernel) : PySem.W.kitOne K (.type "int") (.type "tuple") = some false)
  | .str _ => (kit_ty (by decide +kernel) : PySem.W.kitOne K (.type "str") (.type "tuple") = some false)
  | .list _ => (kit_ty (by decide +kernel) : PySem.W.kitOne K (.type "list") (.type "tuple") = some false)
  | .tuple _ => (kit_ty (by decide +kernel) : PySem.W.kitOne K (.type "tuple") (.type "tuple") = some true)
  | .dict _ => (kit_ty (by decide +kernel) : PySem.W.kitOne K (.type "dict") (.type "tuple") = some false)
theorem dpAll_three {K : PySem.W.Frag} {H : Hp} {vs : List V} {ds : List PyData} (h : DpAll K H vs ds) (hl : vs.length = 3) : ∃ a b c x y z, vs = [a, b, c] ∧ ds = [x, y, z] ∧ Dp K H a x ∧ Dp K H b y ∧ Dp K H c z := by
  cases h with
  | nil => cases hl
  | cons h1 h =>
    cases h with
    | nil => cases hl
    | cons h2 h =>
      cases h with
      | nil => cases hl
      | cons h3 h =>
        cases h with
        | nil => exact ⟨_, _, _, _, _, _, rfl, rfl, h1, h2, h3⟩
        | cons _ _ => simp at hl
end Kn
set_option Elab.async false
set_option linter.all false
set_option maxRecDepth 100000
set_option maxHeartbeats 4000000
namespace Kn
open PySem L2
/-! ### tuples stay -/
/-- what reads as a tuple stays one -/
def SameT (H H' : Hp) : Prop := ∀ b xs, Rd H b (.tup xs) → Rd H' b (.tup xs)
theorem SameT.refl (H : Hp) : SameT H H := fun _ _ h => h
theorem SameT.trans {H H1 H2 : Hp} (a : SameT H H1) (b : SameT H1 H2) : SameT H H2 := fun c xs h => b c xs (a c xs h)
theorem SameT.of {H H' : Hp} (e : Same H H') : SameT H H' := fun b xs h => by
  rcases h with h | ⟨o, h⟩
  · exact .inl (e _ _ h)
  · exact .inr ⟨o, e _ _ h⟩
/-- all but what stands at l stays -/
def But (l : Addr) (H H' : Hp) : Prop := ∀ b o, H b = some o → b ≠ l → H' b = some o
theorem But.refl (l : Addr) (H : Hp) : But l H H := fun _ _ h _ => h
theorem But.of {l : Addr} {H H' : Hp} (e : Same H H') : But l H H' := fun b o h _ => e b o h
theorem But.trans {l : Addr} {H H1 H2 : Hp} (a : But l H H1) (b : But l H1 H2) : But l H H2 := fun c o h n => b c o (a c o h n) n
theorem But.tups {l : Addr} {H H' : Hp} {xs : List V} (a : But l H H') (h : H l = some (.lst xs)) : SameT H H' := fun b ys hb => by
  have n : b ≠ l := by
    rintro rfl
    rcases hb with hb | ⟨o, hb⟩ <;> rw [h] at hb <;> cases hb
  rcases hb with hb | ⟨o, hb⟩
  · exact .inl (a _ _ hb n)
  · exact .inr ⟨o, a _ _ hb n⟩
theorem but_upd {l : Addr} {H : Hp} {o : HO} : But l H (upd H l o) := fun b u e n => by
  rw [upd_ne n]
  exact e
theorem sameT_sq {K : PySem.W.Frag} {H H' : Hp} (e : SameT H H') {a : Addr} {xs : List V} (h : SqT K H a xs) : SqT K H' a xs := by
  rcases h with h | h
  · exact .inl (e _ _ h)
  · exact .inr h
/-- a kind stands at v -/
def KdAt (K : PySem.W.Frag) (H : Hp) : V → Kd → Prop
  | v, .text => ∃ p, v = .ref p ∧ SqT K H p [.str "text"]
  | v, .to a b => ∃ p x y, v = .ref p ∧ SqT K H p [.str "to", x, y] ∧ KdAt K H x a ∧ KdAt K H y b
theorem KdAt.same {K : PySem.W.Frag} {H H' : Hp} (e : SameT H H') : ∀ {k : Kd} {v : V}, KdAt K H v k → KdAt K H' v k
  | .text, v, ⟨p, h1, h2⟩ => ⟨p, h1, sameT_sq e h2⟩
  | .to a b, v, ⟨p, x, y, h1, h2, h3, h4⟩ => ⟨p, x, y, h1, sameT_sq e h2, KdAt.same e h3, KdAt.same e h4⟩
theorem KdAt.dp {K : PySem.W.Frag} {H : Hp} : ∀ {k : Kd} {v : V}, KdAt K H v k → Dp K H v k.data
  | .text, v, ⟨p, h1, h2⟩ => by
    subst h1
    exact .tup h2 (.cons (.str _) .nil)
  | .to a b, v, ⟨p, x, y, h1, h2, h3, h4⟩ => by
    subst h1
    exact .tup h2 (.cons (.str _) (.cons (KdAt.dp h3) (.cons (KdAt.dp h4) .nil)))
theorem KdAt.of_dp {K : PySem.W.Frag} {H : Hp} : ∀ {k : Kd} {v : V}, Dp K H v k.data → KdAt K H v k
  | .text, v, h => by
    have h : Dp K H v (.tuple [.str "text"]) := h
    cases h with
    | tup hT hA =>
      cases hA with
      | cons h1 h2 =>
        cases h1
        cases h2
        exact ⟨_, rfl, hT⟩
  | .to a b, v, h => by
    have h : Dp K H v (.tuple [.str "to", a.data, b.data]) := h
    cases h with
    | tup hT hA =>
      cases hA with
      | cons h1 h2 =>
        cases h1
        cases h2 with
        | cons h3 h4 =>
          cases h4 with
          | cons h5 h6 =>
            cases h6
            exact ⟨_, _, _, rfl, hT, KdAt.of_dp h3, KdAt.of_dp h5⟩
theorem okD_kind {k : Kd} (h : k.ends ≤ 64) : SeqAt.shaped k.data = true := by
  unfold SeqAt.shaped
  rw [k.data_lay, k.data_depth, Bool.true_and]
  exact decide_eq_true (Nat.le_trans k.deep_ends h)

/-! ### the rows of a kind's ends -/
/-- which ends are the parts of the result of k, whose first end is b -/
def partsFrom : Kd → Nat → List Nat
  | .text, _ => []
  | .to a r, b => (b + a.ends - 1) :: partsFrom r (b + a.ends)
/-- asked, parts, the kind whose result it is -/
abbrev Row := Bool × List Nat × Kd
/-- the rows of all ends of k but its result -/
def inner : Kd → Bool → Nat → List Row
  | .text, _, _ => []
  | .to a r, s, b => inner a (!s) b ++ (!s, partsFrom a b, a) :: inner r s (b + a.ends)
def rowsOf (k : Kd) (s : Bool) (b : Nat) : List Row := inner k s b ++ [(s, partsFrom k b, k)]
theorem inner_len : ∀ (k : Kd) (s : Bool) (b : Nat), (inner k s b).length + 1 = k.ends
  | .text, _, _ => rfl
  | .to a r, s, b => by
    have h1 := inner_len a (!s) b
    have h2 := inner_len r s (b + a.ends)
    simp only [inner, List.length_append, List.length_cons, Kd.ends]
    omega
theorem rowsOf_len (k : Kd) (s : Bool) (b : Nat) : (rowsOf k s b).length = k.ends := by
  have := inner_len k s b
  simp only [rowsOf, List.length_append, List.length_cons, List.length_nil]
  omega
def intV (n : Nat) : V := .int (n : Int)
def RowAt (K : PySem.W.Frag) (H : Hp) (v : V) (r : Row) : Prop := ∃ p t w, v = .ref p ∧ SqT K H p [.bl r.1, .ref t, w] ∧ SqT K H t (r.2.1.map intV) ∧ KdAt K H w r.2.2
theorem RowAt.same {K : PySem.W.Frag} {H H' : Hp} (e : SameT H H') {v : V} {r : Row} : RowAt K H v r → RowAt K H' v r := fun ⟨p, t, w, h1, h2, h3, h4⟩ => ⟨p, t, w, h1, sameT_sq e h2, sameT_sq e h3, h4.same e⟩
def RowsAt (K : PySem.W.Frag) (H : Hp) : List V → List Row → Prop := Paired (RowAt K H)
theorem RowsAt.same {K : PySem.W.Frag} {H H' : Hp} (e : SameT H H') : ∀ {vs : List V} {rs : List Row}, RowsAt K H vs rs → RowsAt K H' vs rs
  | _, _, .nil => .nil
  | _, _, .cons h t => .cons (h.same e) (RowsAt.same e t)
theorem RowsAt.app {K : PySem.W.Frag} {H : Hp} : ∀ {vs ws : List V} {rs ss : List Row}, RowsAt K H vs rs → RowsAt K H ws ss → RowsAt K H (vs ++ ws) (rs ++ ss)
  | _, _, _, _, .nil, h => h
  | _, _, _, _, .cons a t, h => .cons a (RowsAt.app t h)
theorem RowsAt.len {K : PySem.W.Frag} {H : Hp} {vs : List V} {rs : List Row} (h : RowsAt K H vs rs) : vs.length = rs.length := Paired.length h
end Kn
set_option Elab.async false
set_option linter.all false
set_option maxRecDepth 100000
set_option maxHeartbeats 4000000
namespace L2
open PySem PySem.Spec PyProof.Rows LamX
/-! ### == where one of both is shallow -/
def rEqN (K : PySem.W.Frag) : R2 := fun x y H Q => ∃ d e, Dp K H x d ∧ Dp K H y e ∧ d.canLay0 = true ∧ e.canLay0 = true ∧ min d.depth e.depth ≤ 64 ∧ Q (.bl (PyData.eqv d e)) H
def rNeN (K : PySem.W.Frag) : R2 := fun x y H Q => ∃ d e, Dp K H x d ∧ Dp K H y e ∧ d.canLay0 = true ∧ e.canLay0 = true ∧ min d.depth e.depth ≤ 64 ∧ Q (.bl (!PyData.eqv d e)) H
section
variable {X : Cx}
theorem op_eqN (hu : X.A.units + 64 < cLine) : OpR X (compareOp .Eq) (rEqN X.K) := by
  intro pins s σ H x y v u Q I rx ry h
  obtain ⟨d, e, hd, he, sd, se, sm, q⟩ := h
  obtain ⟨as, r1⟩ := Dp.reads I d x v hd rx
  obtain ⟨bs, r2⟩ := Dp.reads I e y u he ry
  exact SeqAt.compareEq_reads r1 r2 sd se (by omega) ⟨.bl _, H, I, rfl, q⟩
theorem op_neN (hu : X.A.units + 64 < cLine) : OpR X (compareOp .NotEq) (rNeN X.K) := by
  intro pins s σ H x y v u Q I rx ry h
  obtain ⟨d, e, hd, he, sd, se, sm, q⟩ := h
  obtain ⟨as, r1⟩ := Dp.reads I d x v hd rx
  obtain ⟨bs, r2⟩ := Dp.reads I e y u he ry
  exact SeqAt.compareNe_reads r1 r2 sd se (by omega) ⟨.bl _, H, I, rfl, q⟩
end
/-! ### a slot holds one of several defs that may raise -/
structure HeldX (P : Program) (w : World) (K : PySem.W.Frag) (mg : Str → Option Value) (base : Heap) (k : Nat) (f : Addr) (sp : Sp) : Prop where
  ex : ∃ (fd : FuncData) (ps : List Str), FnOk P w K mg base (L2.CX P w) k f fd ps sp ∧ PySem.W.keepIn K (.ref f) = true ∧ Binds K fd ps []
def tCallX (i : Nat) (S : Addr → Sp → Prop) (E : XK) (t : TA) : TE := fun σ H Q => ∃ f sp, σ[i]? = some (some (.ref f)) ∧ S f sp ∧ t σ H fun vs H1 => sp vs H1 Q E
theorem pe_callX {X : Cx} {k i : Nat} {E : XK} {x : Str} {p pos : Pos} {e : Expr} {es : List Expr} {t : TA} {S : Addr → Sp → Prop} (A : ∀ f sp, S f sp → HeldX X.prog X.w X.K X.mg X.base k f sp) (hr : Room k X.A) (hN : X.N[i]? = some x) (hv : Vis X.env.scope x) (hx : Passes (L2.CX X.prog X.w) X E) (ha : PA X (e :: es) t)
    (hdb : (x == ("__debug__" : Str)) = false := by decide) (hcd : (x == ("__classdict__" : Str)) = false := by decide)
    (he : starEach (e :: es) X.env = (false, eval e X.env) :: starEach es X.env := by rfl) (hpl : (backTo pos (starEach es X.env)).any (·.1) = false := by rfl) : PE X (.Call (.Name x p) (e :: es) [] pos) (tCallX i S E t) := by
  refine ⟨fun pins s σ H Q I h => ?_⟩
  obtain ⟨f, sp, hs, hS, ht⟩ := h
  obtain ⟨fd, ps, F, hk, hb⟩ := (A f sp hS).ex
  refine wpAny_Call_Name_kw (thn ((pe_var (pos := p) hN hv hdb hcd).run pins s σ H (fun v H1 => v = .ref f ∧ H1 = H) I ⟨.ref f, hs, rfl, rfl⟩) fun u s1 ⟨v, H1, I1, r1, q1⟩ => ?_)
  obtain ⟨rfl, rfl⟩ := q1
  cases r1
  refine PySem.W.callWith_K (h₀ := X.base) I.ok.mod.kin hk (thn (ha.run pos pins s1 σ _ _ I1 ht) fun us s2 ⟨vs, H2, I2, r, q⟩ => ⟨I2.kIn, ?_⟩) he hpl
  exact run_fn (dvs := []) F hr hb .nil hx I2 r (by rw [List.append_nil]; exact q)
end L2
namespace Kn
open PySem L2
/-! ### what is seen where d and g are left aside -/
def off (d g : Addr) (H : Hp) : Hp := fun b => if b = d ∨ b = g then none else H b
theorem off_at {d g b : Addr} {H : Hp} (h1 : b ≠ d) (h2 : b ≠ g) : off d g H b = H b := if_neg fun z => z.elim h1 h2
theorem off_some {d g b : Addr} {H : Hp} {o : HO} (e : off d g H b = some o) : b ≠ d ∧ b ≠ g ∧ H b = some o := by
  unfold off at e
  split at e
  · cases e
  · rename_i h
    exact ⟨fun z => h (.inl z), fun z => h (.inr z), e⟩
theorem off_sub (d g : Addr) (H : Hp) : Same (off d g H) H := fun b o e => (off_some e).2.2
theorem off_same {d g : Addr} {H H' : Hp} (s : Same H H') : Same (off d g H) (off d g H') := fun b o e => by
  obtain ⟨h1, h2, h3⟩ := off_some e
  rw [off_at h1 h2]
  exact s _ _ h3
theorem off_of {d g : Addr} {H H' : Hp} (s : ∀ b o, H b = some o → b ≠ d → b ≠ g → H' b = some o) : Same (off d g H) (off d g H') := fun b o e => by
  obtain ⟨h1, h2, h3⟩ := off_some e
  rw [off_at h1 h2]
  exact s _ _ h3 h1 h2
/-! ### sizes and wordings of kinds -/
theorem text_word : (PyData.str "text").canLay0 = true ∧ (PyData.str "text").showable = true ∧ (PyData.str "text").intsShort 13 = true ∧ (PyData.str "text").depth = 0 := ⟨by decide +kernel, by decide +kernel, by decide +kernel, rfl⟩
theorem to_word : (PyData.str "to").canLay0 = true ∧ (PyData.str "to").showable = true ∧ (PyData.str "to").intsShort 13 = true ∧ (PyData.str "to").depth = 0 := ⟨by decide +kernel, by decide +kernel, by decide +kernel, rfl⟩
theorem Kd.shows : ∀ k : Kd, k.data.showable = true ∧ k.data.intsShort 13 = true
  | .text => by
    obtain ⟨h1, h2, h3, h4⟩ := text_word
    simp only [data, PyData.showable, PyData.showableAll, PyData.intsShort, PyData.intsShortAll] at h2 h3 ⊢
    simp [h2, h3]
  | .to a b => by
    obtain ⟨h1, h2, h3, h4⟩ := to_word
    have ha := Kd.shows a
    have hb := Kd.shows b
    simp only [data, PyData.showable, PyData.showableAll, PyData.intsShort, PyData.intsShortAll] at h2 h3 ⊢
    simp [h2, h3, ha, hb]
theorem Kd.weighs : ∀ k : Kd, k.data.weight + 50 ≤ 100 * k.ends
  | .text => by
    have h : PyData.weight (.str "text") ≤ 20 := by decide +kernel
    simp only [data, PyData.weight, PyData.weightAll, ends] at h ⊢
    omega
  | .to a b => by
    have h : PyData.weight (.str "to") ≤ 20 := by decide +kernel
    have ha := Kd.weighs a
    have hb := Kd.weighs b
    have p1 := a.ends_pos
    have p2 := b.ends_pos
    simp only [data, PyData.weight, PyData.weightAll, ends] at h ⊢
    omega
/-- what repr tells of d is short -/
def ShowOk (d : PyData) : Prop := d.canLay0 = true ∧ d.depth ≤ 100 ∧ d.showable = true ∧ d.shown.length ≤ sizeLine
theorem showOk_of {d : PyData} (h1 : d.canLay0 = true) (h2 : d.depth ≤ 64) (h3 : d.showable = true) (h4 : d.intsShort 13 = true) (h5 : d.weight ≤ 2 ^ 20) : ShowOk d := by
  refine ⟨h1, by omega, h3, Nat.le_trans (PyProof.Rows.shown_le13 ?_ h4) (by decide)⟩
  unfold PyData.layable0
  rw [h1, decide_eq_true h2, decide_eq_true h5]
  rfl
theorem showOk_kind {k : Kd} (h : k.ends ≤ 64) : ShowOk k.data := by
  obtain ⟨h3, h4⟩ := k.shows
  have h5 := k.weighs
  have h6 := k.deep_ends
  exact showOk_of k.data_lay (by rw [k.data_depth]; omega) h3 h4 (by omega)
end Kn
set_option Elab.async false
set_option linter.all false
set_option maxRecDepth 100000
set_option maxHeartbeats 4000000
/-! ### t[::-1], t a tuple -/
namespace HT
open PySem PyProof.Rows
section
variable {prog : Program} {w : World} {A : Around} {E : Value → Shared → Prop} {s : Shared}
theorem adjust_rev (n : Nat) : Builtin.Slice.sliceAdjust none none (-1) (n : Int) = ((n : Int) - 1, -1) := rfl
theorem places_rev (n : Nat) : Builtin.Slice.slicePlaces ((n : Int) - 1) (-1) (-1) = n := by
  unfold Builtin.Slice.slicePlaces
  have h1 : ¬ ((-1 : Int) > 0) := by decide
  by_cases h : (n : Int) - 1 > -1
  · have e : ((n : Int) - 1 - -1 - 1) / (- -1) + 1 = (n : Int) := by
      rw [show (- -1 : Int) = 1 by decide, Int.ediv_one]
      omega
    simp only [h1, if_false, h, if_true, e, Int.toNat_natCast]
  · have e : n = 0 := by omega
    subst e
    rfl
theorem sliceApplied_rev {sl : Addr} {u : Tok} {n : Nat} {Q : Int × Int × Nat → Shared → Prop} (hs : s.heap.IsSliceOf sl .none .none (.int (-1) u))
    (h : Q ((n : Int) - 1, -1, n) s) : wpAny (model prog w) A (Builtin.Slice.sliceApplied (.ref sl) (pure (n : Int))) Q E s := by
  obtain ⟨os, hos, hcs, hds⟩ := id hs
  unfold Builtin.Slice.sliceApplied Builtin.Slice.sliceFields
  refine wpAny_bind (wpAny_bind (wpAny_field hos hds (x := .none) rfl (wpAny_bind (wpAny_field hos hds (x := .none) rfl (wpAny_bind (wpAny_field hos hds (x := .int (-1) u) rfl (wpAny_pure ?_)))))))
  refine wpAny_bind (slicePart_int ?_)
  show wpAny _ _ (if ((-1 : Int) == 0) = true then _ else _) _ _ s
  rw [if_neg (by decide)]
  refine wpAny_bind (slicePart_none (wpAny_bind (slicePart_none (wpAny_bind (wpAny_pure ?_)))))
  show wpAny _ _ (match Builtin.Slice.sliceAdjust none none (-1) (n : Int) with | (lo, hi) => pure (lo, (-1 : Int), Builtin.Slice.slicePlaces lo hi (-1))) _ _ s
  rw [adjust_rev]
  show wpAny _ _ (pure ((n : Int) - 1, (-1 : Int), Builtin.Slice.slicePlaces ((n : Int) - 1) (-1) (-1))) _ _ s
  rw [places_rev]
  exact wpAny_pure h
theorem pick_rev (xs : Array Value) : ((List.range xs.size).filterMap fun (m : Nat) => xs[((xs.size : Int) - 1 + (m : Int) * (-1)).toNat]?).toArray = xs.toList.reverse.toArray := by
  have e : (List.range xs.size).filterMap (fun (m : Nat) => xs[((xs.size : Int) - 1 + (m : Int) * (-1)).toNat]?) = ((List.range xs.size).map (fun k => xs.size - 1 - k)).filterMap (xs[·]?) := by
    rw [List.filterMap_map]
    congr 1
    funext m
    show xs[((xs.size : Int) - 1 + (m : Int) * (-1)).toNat]? = xs[xs.size - 1 - m]?
    rw [show ((xs.size : Int) - 1 + (m : Int) * (-1)).toNat = xs.size - 1 - m by omega]
  rw [e, PySem.W.krv_range, List.filterMap_reverse, PySem.W.krv_all]
theorem getItem_tuple_rev {t sl : Addr} {items : Array Value} {u : Tok} {Q : Value → Shared → Prop} (ht : IsTup s.heap t items) (hs : s.heap.IsSliceOf sl .none .none (.int (-1) u))
    (h : Q (.ref s.heap.objs.size) { s with heap := s.heap.push { cls := .type "tuple", data := .seq items.toList.reverse.toArray } })
    (hsz : items.size ≤ sizeLine) : wpAny (model prog w) A (getItem (.ref t) (.ref sl)) Q E s := by
  have htake : sizeOk (.seq items.toList.reverse.toArray) := by
    show items.toList.reverse.toArray.size ≤ sizeLine
    rw [List.size_toArray, List.length_reverse, Array.length_toList]
    omega
  obtain ⟨os, hos, hcs, hds⟩ := id hs
  have hTs : s.TypeIs (.ref sl) "slice" := ⟨os, hos, hcs⟩
  unfold getItem
  try with_reducible refine wpAny_holding ?_
  first | refine wpAny_bind (wpAny_pure ?_) | skip
  refine wpAny_bind (wpAny_sequenceKey ht.typeIs (by decide) ?_)
  refine wpAny_bind (wpAny_callSpecial?_slot (name := Str.ofString "__getitem__") ht.typeIs PyProof.Rows.slot_tuple_getitem
    (wpAny_call_entry PyProof.Rows.slot_tuple_getitem ht.typeIs entry_tuple_getitem ?_ (args_tuple_getitem _ _)))
  show wpAny _ _ (Builtin.Tuple.tupleItemsOf (.ref t) >>= _) _ _ s
  refine wpAny_bind (tupleItemsOf_ ht ?_)
  refine wpAny_bind (wpAny_typeOf hTs ?_)
  rw [if_pos (by decide)]
  refine wpAny_bind (sliceApplied_rev hs ?_)
  have hno : ¬ ((((items.size : Nat) : Int) - 1 == 0 && (-1 : Int) == 1 && items.size == items.size) = true) := by
    intro q
    rw [Bool.and_eq_true, Bool.and_eq_true] at q
    exact absurd q.1.2 (by decide)
  show wpAny _ _ (if (((items.size : Nat) : Int) - 1 == 0 && (-1 : Int) == 1 && items.size == items.size) = true then _ else _) _ _ s
  rw [if_neg hno, pick_rev]
  first
    | exact wpAny_bind (m := Builtin.Tuple.tupleExact _) (wpAny_newObj_type (wpAny_pure ⟨_, rfl, wpAny_pure h⟩) htake)
    | exact wpAny_bind (m := Builtin.Tuple.tupleExact _) (wpAny_newObj_type (wpAny_bind (wpAny_pure (wpAny_pure ⟨_, rfl, wpAny_pure h⟩))) htake)
    | exact wpAny_bind (wpAny_bind (m := Builtin.Tuple.tupleExact _) (wpAny_newObj_type (wpAny_pure (wpAny_pure ⟨_, rfl, wpAny_pure h⟩)) htake))
    | exact wpAny_bind (wpAny_bind (m := Builtin.Tuple.tupleExact _) (wpAny_newObj_type (wpAny_pure ⟨_, rfl, wpAny_pure h⟩) htake))
end
end HT
namespace L2
open PySem PySem.Spec PyProof.Rows
def tRevT (K : PySem.W.Frag) (te : TE) : TE := fun σ H Q => te σ H fun x H1 => ∃ a xs, x = .ref a ∧ SqT K H1 a xs ∧ ∀ p, H1 p = none → Q (.ref p) (upd H1 p (.tup xs.reverse))
theorem pe_revT {X : Cx} {e : Expr} {te : TE} {k : Nat} {p1 p2 p3 pos : Pos} (he : PE X e te) : PE X (.Subscript e (.Slice none none (some (.UnaryOp .USub (.Constant (.int 1) k p1) p2)) p3) pos) (tRevT X.K te) := by
  refine ⟨fun pins s σ H Q I h => ?_⟩
  refine Subscript_ (thn (he.run pins s σ H _ I h) fun v s1 ⟨x, H1, I1, r1, q1⟩ => ?_)
  obtain ⟨a, xs, ex, hx, q⟩ := q1
  subst ex
  cases r1
  have hst : PO X (some (.UnaryOp .USub (.Constant (.int 1) k p1) p2)) (tPart (tUn (rU fun i => .int (-i)) (tC (.int 1)))) := po_some (pe_un un_neg pe_int)
  refine wpAny_Slice (thn (po_none.run pins s1 σ H1 (fun o H2 => o = none ∧ H2 = H1) I1 ⟨rfl, rfl⟩) fun vl s2 ⟨l, H2, I2, pl, el, e2⟩ => ?_)
  subst el e2
  refine thn (po_none.run pins s2 σ H2 (fun o H3 => o = none ∧ H3 = H2) I2 ⟨rfl, rfl⟩) fun vu s3 ⟨u, H3, I3, pu, eu, e3⟩ => ?_
  subst eu e3
  refine thn (hst.run pins s3 σ H3 (fun o H4 => o = some (-1) ∧ H4 = H3) I3 ⟨1, rfl, -1, rfl, rfl, rfl⟩) fun vs s4 ⟨o, H4, I4, ps, eo, e4⟩ => ?_
  subst eo e4
  have I5 : Inv X pins σ H4 { s4 with heap := s4.heap.push { cls := .type "slice", data := .fields #[vl, vu, vs] } } := I4.kept (t' := s4.toks) fun b ob q => Heap.get?_push_of_some _ q
  obtain ⟨its, r, ht, hz⟩ := I5.tuple hx
  have hlen := r.length
  show wpAny (model X.prog X.w) X.A (subscriptTail e (.Slice none none (some (.UnaryOp .USub (.Constant (.int 1) k p1) p2)) p3) (.ref a) (.ref s4.heap.objs.size)) (EP X pins σ Q) X.xe { s4 with heap := s4.heap.push { cls := .type "slice", data := .fields #[vl, vu, vs] } }
  refine tail_any (ops := [.ref a, .ref s4.heap.objs.size]) ht.typeIs (PyProof.Rows.slot_tuple_getitem.lookup) ?_ (by with_unfolding_all rfl)
  cases pl
  cases pu
  cases ps
  refine HT.getItem_tuple_rev ht (Heap.IsSliceOf.new _ _ _ _) ?_ (by rw [List.size_toArray]; omega)
  refine ⟨.ref _, _, I5.laid (t' := s4.toks) (o := .tup xs.reverse) (fun b ob q => Heap.get?_push_of_some _ q) (Nat.le_refl _) ?_, rfl, q _ (I5.hok.fresh (Nat.le_refl _))⟩
  exact ⟨by rw [List.length_reverse]; exact hz, _, r.reverse, IsTup.new _ _⟩
end L2
set_option Elab.async false
set_option linter.all false
set_option maxRecDepth 100000
set_option maxHeartbeats 4000000
namespace My
open PySem L2 Kn
def top (i : Nat) : Stmt := PySem.Challenge.pw_oneuseheads_k00_kinds.main.body.getD i (.Pass ⟨0, 0, 0, 0⟩)
/-! ### is_kind, need_kind -/
structure TxtK (K : PySem.W.Frag) (mg : Str → Option Value) (tA : Addr) : Prop where
  gT : mg "TEXT" = some (.ref tA)
  tup : ∀ H, SqT K H tA [.str "text"]
  mE : ∃ tk, mg "MOST_ENDS" = some (.int 60 tk)
  isi : mg "isinstance" = none
  len : mg "len" = none
  tuple : mg "tuple" = none
/-- a datum as the laws hand them in -/
def OkD (d : PyData) : Prop := d.canLay0 = true
abbrev s_is_kind : Stmt := top 7
def spIsKind (K : PySem.W.Frag) : Sp := fun vs H Q _ => ∃ (v : V) (d : PyData), vs = [v] ∧ Dp K H v d ∧ OkD d ∧ ∀ H', Same H H' → Q (.bl (isKd d)) H'
/-- between two turns of is_kind's loop -/
def WKind (K : PySem.W.Frag) (H : Hp) (v : V) (q : Addr) (R : Bool) (m : Nat) (σ : St) (H' : Hp) : Prop := ∃ (e : Nat) (vs : List V) (ds : List PyData) (v3 : Option V),
  σ = [some v, some (.int e), some (.ref q), v3] ∧ Same H H' ∧ H' q = some (.lst vs) ∧ DpAll K H vs ds ∧ (∀ d ∈ ds, OkD d) ∧ e + ds.length ≤ 60 ∧ ans e ds = R ∧ m = (ds.map sizeOf).sum
theorem okD_text : OkD (.tuple [.str "text"]) := Kd.data_lay .text
theorem okD_str (s : Str) (h : PyData.canLay0 (.str s) = true) : OkD (.str s) := h
theorem okD_kd (k : Kd) : OkD k.data := k.data_lay
theorem canAll_mem {d : PyData} : ∀ {xs : List PyData}, PyData.canLayAll0 xs = true → d ∈ xs → d.canLay0 = true
  | x :: r, h, hm => by
    simp only [PyData.canLayAll0, Bool.and_eq_true] at h
    rcases List.mem_cons.mp hm with rfl | hm
    · exact h.1
    · exact canAll_mem h.2 hm
theorem okD_items {d : PyData} {xs : List PyData} (h : OkD (.tuple xs)) (hd : d ∈ xs) : OkD d := by
  unfold OkD at h ⊢
  simp only [PyData.canLay0] at h
  exact canAll_mem h hd
theorem min_text (d : PyData) : min d.depth (PyData.tuple [.str "text"]).depth ≤ 64 := by
  have h : (PyData.tuple [.str "text"]).depth = 1 := Kd.data_depth .text
  rw [h]
  omega
theorem min_str (d : PyData) (s : Str) : min d.depth (PyData.str s).depth ≤ 64 := by
  have h : (PyData.str s).depth = 0 := by simp only [PyData.depth]
  rw [h]
  omega
theorem seqLast {α : Type} (l : List α) (x : α) : (l ++ [x])[(l ++ [x]).length - 1]? = some x := by simp
section
variable {P : Program} {w : World} {K : PySem.W.Frag} {mg : Str → Option Value} {base : Heap} {tA : Addr}
theorem sc_is_kind : FnScope ["value", "ends", "pending", "part"] ["value"] (defScope s_is_kind) := ⟨rfl, rfl, rfl, by decide +kernel, rfl, by decide +kernel, by decide +kernel⟩
theorem ok_is_kind {f : Addr} {fd : FuncData} (F : Fun K "is_kind" "is_kind" s_is_kind f fd) (T : TxtK K mg tA) : FnOk P w K mg base CX0 1 f fd ["value"] (spIsKind K) := by
  refine F.ok sc_is_kind (fun vs H Q E h => ?_) (fun cdv A outer s H vs Q E hr h => ?_)
  · obtain ⟨v, d, rfl, _⟩ := h
    rfl
  · obtain ⟨v, d, rfl, hd, hs, k⟩ := h
    obtain ⟨tk, mE⟩ := T.mE
    refine ⟨_, pss_cons (ps_set (i := 1) sc_is_kind.nd rfl (Or.inl rfl) pe_int)
      (pss_cons (ps_set (i := 2) sc_is_kind.nd rfl (Or.inl rfl) (pe_lst (pa_cons (pv 0) pa_nil)))
      (pss_cons (ps_while PassesOwn.never (pt_truth (pv 2) (by intro _; rfl))
        (pss_cons (ps_set (i := 3) sc_is_kind.nd rfl (Or.inl rfl) (pe_bm0 PySem.F.plainAttrs_list PySem.F.slot_list_pop PySem.F.type_list_pop mt_pop (pv 2)))
        (pss_cons (ps_if (pt_cmpR (op_eqN hr.units) (pv 3) (pe_cls T.gT) (nomark _))
          (pss_one (ps_aug (i := 1) sc_is_kind.nd rfl (Or.inl rfl) pe_int ip_add))
          (pss_one (ps_if (PW.pt (pw_and (pt_val (by exact (pe_callB call_isi (by rfl) T.isi (by decide +kernel) (pa_cons (pv 3) (pa_cons (pe_bltn (v := .ty "tuple") rfl T.tuple (by decide +kernel) rfl) pa_nil)))))
              (pw_and (pt_cmpR op_eq (by exact (pe_callB call_len (by rfl) T.len (by decide +kernel) (pa_cons (pv 3) pa_nil))) pe_int (nomark _))
              (pw_and1 (pt_cmpR (op_eqN hr.units) (by exact (pe_ix ix_tup (pv 3) pe_int (fun _ _ => rfl))) pe_str (nomark _))))))
            (pss_cons (ps_expr (pe_bm PySem.F.plainAttrs_list PySem.F.slot_list_append PySem.F.type_list_append mt_append (pv 2) (pa_cons (pe_ix ix_tup (pv 3) pe_int (fun _ _ => rfl)) pa_nil)))
            (pss_one (ps_expr (pe_bm PySem.F.plainAttrs_list PySem.F.slot_list_append PySem.F.type_list_append mt_append (pv 2) (pa_cons (pe_ix ix_tup (pv 3) pe_int (fun _ _ => rfl)) pa_nil)))))
            (pss_one (ps_ret pe_bl)))))
        (pss_one (ps_if (pt_cmpR op_gt (pe_op op_add (pv 1) (by exact (pe_callB call_len (by rfl) T.len (by decide +kernel) (pa_cons (pv 2) pa_nil)))) (pe_glob (v := .int 60) rfl mE ⟨_, rfl⟩) (nomark _)) (pss_one (ps_ret pe_bl)) pss_nil)))))
      (pss_one (ps_ret pe_bl)))), ?_⟩
    refine ⟨_, rfl, by show 1 ≤ sizeLine; decide, fun q hq => ?_⟩
    have S0 : Same H (upd H q (.lst [v])) := same_new hq
    have qS : ∀ {H' : Hp} {xs : List V}, Same H H' → Same H (upd H' q (.lst xs)) := fun {H' xs} s b o e => by
      rw [upd_ne (ne_of_none e hq)]
      exact s b o e
    refine ⟨WKind K H v q (isKd d), ⟨_, 0, [v], [d], none, rfl, S0, upd_same, .cons hd .nil, fun x hx => by rw [List.mem_singleton.mp hx]; exact hs, (by simp), ans_start d, rfl⟩, ?_⟩
    rintro m σ H' ⟨e, vs, ds, v3, rfl, S, hL, hD, hO, he, ha, rfl⟩
    refine ⟨_, rfl, _, .inl ⟨vs, SqL.of hL, rfl⟩, ?_⟩
    rcases nil_or_snoc vs with rfl | ⟨vs', x, rfl⟩
    · refine iteF ?_
      cases hD
      rw [ans_done e (by simpa using he)] at ha
      show Q (.bl true) H'
      rw [ha]
      exact k H' S
    · obtain ⟨ds', dx, rfl, hD', hx⟩ := dpAll_unsnoc hD
      have hox : OkD dx := hO dx (by simp)
      have hO' : ∀ y ∈ ds', OkD y := fun y hy => hO y (by simp [hy])
      rw [List.length_append] at he
      have hel : ds'.length + 1 = (ds' ++ [dx]).length := by simp
      rw [if_pos (show (!(vs' ++ [x]).isEmpty) = true by simp)]
      refine ⟨fun σ' H'' => ∃ m', m' < ((ds' ++ [dx]).map sizeOf).sum ∧ WKind K H v q (isKd d) m' σ' H'', fun _ _ h => h, ?_⟩
      -- part = pending.pop()
      refine ⟨_, rfl, .inl ⟨rfl, _, SqL.of hL⟩, q, _, x, rfl, rfl, hL, seqLast _ _, ?_⟩
      rw [List.dropLast_concat]
      have S1 : Same H (upd H' q (.lst vs')) := qS S
      -- if part == TEXT
      refine ⟨_, rfl, dx, .tuple [.str "text"], dp_same S1 hx, .tup (T.tup _) (.cons (.str _) .nil), hox, okD_text, min_text _, _, rfl, ?_⟩
      refine ite2 (fun ht => ?_) (fun ht => ?_)
      · rw [eqv_one_str] at ht
        subst ht
        rw [ans_text] at ha
        refine ⟨_, rfl, _, _, rfl, rfl, ?_⟩
        have SS := S1
        have LL : (upd H' q (.lst vs')) q = some (.lst vs') := upd_same
        have OO := hO'
        refine ⟨_, rfl, _, rfl, _, _, rfl, .inl ⟨_, SqL.of LL, rfl⟩, _, _, rfl, rfl, _, _, rfl, rfl, _, rfl, ?_⟩
        have hll : (vs').length = (ds').length := dpAll_len hD'
        refine ite2 (fun hc => ?_) (fun hc => ?_)
        · have hc' : (60 : Int) < ((e : Int) + 1) + (((vs').length : Nat) : Int) := of_decide_eq_true hc
          have hgt : 60 < (e + 1) + (ds').length := by omega
          rw [ans_many _ _ hgt] at ha
          show Q (.bl false) _
          rw [ha]
          exact k _ SS
        · have hc' : ¬ (60 : Int) < ((e : Int) + 1) + (((vs').length : Nat) : Int) := fun z => hc (decide_eq_true z)
          have hle : (e + 1) + (ds').length ≤ 60 := by omega
          exact ⟨_, (by simp only [List.map_append, List.sum_append, List.map_cons, List.map_nil, List.sum_cons, List.sum_nil]; have := sz_pos (.tuple [.str "text"]); omega), (e + 1), vs', ds', _, rfl, SS, LL, hD', OO, hle, ha, rfl⟩
      · have nt : dx ≠ .tuple [.str "text"] := fun z => ht ((eqv_one_str dx "text").mpr z)
        -- elif isinstance(part, tuple) and len(part) == 3 and part[0] == 'to'
        refine ⟨_, rfl, x, .ty "tuple", _, _, isTup dx, rfl, .ty _, tyX_dp (dp_same S1 hx), kit_tuple dx, _, rfl, ?_⟩
        have no : (∀ y z, dx ≠ .tuple [.str "to", y, z]) → isKd d = false := fun h => by
          rw [← ha]
          exact ans_no e ds' dx nt h
        cases hx with
        | non => exact iteF (iteF (by show Q (.bl false) _; rw [← no (fun _ _ z => nomatch z)]; exact k _ S1))
        | bl _ => exact iteF (iteF (by show Q (.bl false) _; rw [← no (fun _ _ z => nomatch z)]; exact k _ S1))
        | int _ => exact iteF (iteF (by show Q (.bl false) _; rw [← no (fun _ _ z => nomatch z)]; exact k _ S1))
        | str _ => exact iteF (iteF (by show Q (.bl false) _; rw [← no (fun _ _ z => nomatch z)]; exact k _ S1))
        | lst _ _ => exact iteF (iteF (by show Q (.bl false) _; rw [← no (fun _ _ z => nomatch z)]; exact k _ S1))
        | @tup a xs items hT hA =>
          refine iteT ?_
          refine ⟨_, rfl, _, _, rfl, .inr ⟨xs, seqT_same S1 hT, rfl⟩, rfl, _, rfl, ?_⟩
          refine ite2 (fun h3 => ?_) (fun h3 => ?_)
          · have h3' : xs.length = 3 := by
              have z := of_decide_eq_true h3
              have z2 : ((xs.length : Nat) : Int) = 3 := by injection z
              omega
            obtain ⟨w0, w1, w2, d0, d1, d2, rfl, rfl, a0, a1, a2⟩ := dpAll_three hA h3'
            · have S1T := seqT_same S1 hT
              refine ⟨_, rfl, a, [w0, w1, w2], _, w0, rfl, rfl, S1T, atI_nat (j := 0) rfl, d0, .str "to", dp_same S1 a0, .str _, okD_items hox (by simp), okD_str _ (by decide +kernel), min_str _ _, _, rfl, ?_⟩
              refine ite2 (fun h0 => ?_) (fun h0 => ?_)
              · rw [eqv_str] at h0
                subst h0
                rw [ans_to] at ha
                refine ⟨_, rfl, .inl ⟨rfl, _, SqL.of upd_same⟩, _, rfl, a, [w0, w1, w2], _, w2, rfl, rfl, S1T, atI_nat (j := 2) rfl, q, _, _, rfl, rfl, upd_same, small1000 ?_, ?_⟩
                · have := dpAll_len hD'
                  omega
                rw [upd_upd]
                have S2 : Same H (upd H' q (.lst (vs' ++ [w2]))) := qS S
                refine ⟨_, rfl, .inl ⟨rfl, _, SqL.of upd_same⟩, _, rfl, a, [w0, w1, w2], _, w1, rfl, rfl, seqT_same S2 hT, atI_nat (j := 1) rfl, q, _, _, rfl, rfl, upd_same, small1000 ?_, ?_⟩
                · have := dpAll_len hD'
                  rw [List.length_append]
                  show vs'.length + 1 ≤ 1000
                  omega
                rw [upd_upd]
                have SS : Same H (upd H' q (.lst (vs' ++ [w2] ++ [w1]))) := qS S
                have LL : (upd H' q (.lst (vs' ++ [w2] ++ [w1]))) q = some (.lst (vs' ++ [w2] ++ [w1])) := upd_same
                have DD : DpAll K H (vs' ++ [w2] ++ [w1]) (ds' ++ [d2] ++ [d1]) := dpAll_snoc (dpAll_snoc hD' a2) a1
                have OO : ∀ y ∈ ds' ++ [d2] ++ [d1], OkD y := fun y hy => by
                  rcases List.mem_append.mp hy with hy | hy
                  · rcases List.mem_append.mp hy with hy | hy
                    · exact hO' y hy
                    · rw [List.mem_singleton.mp hy]
                      exact okD_items hox (by simp)
                  · rw [List.mem_singleton.mp hy]
                    exact okD_items hox (by simp)
                refine ⟨_, rfl, _, rfl, _, _, rfl, .inl ⟨_, SqL.of LL, rfl⟩, _, _, rfl, rfl, _, _, rfl, rfl, _, rfl, ?_⟩
                have hll : (vs' ++ [w2] ++ [w1]).length = (ds' ++ [d2] ++ [d1]).length := dpAll_len DD
                refine ite2 (fun hc => ?_) (fun hc => ?_)
                · have hc' : (60 : Int) < (e : Int) + (((vs' ++ [w2] ++ [w1]).length : Nat) : Int) := of_decide_eq_true hc
                  have hgt : 60 < e + (ds' ++ [d2] ++ [d1]).length := by omega
                  rw [ans_many _ _ hgt] at ha
                  show Q (.bl false) _
                  rw [ha]
                  exact k _ SS
                · have hc' : ¬ (60 : Int) < (e : Int) + (((vs' ++ [w2] ++ [w1]).length : Nat) : Int) := fun z => hc (decide_eq_true z)
                  have hle : e + (ds' ++ [d2] ++ [d1]).length ≤ 60 := by omega
                  exact ⟨_, (by simp only [List.map_append, List.sum_append, List.map_cons, List.map_nil, List.sum_cons, List.sum_nil]; have := sz_to d1 d2; omega), e, vs' ++ [w2] ++ [w1], ds' ++ [d2] ++ [d1], _, rfl, SS, LL, DD, OO, hle, ha, rfl⟩
              · have := no (fun y z e => h0 (by cases e; exact (eqv_str _ _).mpr rfl))
                show Q (.bl false) _
                rw [← this]
                exact k _ S1
          · have := no (fun y z e => h3 (by
              cases e
              have := dpAll_len hA
              rw [this]
              rfl))
            show Q (.bl false) _
            rw [← this]
            exact k _ S1
end
/-! ### a class of errors without fields -/
structure ErrC (K : PySem.W.Frag) (mg : Str → Option Value) (x : Str) (C HE : Addr) : Prop where
  gC : mg x = some (.ref C)
  kC : PySem.W.keepIn K (.ref C) = true
  q : PySem.W.excIn K C [.type "ValueError", .type "Exception", .type "BaseException", .type "object"] "ValueError.__new__" = true
  sB : PySem.W.subIn K (.ref C) (.type "BaseException") = some true
  tC : PySem.W.typeIn K (.ref C) = some (.type "type")
  ec : ExcC K C
  em : PySem.W.exmOne K (.ref C) (.ref HE) = some true
abbrev s_need_kind : Stmt := top 8
def spNeed (K : PySem.W.Frag) (C : Addr) : Sp := fun vs H Q E => ∃ (v : V) (d : PyData), vs = [v] ∧ Dp K H v d ∧ OkD d ∧ (isKd d = true → ∀ H', Same H H' → Q .non H') ∧ (isKd d = false → ∀ H', Same H H' → E (.ref C) none H')
section
variable {P : Program} {w : World} {K : PySem.W.Frag} {mg : Str → Option Value} {base : Heap} {tA BK HE : Addr}
theorem sc_need_kind : FnScope ["kind"] ["kind"] (defScope s_need_kind) := ⟨rfl, rfl, rfl, by decide +kernel, rfl, by decide +kernel, by decide +kernel⟩
theorem ok_need_kind {f f1 : Addr} {fd fd1 : FuncData} (F : Fun K "need_kind" "need_kind" s_need_kind f fd) (C : ErrC K mg "BadKind" BK HE)
    (G : FnOk P w K mg base CX0 1 f1 fd1 ["value"] (spIsKind K)) (g1 : mg "is_kind" = some (.ref f1)) (k1 : PySem.W.keepIn K (.ref f1) = true) (b1 : Binds K fd1 ["value"] []) : FnOk P w K mg base (L2.CX P w) 2 f fd ["kind"] (spNeed K BK) := by
  refine F.okX sc_need_kind (fun vs H Q E h => ?_) (fun cdv A outer s H vs Q E hr h => ?_)
  · obtain ⟨v, d, rfl, _⟩ := h
    rfl
  · obtain ⟨v, d, rfl, hd, hs, kT, kF⟩ := h
    refine ⟨_, pss_one (ps_if (pt_not (pt_val (by exact (pe_call G hr rfl g1 k1 b1 .nil pass0 (pa_cons (pv 0) pa_nil)))))
      (pss_one (ps_raise rfl (takes_of rfl rfl rfl rfl) (pmk_own PySem.F.excBase_ValueError C.q C.gC C.kC (raises_own C.sB C.tC) rfl))) pss_nil), ?_⟩
    refine ⟨_, rfl, v, d, rfl, hd, hs, fun H' S => ⟨_, rfl, ?_⟩⟩
    cases e : isKd d with
    | true => exact iteF (kT e H' S)
    | false => exact iteT (kF e H' S)
end
end My
set_option Elab.async false
set_option linter.all false
set_option maxRecDepth 100000
set_option maxHeartbeats 4000000
namespace My
open PySem L2 Kn
theorem text_or (k : Kd) : (k = .text) ∨ ∃ a b, k = .to a b := by
  cases k with
  | text => exact .inl rfl
  | to a b => exact .inr ⟨a, b, rfl⟩
theorem eqv_text (k : Kd) : PyData.eqv k.data (.tuple [.str "text"]) = decide (k = .text) := by
  cases k with
  | text => exact (eqv_one_str _ "text").mpr rfl
  | to a b =>
    cases e : PyData.eqv (Kd.to a b).data (.tuple [.str "text"]) with
    | false => rfl
    | true =>
      have := (eqv_one_str _ "text").mp e
      cases this
/-! ### _law_oh_ends -/
theorem iteBT {b : Bool} {P Q : Prop} (h : b = true) (p : P) : if b = true then P else Q := by rw [if_pos h]; exact p
theorem iteBF {b : Bool} {P Q : Prop} (h : b = false) (q : Q) : if b = true then P else Q := by rw [h]; exact q
abbrev s_oh_ends : Stmt := top 25
def spSize (K : PySem.W.Frag) : Nat → Sp
  | 0 => fun _ _ _ _ => False
  | n + 1 => fun vs H Q _ => ∃ (v : V) (k : Kd), vs = [v] ∧ KdAt K H v k ∧ k.deep ≤ n + 1 ∧ Q (intV k.ends) H
theorem str_ne : (V.str "to" : V) ≠ .str "text" := fun e => absurd (V.str.inj e) (by decide +kernel)
theorem str_ne' : (V.str "text" : V) ≠ .str "to" := fun e => absurd (V.str.inj e) (by decide +kernel)
section
variable {P : Program} {w : World} {K : PySem.W.Frag} {mg : Str → Option Value} {base : Heap} {tA BK BE HE : Addr}
theorem sc_oh_ends : FnScope ["kind"] ["kind"] (defScope s_oh_ends) := ⟨rfl, rfl, rfl, by decide +kernel, rfl, by decide +kernel, by decide +kernel⟩
theorem ok_oh_ends {f : Addr} {fd : FuncData} (F : Fun K "_law_oh_ends" "_law_oh_ends" s_oh_ends f fd) (gA : mg "_law_oh_ends" = some (.ref f)) (kA : PySem.W.keepIn K (.ref f) = true) (bA : Binds K fd ["kind"] []) :
    ∀ n : Nat, FnOk P w K mg base CX0 n f fd ["kind"] (spSize K n) := by
  intro n
  induction n with
  | zero => exact ⟨fun _ _ _ _ h => h.elim, fun _ _ _ _ _ _ _ _ _ _ _ _ _ h => h.elim⟩
  | succ n G =>
    refine F.ok sc_oh_ends (fun vs H Q E h => ?_) (fun cdv A outer s0 H vs Q E hr h => ?_)
    · obtain ⟨v, k, rfl, _⟩ := h
      rfl
    · obtain ⟨v, k, rfl, hk, hdp, q⟩ := h
      refine ⟨_, pss_one (ps_ret (by exact (pe_ifExp (pt_cmpR op_eq (by exact (pe_ix ix_tup (pv 0) pe_int (fun _ _ => rfl))) pe_str (nomark _)) pe_int
        (pe_op op_add (by exact (pe_call G hr rfl gA kA bA .nil pass0 (pa_cons (pe_ix ix_tup (pv 0) pe_int (fun _ _ => rfl)) pa_nil))) (by exact (pe_call G hr rfl gA kA bA .nil pass0 (pa_cons (pe_ix ix_tup (pv 0) pe_int (fun _ _ => rfl)) pa_nil))))))), ?_⟩
      cases k with
      | text =>
        obtain ⟨p, rfl, hp⟩ := hk
        refine ⟨_, rfl, p, _, _, _, rfl, rfl, hp, atI_nat (j := 0) rfl, ?_⟩
        exact ⟨rfl, _, rfl, iteBT (decide_eq_true rfl) q⟩
      | to a b =>
        obtain ⟨p, x, y, rfl, hp, ha, hb⟩ := hk
        have hd2 : 1 + max a.deep b.deep ≤ n + 1 := hdp
        cases n with
        | zero =>
          have h1 : 1 ≤ a.deep := by cases a <;> simp only [Kd.deep] <;> omega
          omega
        | succ n =>
          refine ⟨_, rfl, p, _, _, _, rfl, rfl, hp, atI_nat (j := 0) rfl, ?_⟩
          refine ⟨rfl, _, rfl, iteBF (decide_eq_false str_ne) ?_⟩
          refine ⟨_, rfl, p, _, _, x, rfl, rfl, hp, atI_nat (j := 1) rfl, ?_⟩
          refine ⟨x, a, rfl, ha, by omega, ?_⟩
          refine ⟨_, rfl, p, _, _, y, rfl, rfl, hp, atI_nat (j := 2) rfl, ?_⟩
          refine ⟨y, b, rfl, hb, by omega, ?_⟩
          refine ⟨_, _, rfl, rfl, ?_⟩
          have e : V.int ((a.ends : Int) + (b.ends : Int)) = intV (Kd.to a b).ends := rfl
          show Q (V.int ((a.ends : Int) + (b.ends : Int))) H
          rw [e]
          exact q
end
/-! ### _law_oh_wanted -/
abbrev s_oh_wanted : Stmt := top 24
def args : Kd → List Kd
  | .text => []
  | .to a r => a :: args r
theorem args_len : ∀ k : Kd, (args k).length < k.ends
  | .text => Nat.lt_succ_self 0
  | .to a r => by
    have h1 := args_len r
    have h2 := a.ends_pos
    show (args r).length + 1 < a.ends + r.ends
    omega
def KdsAt (K : PySem.W.Frag) (H : Hp) : List V → List Kd → Prop := Paired (KdAt K H)
theorem KdsAt.same {K : PySem.W.Frag} {H H' : Hp} (e : SameT H H') : ∀ {vs : List V} {ks : List Kd}, KdsAt K H vs ks → KdsAt K H' vs ks
  | _, _, .nil => .nil
  | _, _, .cons h t => .cons (h.same e) (KdsAt.same e t)
theorem KdsAt.snoc {K : PySem.W.Frag} {H : Hp} {v : V} {k : Kd} (h : KdAt K H v k) : ∀ {vs : List V} {ks : List Kd}, KdsAt K H vs ks → KdsAt K H (vs ++ [v]) (ks ++ [k])
  | _, _, .nil => .cons h .nil
  | _, _, .cons a t => .cons a (KdsAt.snoc h t)
theorem KdsAt.len {K : PySem.W.Frag} {H : Hp} {vs : List V} {ks : List Kd} (h : KdsAt K H vs ks) : vs.length = ks.length := Paired.length h
theorem KdsAt.get {K : PySem.W.Frag} {H : Hp} : ∀ {vs : List V} {ks : List Kd} {i : Nat} {x : V}, KdsAt K H vs ks → vs[i]? = some x → ∃ k, ks[i]? = some k ∧ KdAt K H x k
  | _, _, i, x, .nil, h => by simp at h
  | _, _, 0, x, .cons a _, h => by
    cases h
    exact ⟨_, rfl, a⟩
  | _, _, i + 1, x, .cons _ t, h => by
    obtain ⟨k, e, q⟩ := KdsAt.get (i := i) t (by simpa using h)
    exact ⟨k, by simpa using e, q⟩
def spWanted (K : PySem.W.Frag) : Sp := fun vs H Q _ => ∃ (v : V) (k : Kd), vs = [v] ∧ KdAt K H v k ∧ k.ends ≤ 64 ∧ ∀ (H' : Hp) (l : Addr) (ws : List V), Same H H' → H l = none → H' l = some (.lst ws) → KdsAt K H' ws (args k) → Q (.ref l) H'
def WWan (K : PySem.W.Frag) (H : Hp) (k : Kd) (q : Addr) (m : Nat) (σ : St) (H' : Hp) : Prop := ∃ (r : Kd) (wr : V) (ws : List V) (ks : List Kd), σ = [some wr, some (.ref q)] ∧ KdAt K H' wr r ∧ H' q = some (.lst ws) ∧ KdsAt K H' ws ks ∧ ks ++ args r = args k ∧ Same H H' ∧ m = r.ends
section
variable {P : Program} {w : World} {K : PySem.W.Frag} {mg : Str → Option Value} {base : Heap} {tA BK BE HE : Addr}
theorem sc_oh_wanted : FnScope ["kind", "found"] ["kind"] (defScope s_oh_wanted) := ⟨rfl, rfl, rfl, by decide +kernel, rfl, by decide +kernel, by decide +kernel⟩
theorem ok_oh_wanted {f : Addr} {fd : FuncData} (F : Fun K "_law_oh_wanted" "_law_oh_wanted" s_oh_wanted f fd) : FnOk P w K mg base CX0 1 f fd ["kind"] (spWanted K) := by
  refine F.ok sc_oh_wanted (fun vs H Q E h => ?_) (fun cdv A outer s0 H vs Q E hr h => ?_)
  · obtain ⟨v, k, rfl, _⟩ := h
    rfl
  · obtain ⟨v, k, rfl, hk, h60, cont⟩ := h
    refine ⟨_, pss_cons (ps_set (i := 1) sc_oh_wanted.nd rfl (Or.inl rfl) (pe_lst pa_nil))
      (pss_cons (ps_while PassesOwn.never (pt_cmpR op_eq (by exact (pe_ix ix_tup (pv 0) pe_int (fun _ _ => rfl))) pe_str (nomark _))
        (pss_cons (ps_expr (pe_bm PySem.F.plainAttrs_list PySem.F.slot_list_append PySem.F.type_list_append mt_append (pv 1) (pa_cons (pe_ix ix_tup (pv 0) pe_int (fun _ _ => rfl)) pa_nil)))
        (pss_one (ps_set (i := 0) sc_oh_wanted.nd rfl (Or.inl rfl) (pe_ix ix_tup (pv 0) pe_int (fun _ _ => rfl))))))
      (pss_one (ps_ret (pv 1)))), ?_⟩
    refine ⟨Nat.zero_le _, fun q hq => ?_⟩
    refine ⟨WWan K H k q, ⟨_, k, v, [], [], rfl, hk.same (SameT.of (same_new hq)), upd_same, .nil, rfl, same_new hq, rfl⟩, ?_⟩
    rintro m σ H' ⟨r, wr, ws, ks, rfl, hr1, hfq, hks, ei, S, rfl⟩
    cases r with
    | text =>
      obtain ⟨p, rfl, hp⟩ := hr1
      refine ⟨_, rfl, p, _, _, _, rfl, rfl, hp, atI_nat (j := 0) rfl, ?_⟩
      refine ⟨rfl, _, rfl, iteBF (decide_eq_false str_ne') ?_⟩
      refine ⟨_, rfl, cont H' q ws S hq hfq ?_⟩
      rw [← ei, args, List.append_nil]
      exact hks
    | to a b =>
      obtain ⟨p, x, y, rfl, hp, ha, hb⟩ := hr1
      refine ⟨_, rfl, p, _, _, _, rfl, rfl, hp, atI_nat (j := 0) rfl, ?_⟩
      refine ⟨rfl, _, rfl, iteBT (decide_eq_true rfl) ⟨fun σ' H'' => ∃ m', m' < (Kd.to a b).ends ∧ WWan K H k q m' σ' H'', fun _ _ h => h, ?_⟩⟩
      have T2 : SameT H' (upd H' q (.lst (ws ++ [x]))) := (but_upd (l := q)).tups hfq
      have pe := a.ends_pos
      have hl1 : ws.length < k.ends := by
        have h1 := args_len k
        rw [← ei, List.length_append] at h1
        rw [hks.len]
        omega
      refine ⟨_, rfl, .inl ⟨rfl, _, SqL.of hfq⟩, _, rfl, p, _, _, x, rfl, rfl, hp, atI_nat (j := 1) rfl, q, _, _, rfl, rfl, hfq, small1000 (by omega), ?_⟩
      refine ⟨_, rfl, p, _, _, y, rfl, rfl, sameT_sq T2 hp, atI_nat (j := 2) rfl, b.ends, by show b.ends < a.ends + b.ends; omega, b, y, ws ++ [x], ks ++ [a], rfl, hb.same T2, upd_same, (hks.snoc ha).same T2, ?_, ?_, rfl⟩
      · rw [← ei, List.append_assoc]
        rfl
      · intro b' o e
        rw [upd_ne (ne_of_none e hq)]
        exact S _ _ e
end
/-! ### arguments_of -/
abbrev s_arguments_of : Stmt := top 10
def spArgsOf (K : PySem.W.Frag) : Sp := fun vs H Q _ => ∃ (v : V) (k : Kd), vs = [v] ∧ KdAt K H v k ∧ k.ends ≤ 64 ∧ ∀ (H' : Hp) (t : Addr) (ws : List V), Same H H' → SqT K H' t ws → KdsAt K H' ws (args k) → Q (.ref t) H'
def WArg (K : PySem.W.Frag) (H : Hp) (v : V) (k : Kd) (q : Addr) (m : Nat) (σ : St) (H' : Hp) : Prop := ∃ (r : Kd) (wr : V) (ws : List V) (ks : List Kd), σ = [some v, some (.ref q), some wr] ∧ KdAt K H' wr r ∧ H' q = some (.lst ws) ∧ KdsAt K H' ws ks ∧ ks ++ args r = args k ∧ Same H H' ∧ m = r.ends
section
variable {P : Program} {w : World} {K : PySem.W.Frag} {mg : Str → Option Value} {base : Heap} {tA BK BE HE : Addr}
theorem sc_arguments_of : FnScope ["kind", "found", "rest"] ["kind"] (defScope s_arguments_of) := ⟨rfl, rfl, rfl, by decide +kernel, rfl, by decide +kernel, by decide +kernel⟩
theorem ok_arguments_of {f : Addr} {fd : FuncData} (F : Fun K "arguments_of" "arguments_of" s_arguments_of f fd) (T : TxtK K mg tA) : FnOk P w K mg base CX0 1 f fd ["kind"] (spArgsOf K) := by
  refine F.ok sc_arguments_of (fun vs H Q E h => ?_) (fun cdv A outer s0 H vs Q E hr h => ?_)
  · obtain ⟨v, k, rfl, _⟩ := h
    rfl
  · obtain ⟨v, k, rfl, hk, h60, cont⟩ := h
    refine ⟨_, pss_cons (ps_set (i := 1) sc_arguments_of.nd rfl (Or.inl rfl) (pe_lst pa_nil))
      (pss_cons (ps_set (i := 2) sc_arguments_of.nd rfl (Or.inl rfl) (pv 0))
      (pss_cons (ps_while PassesOwn.never (pt_cmpR (op_neN hr.units) (pv 2) (pe_cls T.gT) (nomark _))
        (pss_cons (ps_expr (pe_bm PySem.F.plainAttrs_list PySem.F.slot_list_append PySem.F.type_list_append mt_append (pv 1) (pa_cons (pe_ix ix_tup (pv 2) pe_int (fun _ _ => rfl)) pa_nil)))
        (pss_one (ps_set (i := 2) sc_arguments_of.nd rfl (Or.inl rfl) (pe_ix ix_tup (pv 2) pe_int (fun _ _ => rfl))))))
      (pss_one (ps_ret (by exact (pe_callTy call_tuple_of (by rfl) T.tuple (by decide +kernel) (pa_cons (pv 1) pa_nil))))))), ?_⟩
    refine ⟨Nat.zero_le _, fun q hq => ⟨_, rfl, ?_⟩⟩
    refine ⟨WArg K H v k q, ⟨_, k, v, [], [], rfl, hk.same (SameT.of (same_new hq)), upd_same, .nil, rfl, same_new hq, rfl⟩, ?_⟩
    rintro m σ H' ⟨r, wr, ws, ks, rfl, hr1, hfq, hks, ei, S, rfl⟩
    refine ⟨_, rfl, r.data, .tuple [.str "text"], hr1.dp, .tup (T.tup _) (.cons (.str _) .nil), okD_kd r, okD_text, min_text _, _, rfl, ?_⟩
    rw [eqv_text]
    rcases text_or r with rfl | ⟨a, b, rfl⟩
    · refine iteF ?_
      refine ⟨_, rfl, q, _, rfl, .inl ⟨SqL.of hfq, fun t ht => ?_⟩⟩
      rw [args, List.append_nil] at ei
      rw [← ei] at cont
      exact cont _ t ws (S.trans (same_new ht)) (.inl (.inl upd_same)) (hks.same (SameT.of (same_new ht)))
    · refine iteT ⟨fun σ' H'' => ∃ m', m' < (Kd.to a b).ends ∧ WArg K H v k q m' σ' H'', fun _ _ h => h, ?_⟩
      obtain ⟨p, x, y, rfl, hp, ha, hb⟩ := hr1
      have T2 : SameT H' (upd H' q (.lst (ws ++ [x]))) := (but_upd (l := q)).tups hfq
      have pe := a.ends_pos
      have hl1 : ws.length < k.ends := by
        have h1 := args_len k
        rw [← ei, List.length_append] at h1
        rw [hks.len]
        omega
      refine ⟨_, rfl, .inl ⟨rfl, _, SqL.of hfq⟩, _, rfl, p, _, _, x, rfl, rfl, hp, atI_nat (j := 1) rfl, q, _, _, rfl, rfl, hfq, small1000 (by omega), ?_⟩
      refine ⟨_, rfl, p, _, _, y, rfl, rfl, sameT_sq T2 hp, atI_nat (j := 2) rfl, b.ends, by show b.ends < a.ends + b.ends; omega, b, y, ws ++ [x], ks ++ [a], rfl, hb.same T2, upd_same, (hks.snoc ha).same T2, ?_, ?_, rfl⟩
      · rw [← ei, List.append_assoc]
        rfl
      · intro b' o e
        rw [upd_ne (ne_of_none e hq)]
        exact S _ _ e
end
/-! ### count_ends -/
abbrev s_count_ends : Stmt := top 13
def spCount (K : PySem.W.Frag) : Sp := fun vs H Q _ => ∃ (v : V) (k : Kd), vs = [v] ∧ KdAt K H v k ∧ k.ends ≤ 64 ∧ ∀ (H' : Hp), Same H H' → Q (intV k.ends) H'
def sumE (ks : List Kd) : Nat := (ks.map Kd.ends).sum
theorem sumE_app (a b : List Kd) : sumE (a ++ b) = sumE a + sumE b := by
  unfold sumE
  rw [List.map_append, List.sum_append]
theorem sumE_len : ∀ ks : List Kd, ks.length ≤ sumE ks
  | [] => Nat.le_refl _
  | k :: r => by
    have := sumE_len r
    have := k.ends_pos
    unfold sumE at *
    rw [List.map_cons, List.sum_cons, List.length_cons]
    omega
def WCnt (K : PySem.W.Frag) (H : Hp) (v : V) (k : Kd) (q : Addr) (m : Nat) (σ : St) (H' : Hp) : Prop := ∃ (e : Nat) (ws : List V) (ks : List Kd) (o3 : Option V), σ = [some v, some (intV e), some (.ref q), o3] ∧ H' q = some (.lst ws) ∧ KdsAt K H' ws ks ∧ e + sumE ks = k.ends ∧ Same H H' ∧ m = 2 * sumE ks - ks.length
theorem KdsAt.unsnoc {K : PySem.W.Frag} {H : Hp} : ∀ {vs : List V} {ks : List Kd} {v : V}, KdsAt K H (vs ++ [v]) ks → ∃ ks' k, ks = ks' ++ [k] ∧ KdsAt K H vs ks' ∧ KdAt K H v k
  | [], _, v, .cons h .nil => ⟨[], _, rfl, .nil, h⟩
  | x :: r, _, v, .cons h t => by
    obtain ⟨ks', k, e, h1, h2⟩ := KdsAt.unsnoc (vs := r) t
    exact ⟨_ :: ks', k, by rw [e]; rfl, .cons h h1, h2⟩
section
variable {P : Program} {w : World} {K : PySem.W.Frag} {mg : Str → Option Value} {base : Heap} {tA BK BE HE : Addr}
theorem sc_count_ends : FnScope ["kind", "ends", "pending", "part"] ["kind"] (defScope s_count_ends) := ⟨rfl, rfl, rfl, by decide +kernel, rfl, by decide +kernel, by decide +kernel⟩
theorem ok_count_ends {f : Addr} {fd : FuncData} (F : Fun K "count_ends" "count_ends" s_count_ends f fd) (T : TxtK K mg tA) : FnOk P w K mg base CX0 1 f fd ["kind"] (spCount K) := by
  refine F.ok sc_count_ends (fun vs H Q E h => ?_) (fun cdv A outer s0 H vs Q E hr h => ?_)
  · obtain ⟨v, k, rfl, _⟩ := h
    rfl
  · obtain ⟨v, k, rfl, hk, h60, cont⟩ := h
    refine ⟨_, pss_cons (ps_set (i := 1) sc_count_ends.nd rfl (Or.inl rfl) pe_int)
      (pss_cons (ps_set (i := 2) sc_count_ends.nd rfl (Or.inl rfl) (pe_lst (pa_cons (pv 0) pa_nil)))
      (pss_cons (ps_while PassesOwn.never (pt_truth (pv 2) (by intro _; rfl))
        (pss_cons (ps_set (i := 3) sc_count_ends.nd rfl (Or.inl rfl) (pe_bm0 PySem.F.plainAttrs_list PySem.F.slot_list_pop PySem.F.type_list_pop mt_pop (pv 2)))
        (pss_one (ps_if (pt_cmpR (op_eqN hr.units) (pv 3) (pe_cls T.gT) (nomark _))
          (pss_one (ps_aug (i := 1) sc_count_ends.nd rfl (Or.inl rfl) pe_int ip_add))
          (pss_cons (ps_expr (pe_bm PySem.F.plainAttrs_list PySem.F.slot_list_append PySem.F.type_list_append mt_append (pv 2) (pa_cons (pe_ix ix_tup (pv 3) pe_int (fun _ _ => rfl)) pa_nil)))
          (pss_one (ps_expr (pe_bm PySem.F.plainAttrs_list PySem.F.slot_list_append PySem.F.type_list_append mt_append (pv 2) (pa_cons (pe_ix ix_tup (pv 3) pe_int (fun _ _ => rfl)) pa_nil)))))))))
      (pss_one (ps_ret (pv 1))))), ?_⟩
    refine ⟨_, rfl, by show 1 ≤ sizeLine; decide, fun q hq => ?_⟩
    refine ⟨WCnt K H v k q, ⟨_, 0, [v], [k], none, rfl, upd_same, .cons (hk.same (SameT.of (same_new hq))) .nil, (by unfold sumE; simp), same_new hq, rfl⟩, ?_⟩
    rintro m σ H' ⟨e, ws, ks, o3, rfl, hfq, hks, es, S, rfl⟩
    have hlen := hks.len
    have hsl := sumE_len ks
    refine ⟨_, rfl, _, .inl ⟨ws, SqL.of hfq, rfl⟩, ?_⟩
    rcases nil_or_snoc ws with rfl | ⟨ws', x, rfl⟩
    · refine iteF ?_
      cases hks
      have e0 : e = k.ends := es
      exact ⟨_, rfl, by rw [e0]; exact cont H' S⟩
    · obtain ⟨ks', r, rfl, hks', hr1⟩ := hks.unsnoc
      rw [if_pos (show (!(ws' ++ [x]).isEmpty) = true by simp)]
      refine ⟨fun σ' H'' => ∃ m', m' < 2 * sumE (ks' ++ [r]) - (ks' ++ [r]).length ∧ WCnt K H v k q m' σ' H'', fun _ _ h => h, ?_⟩
      refine ⟨_, rfl, .inl ⟨rfl, _, SqL.of hfq⟩, q, _, x, rfl, rfl, hfq, seqLast _ _, ?_⟩
      rw [List.dropLast_concat]
      have T1 : SameT H' (upd H' q (.lst ws')) := (but_upd (l := q)).tups hfq
      have qS : ∀ {H2 : Hp} {xs : List V}, Same H H2 → Same H (upd H2 q (.lst xs)) := fun {H2 xs} s b o e => by
        rw [upd_ne (ne_of_none e hq)]
        exact s b o e
      rw [sumE_app] at es hsl ⊢
      have es1 : sumE [r] = r.ends := by unfold sumE; simp
      rw [es1] at es hsl ⊢
      rw [List.length_append] at hsl ⊢
      have hks1 := hks'.same T1
      have hr2 := hr1.same T1
      refine ⟨_, rfl, r.data, .tuple [.str "text"], hr2.dp, .tup (T.tup _) (.cons (.str _) .nil), okD_kd r, okD_text, min_text _, _, rfl, ?_⟩
      rw [eqv_text]
      have ls := sumE_len ks'
      rcases text_or r with rfl | ⟨a, b, rfl⟩
      · refine iteT ?_
        refine ⟨_, rfl, _, _, rfl, rfl, 2 * sumE ks' - ks'.length, ?_, e + 1, ws', ks', some x, rfl, upd_same, hks1, ?_, qS S, rfl⟩
        · simp only [Kd.ends, List.length_cons, List.length_nil]
          omega
        · simp only [Kd.ends] at es
          omega
      · refine iteF ?_
        obtain ⟨p, u, y, rfl, hp, ha, hb⟩ := hr2
        have p1 := a.ends_pos
        have p2 := b.ends_pos
        simp only [Kd.ends] at es hsl
        have hl' := hks'.len
        refine ⟨_, rfl, .inl ⟨rfl, _, SqL.of upd_same⟩, _, rfl, p, _, _, u, rfl, rfl, hp, atI_nat (j := 1) rfl, q, _, _, rfl, rfl, upd_same, small1000 (by omega), ?_⟩
        rw [upd_upd]
        have T2 : SameT (upd H' q (.lst ws')) (upd H' q (.lst (ws' ++ [u]))) := by
          have := (but_upd (l := q) (H := upd H' q (.lst ws')) (o := .lst (ws' ++ [u]))).tups upd_same
          rwa [upd_upd] at this
        refine ⟨_, rfl, .inl ⟨rfl, _, SqL.of upd_same⟩, _, rfl, p, _, _, y, rfl, rfl, sameT_sq T2 hp, atI_nat (j := 2) rfl, q, _, _, rfl, rfl, upd_same, small1000 (by rw [List.length_append]; show ws'.length + 1 ≤ 1000; omega), ?_⟩
        rw [upd_upd]
        have T3 : SameT (upd H' q (.lst (ws' ++ [u]))) (upd H' q (.lst (ws' ++ [u] ++ [y]))) := by
          have := (but_upd (l := q) (H := upd H' q (.lst (ws' ++ [u]))) (o := .lst (ws' ++ [u] ++ [y]))).tups upd_same
          rwa [upd_upd] at this
        have T23 := T2.trans T3
        refine ⟨2 * sumE (ks' ++ [a] ++ [b]) - (ks' ++ [a] ++ [b]).length, ?_, e, ws' ++ [u] ++ [y], ks' ++ [a] ++ [b], _, rfl, upd_same, ((hks1.same T23).snoc (ha.same T23)).snoc (hb.same T23), ?_, qS S, rfl⟩
        · have e1 : sumE [a] = a.ends := by unfold sumE; simp
          have e2 : sumE [b] = b.ends := by unfold sumE; simp
          rw [sumE_app, sumE_app, e1, e2]
          simp only [Kd.ends, List.length_append, List.length_cons, List.length_nil]
          omega
        · have e1 : sumE [a] = a.ends := by unfold sumE; simp
          have e2 : sumE [b] = b.ends := by unfold sumE; simp
          rw [sumE_app, sumE_app, e1, e2]
          omega
end
end My
set_option Elab.async false
set_option linter.all false
set_option maxRecDepth 100000
set_option maxHeartbeats 4000000
namespace My
open PySem L2 Kn
/-! ### arguments, ends_in -/
/-- what is told of a datum: by g where it is a kind, BadKind otherwise -/
def spTell (C : Addr) (K : PySem.W.Frag) (g : Kd → VK → Hp → Prop) : Sp := fun vs H Q E => ∃ (v : V) (d : PyData), vs = [v] ∧ Dp K H v d ∧ OkD d ∧ (∀ k, d = k.data → k.ends ≤ 60 → g k Q H) ∧ (isKd d = false → ∀ H', Same H H' → E (.ref C) none H')
def gArgs (K : PySem.W.Frag) (k : Kd) (Q : VK) (H : Hp) : Prop := ∀ (H' : Hp) (t : Addr) (ws : List V), Same H H' → SqT K H' t ws → KdsAt K H' ws (args k) → Q (.ref t) H'
def gNum (n : Kd → Nat) (k : Kd) (Q : VK) (H : Hp) : Prop := ∀ H' : Hp, Same H H' → Q (intV (n k)) H'
abbrev s_arguments : Stmt := top 9
abbrev s_ends_in : Stmt := top 12
section
variable {P : Program} {w : World} {K : PySem.W.Frag} {mg : Str → Option Value} {base : Heap} {tA BK BE HE : Addr}
theorem sc_arguments : FnScope ["kind"] ["kind"] (defScope s_arguments) := ⟨rfl, rfl, rfl, by decide +kernel, rfl, by decide +kernel, by decide +kernel⟩
theorem ok_arguments {f f1 f2 : Addr} {fd fd1 fd2 : FuncData} (F : Fun K "arguments" "arguments" s_arguments f fd) (G1 : FnOk P w K mg base (L2.CX P w) 2 f1 fd1 ["kind"] (spNeed K BK)) (g1 : mg "need_kind" = some (.ref f1)) (k1 : PySem.W.keepIn K (.ref f1) = true) (b1 : Binds K fd1 ["kind"] [])
    (G2 : FnOk P w K mg base CX0 1 f2 fd2 ["kind"] (spArgsOf K)) (g2 : mg "arguments_of" = some (.ref f2)) (k2 : PySem.W.keepIn K (.ref f2) = true) (b2 : Binds K fd2 ["kind"] []) : FnOk P w K mg base (L2.CX P w) 3 f fd ["kind"] (spTell BK K (gArgs K)) := by
  refine F.okX sc_arguments (fun vs H Q E h => ?_) (fun cdv A outer s H vs Q E hr h => ?_)
  · obtain ⟨v, d, rfl, _⟩ := h
    rfl
  · obtain ⟨v, d, rfl, hd, hs, kT, kF⟩ := h
    have hr1 : Room 1 _ := hr.mono (by decide)
    refine ⟨_, pss_cons (ps_expr (by exact (pe_call G1 hr rfl g1 k1 b1 .nil (passes_call (takes_of rfl rfl rfl rfl) (fun _ _ _ _ h => h)) (pa_cons (pv 0) pa_nil))))
      (pss_one (ps_ret (by exact (pe_call G2 hr1 rfl g2 k2 b2 .nil pass0 (pa_cons (pv 0) pa_nil))))), ?_⟩
    refine ⟨_, rfl, v, d, rfl, hd, hs, fun e H1 S1 => ?_, kF⟩
    obtain ⟨k, rfl, h60⟩ := isKd_true e
    exact ⟨_, rfl, v, k, rfl, (KdAt.of_dp hd).same (SameT.of S1), by omega, fun H2 t ws S2 ht hw => kT k rfl h60 H2 t ws (S1.trans S2) ht hw⟩
theorem sc_ends_in : FnScope ["kind"] ["kind"] (defScope s_ends_in) := ⟨rfl, rfl, rfl, by decide +kernel, rfl, by decide +kernel, by decide +kernel⟩
theorem ok_ends_in {f f1 f2 : Addr} {fd fd1 fd2 : FuncData} (F : Fun K "ends_in" "ends_in" s_ends_in f fd) (G1 : FnOk P w K mg base (L2.CX P w) 2 f1 fd1 ["kind"] (spNeed K BK)) (g1 : mg "need_kind" = some (.ref f1)) (k1 : PySem.W.keepIn K (.ref f1) = true) (b1 : Binds K fd1 ["kind"] [])
    (G2 : FnOk P w K mg base CX0 1 f2 fd2 ["kind"] (spCount K)) (g2 : mg "count_ends" = some (.ref f2)) (k2 : PySem.W.keepIn K (.ref f2) = true) (b2 : Binds K fd2 ["kind"] []) : FnOk P w K mg base (L2.CX P w) 3 f fd ["kind"] (spTell BK K (gNum Kd.ends)) := by
  refine F.okX sc_ends_in (fun vs H Q E h => ?_) (fun cdv A outer s H vs Q E hr h => ?_)
  · obtain ⟨v, d, rfl, _⟩ := h
    rfl
  · obtain ⟨v, d, rfl, hd, hs, kT, kF⟩ := h
    have hr1 : Room 1 _ := hr.mono (by decide)
    refine ⟨_, pss_cons (ps_expr (by exact (pe_call G1 hr rfl g1 k1 b1 .nil (passes_call (takes_of rfl rfl rfl rfl) (fun _ _ _ _ h => h)) (pa_cons (pv 0) pa_nil))))
      (pss_one (ps_ret (by exact (pe_call G2 hr1 rfl g2 k2 b2 .nil pass0 (pa_cons (pv 0) pa_nil))))), ?_⟩
    refine ⟨_, rfl, v, d, rfl, hd, hs, fun e H1 S1 => ?_, kF⟩
    obtain ⟨k, rfl, h60⟩ := isKd_true e
    exact ⟨_, rfl, v, k, rfl, (KdAt.of_dp hd).same (SameT.of S1), by omega, fun H2 S2 => kT k rfl h60 H2 (S1.trans S2)⟩
end
/-! ### _order, order -/
def ordK : Kd → Nat
  | .text => 0
  | .to a r => max (1 + ordK a) (ordK r)
theorem ord_le : ∀ (k : Kd), ∀ x ∈ args k, 1 + ordK x ≤ ordK k
  | .text => fun x h => nomatch h
  | .to a r => fun x h => by
    rw [args] at h
    rcases List.mem_cons.mp h with rfl | h
    · exact Nat.le_max_left _ _
    · exact Nat.le_trans (ord_le r x h) (Nat.le_max_right _ _)
theorem ord_at : ∀ (k : Kd), k ≠ .text → ∃ x ∈ args k, ordK k = 1 + ordK x
  | .text => fun h => (h rfl).elim
  | .to a r => fun _ => by
    rw [args]
    by_cases hr : r = .text
    · subst hr
      exact ⟨a, List.mem_cons_self, by simp only [ordK]; omega⟩
    · obtain ⟨x, hx, e⟩ := ord_at r hr
      by_cases hc : 1 + ordK a ≤ ordK r
      · exact ⟨x, List.mem_cons_of_mem _ hx, by simp only [ordK]; omega⟩
      · exact ⟨a, List.mem_cons_self, by simp only [ordK]; omega⟩
theorem args_deep : ∀ (k : Kd), ∀ x ∈ args k, x.deep < k.deep
  | .text => fun x h => nomatch h
  | .to a r => fun x h => by
    rw [args] at h
    simp only [Kd.deep]
    rcases List.mem_cons.mp h with rfl | h
    · omega
    · have := args_deep r x h
      omega
theorem args_ends : ∀ (k : Kd), ∀ x ∈ args k, x.ends < k.ends
  | .text => fun x h => nomatch h
  | .to a r => fun x h => by
    have p1 := a.ends_pos
    have p2 := r.ends_pos
    rw [args] at h
    simp only [Kd.ends]
    rcases List.mem_cons.mp h with rfl | h
    · omega
    · have := args_ends r x h
      omega
abbrev s_ord : Stmt := top 15
abbrev s_order : Stmt := top 14
def spOrd (K : PySem.W.Frag) : Nat → Sp
  | 0 => fun _ _ _ _ => False
  | n + 1 => fun vs H Q _ => ∃ (v : V) (k : Kd), vs = [v] ∧ KdAt K H v k ∧ k.deep ≤ n + 1 ∧ k.ends ≤ 64 ∧ ∀ H', Same H H' → Q (intV (ordK k)) H'
theorem nz_snoc (ns : List Nat) (n : Nat) : ((ns ++ [n]).map Int.ofNat).map V.int = (ns.map Int.ofNat).map V.int ++ [intV n] := by
  rw [List.map_append, List.map_append]
  rfl
section
variable {P : Program} {w : World} {K : PySem.W.Frag} {mg : Str → Option Value} {base : Heap} {tA BK BE HE : Addr}
theorem sc_ord : FnScope ["kind", "part"] ["kind"] (defScope s_ord) := ⟨rfl, rfl, rfl, by decide +kernel, rfl, by decide +kernel, by decide +kernel⟩
theorem ok_ord {f f1 : Addr} {fd fd1 : FuncData} (F : Fun K "_order" "_order" s_ord f fd) (T : TxtK K mg tA) (zm : mg "max" = none) (gA : mg "_order" = some (.ref f)) (kA : PySem.W.keepIn K (.ref f) = true) (bA : Binds K fd ["kind"] [])
    (G1 : FnOk P w K mg base CX0 1 f1 fd1 ["kind"] (spArgsOf K)) (g1 : mg "arguments_of" = some (.ref f1)) (k1 : PySem.W.keepIn K (.ref f1) = true) (b1 : Binds K fd1 ["kind"] []) :
    ∀ n : Nat, FnOk P w K mg base CX0 (n + 1) f fd ["kind"] (spOrd K n) := by
  intro n
  induction n with
  | zero => exact ⟨fun _ _ _ _ h => h.elim, fun _ _ _ _ _ _ _ _ _ _ _ _ _ h => h.elim⟩
  | succ n G =>
    refine F.ok sc_ord (fun vs H Q E h => ?_) (fun cdv A outer s0 H vs Q E hr h => ?_)
    · obtain ⟨v, k, rfl, _⟩ := h
      rfl
    · obtain ⟨v, k, rfl, hk, hdp, h60, q⟩ := h
      have hr1 : Room 1 _ := hr.mono (by omega)
      refine ⟨_, pss_cons (ps_if (pt_cmpR (op_eqN hr.units) (pv 0) (pe_cls T.gT) (nomark _)) (pss_one (ps_ret pe_int)) pss_nil)
        (pss_one (ps_ret (by exact (pe_op op_add pe_int (by exact (pe_callB (cr_max rfl) (by rfl) zm (by decide +kernel) (pa_cons (by exact (pe_lc (own := [("part", 1)]) (g := gName 1) (te := tCall (spOrd K n) [] E0 (tCons (tVar 1) tNil)) rfl sc_ord.nd (pi_tup (pe_call G1 hr1 rfl g1 k1 b1 .nil pass0 (pa_cons (pv 0) pa_nil)))
          (blkOk_by (own := [("part", 1)]) (N := ["kind", "part"]) (sc := defScope s_ord) (by decide +kernel)) (fun _ _ _ _ _ => pg_name (i := 1) sc_ord.nd rfl (Or.inl rfl)) (fun _ _ _ _ _ => pts_nil) (fun _ _ _ _ _ => by exact pe_call G hr rfl gA kA bA .nil pass0 (pa_cons (pv 1) pa_nil)))) pa_nil))))))), ?_⟩
      refine ⟨_, rfl, k.data, .tuple [.str "text"], hk.dp, .tup (T.tup _) (.cons (.str _) .nil), okD_kd k, okD_text, min_text _, _, rfl, ?_⟩
      rw [eqv_text]
      rcases text_or k with rfl | ⟨a, b, rfl⟩
      · exact iteT (q H (Same.refl H))
      refine iteF ?_
      refine ⟨_, rfl, v, _, rfl, hk, by omega, fun H1 t ws S1 ht hw => ?_⟩
      refine ⟨t, rfl, ⟨_, ht⟩, fun D hD => ?_⟩
      refine lc_tup (K := K) (a := t) (xs := ws) (fun i H' => Same H1 H' ∧ H' D = some (.lst ((((args (.to a b)).take i).map ordK).map Int.ofNat |>.map V.int))) ⟨same_new hD, upd_same⟩ (fun i H' _ e => seqT_same e.1 ht) ?_ ?_
      · rintro i x H' hx ⟨S2, hD2⟩
        obtain ⟨c, hc, hxc⟩ := hw.get hx
        have hcm := List.mem_of_getElem? hc
        have dc := args_deep _ c hcm
        have ec := args_ends _ c hcm
        have pc : 1 ≤ c.deep := by cases c <;> simp only [Kd.deep] <;> omega
        obtain ⟨n', rfl⟩ : ∃ n', n = n' + 1 := ⟨n - 1, by omega⟩
        refine ⟨rfl, ?_⟩
        dsimp only [tYes]
        refine iteT ?_
        refine ⟨_, rfl, x, c, rfl, hxc.same (SameT.of S2), by omega, by omega, fun H3 S3 => ?_⟩
        refine ⟨_, S3 _ _ hD2, ?_, ?_, ?_⟩
        · have := args_len (.to a b)
          simp only [List.length_map, List.length_take]
          exact small1000 (by omega)
        · intro b' o e
          have nD : b' ≠ D := ne_of_none e hD
          rw [upd_ne nD]
          exact S3 _ _ (S2 _ _ e)
        · rw [upd_same, List.take_add_one, hc, List.map_append]
          exact congrArg (fun z => some (HO.lst z)) (nz_snoc _ _).symm
      · rintro H' ⟨S2, hD2⟩
        rw [hw.len, List.take_length] at hD2
        have pos : 0 < ((args (.to a b)).map ordK |>.map Int.ofNat).length := by
          simp only [List.length_map, args, List.length_cons]
          omega
        refine ⟨D, _, rfl, SqL.of hD2, pos, fun m hm hy => ?_⟩
        have em : (1 : Int) + m = (ordK (.to a b) : Nat) := by
          obtain ⟨z, hz, rfl⟩ := List.mem_map.mp hm
          obtain ⟨c, hc, rfl⟩ := List.mem_map.mp hz
          have h1 := ord_le _ c hc
          obtain ⟨x, hx, e⟩ := ord_at (.to a b) (fun z => nomatch z)
          have h2 := hy (Int.ofNat (ordK x)) (List.mem_map.mpr ⟨_, List.mem_map.mpr ⟨x, hx, rfl⟩, rfl⟩)
          have h2 : ((ordK x : Nat) : Int) ≤ ((ordK c : Nat) : Int) := h2
          show (1 : Int) + ((ordK c : Nat) : Int) = _
          omega
        refine ⟨_, _, rfl, rfl, ?_⟩
        show Q (V.int (1 + m)) H'
        rw [em]
        exact q H' (S1.trans S2)
theorem sc_order : FnScope ["kind"] ["kind"] (defScope s_order) := ⟨rfl, rfl, rfl, by decide +kernel, rfl, by decide +kernel, by decide +kernel⟩
theorem ok_order {f f1 f2 : Addr} {fd fd1 fd2 : FuncData} (F : Fun K "order" "order" s_order f fd) (G1 : FnOk P w K mg base (L2.CX P w) 2 f1 fd1 ["kind"] (spNeed K BK)) (g1 : mg "need_kind" = some (.ref f1)) (k1 : PySem.W.keepIn K (.ref f1) = true) (b1 : Binds K fd1 ["kind"] [])
    (G2 : FnOk P w K mg base CX0 61 f2 fd2 ["kind"] (spOrd K 60)) (g2 : mg "_order" = some (.ref f2)) (k2 : PySem.W.keepIn K (.ref f2) = true) (b2 : Binds K fd2 ["kind"] []) : FnOk P w K mg base (L2.CX P w) 62 f fd ["kind"] (spTell BK K (gNum ordK)) := by
  refine F.okX sc_order (fun vs H Q E h => ?_) (fun cdv A outer s H vs Q E hr h => ?_)
  · obtain ⟨v, d, rfl, _⟩ := h
    rfl
  · obtain ⟨v, d, rfl, hd, hs, kT, kF⟩ := h
    have hr2 : Room 2 _ := hr.mono (by decide)
    refine ⟨_, pss_cons (ps_expr (by exact (pe_call G1 hr2 rfl g1 k1 b1 .nil (passes_call (takes_of rfl rfl rfl rfl) (fun _ _ _ _ h => h)) (pa_cons (pv 0) pa_nil))))
      (pss_one (ps_ret (by exact (pe_call G2 hr rfl g2 k2 b2 .nil pass0 (pa_cons (pv 0) pa_nil))))), ?_⟩
    refine ⟨_, rfl, v, d, rfl, hd, hs, fun e H1 S1 => ?_, kF⟩
    obtain ⟨k, rfl, h60⟩ := isKd_true e
    have dk := k.deep_ends
    exact ⟨_, rfl, v, k, rfl, (KdAt.of_dp hd).same (SameT.of S1), by show k.deep ≤ 60; omega, by omega, fun H2 S2 => kT k rfl h60 H2 (S1.trans S2)⟩
end
end My
set_option Elab.async false
set_option linter.all false
set_option maxRecDepth 100000
set_option maxHeartbeats 4000000
namespace My
open PySem L2 Kn
/-! ### kind_from -/
def iOr (w1 w2 : TI) : TI := fun σ H R => w1 σ H R ∨ w2 σ H R
theorem pi_or {X : Cx} {tg e : Expr} {w1 w2 : TI} (h1 : PI X tg e w1) (h2 : PI X tg e w2) : PI X tg e (iOr w1 w2) := ⟨fun pins s σ H R I h => h.elim (h1.run pins s σ H R I) (h2.run pins s σ H R I)⟩
def SqX (K : PySem.W.Frag) (H : Hp) (a : Addr) (xs : List V) : Prop := SqL K H a xs ∨ SqT K H a xs
theorem SqX.same {K : PySem.W.Frag} {H H' : Hp} {a : Addr} {xs : List V} (h : SqX K H a xs) (S : Same H H') : SqX K H' a xs := h.elim (fun h => .inl (S.seq h)) fun h => .inr (seqT_same S h)
theorem read_or {K : PySem.W.Frag} {i : Nat} {σ : St} {H : Hp} {R : It → Hp → Prop} {a : Addr} {xs : List V} (hv : σ[i]? = some (some (.ref a))) (hS : SqX K H a xs) (h : ∀ (J : It) (G : Hp → Prop), Walk J xs.length G (YAt xs) → (∀ H', Same H H' → G H') → R J H) :
    iOr (iList K (tVar i)) (iTup K (tVar i)) σ H R := by
  rcases hS with hs | hs
  · exact .inl ⟨_, hv, a, rfl, ⟨_, hs⟩, h _ _ walk_list fun H' S => S.seq hs⟩
  · exact .inr ⟨_, hv, a, rfl, ⟨_, hs⟩, h _ _ walk_tup fun H' S => seqT_same S hs⟩
theorem walk_revT {K : PySem.W.Frag} {a : Addr} {xs : List V} : Walk (RT.ItvT K a xs.length) xs.length (fun H => SqT K H a xs) (fun i H x H' => H' = H ∧ xs[xs.length - 1 - i]? = some x) :=
  ⟨fun i _ hi q => ⟨hi, xs, xs[xs.length - 1 - i]'(by omega), q, by simp [show xs.length - 1 - i < xs.length by omega]⟩, fun _ _ => Nat.le_refl _, fun _ _ _ _ _ q y => ⟨y.1, y.2 xs q⟩⟩
theorem read_rev {K : PySem.W.Frag} {i : Nat} {σ : St} {H : Hp} {R : It → Hp → Prop} {a : Addr} {xs : List V} (hv : σ[i]? = some (some (.ref a))) (hS : SqX K H a xs) (h : ∀ (J : It) (G : Hp → Prop), Walk J xs.length G (fun i H x H' => H' = H ∧ xs[xs.length - 1 - i]? = some x) → (∀ H', Same H H' → G H') → R J H) :
    RT.iRevA K (tVar i) σ H R := by
  refine ⟨_, hv, a, xs, rfl, ?_⟩
  rcases hS with hs | hs
  · exact .inl ⟨hs, h _ _ walk_rev fun H' S => S.seq hs⟩
  · exact .inr ⟨hs, h _ _ walk_revT fun H' S => seqT_same S hs⟩
theorem get_drop {α : Type} {l : List α} {i : Nat} {x : α} (h : l[i]? = some x) : l.drop i = x :: l.drop (i + 1) := by
  obtain ⟨h1, h2⟩ := List.getElem?_eq_some_iff.mp h
  rw [List.drop_eq_getElem_cons h1, h2]
def build (ks : List Kd) : Kd := ks.foldr .to .text
theorem build_args : ∀ k : Kd, build (args k) = k
  | .text => rfl
  | .to a r => congrArg (Kd.to a) (build_args r)
theorem sumE_args : ∀ k : Kd, sumE (args k) + 1 = k.ends
  | .text => rfl
  | .to a r => by
    have h := sumE_args r
    show (a.ends + sumE (args r)) + 1 = a.ends + r.ends
    omega
abbrev s_kind_from : Stmt := top 11
def spKFrom (BK BKS : Addr) (K : PySem.W.Frag) : Sp := fun vs H Q E => ∃ v, vs = [v] ∧
  ((∃ (a : Addr) (ws : List V) (ks : List Kd), v = .ref a ∧ SqX K H a ws ∧ KdsAt K H ws ks ∧ (∀ k ∈ ks, k.ends ≤ 60) ∧ sumE ks ≤ 62 ∧ (sumE ks + 1 ≤ 60 → ∀ (H' : Hp) (r : V), Same H H' → KdAt K H' r (build ks) → Q r H') ∧ (60 < sumE ks + 1 → ∀ H', Same H H' → E (.ref BK) none H')) ∨
   (∃ (a : Addr) (ws : List V) (ds : List PyData), v = .ref a ∧ SqX K H a ws ∧ DpAll K H ws ds ∧ (∀ d ∈ ds, OkD d) ∧ ds.all isKd = false ∧ ds.length ≤ 900 ∧ ∀ H', Same H H' → E (.ref BKS) none H') ∨
   ∃ t : String, (∀ H', Same H H' → TyX K H' v (.type t)) ∧ PySem.W.kitAny K (.type t) [.type "list", .type "tuple"] = some false ∧ ∀ H', Same H H' → E (.ref BKS) none H')
theorem kds_dp {K : PySem.W.Frag} {H : Hp} : ∀ {ws : List V} {ks : List Kd}, KdsAt K H ws ks → DpAll K H ws (ks.map Kd.data)
  | _, _, .nil => .nil
  | _, _, .cons h t => .cons h.dp (kds_dp t)
theorem all_kds : ∀ {ks : List Kd}, (∀ k ∈ ks, k.ends ≤ 60) → (ks.map Kd.data).all isKd = true
  | [], _ => rfl
  | k :: r, h => by
    rw [List.map_cons, List.all_cons, isKd_data, decide_eq_true (h k List.mem_cons_self), all_kds fun x hx => h x (List.mem_cons_of_mem _ hx)]
    rfl
theorem dpAll_at {K : PySem.W.Frag} {H : Hp} : ∀ {vs : List V} {ds : List PyData} {i : Nat} {x : V}, DpAll K H vs ds → vs[i]? = some x → ∃ d, ds[i]? = some d ∧ Dp K H x d
  | _, _, i, x, .nil, h => by simp at h
  | _, _, 0, x, .cons a _, h => by
    cases h
    exact ⟨_, rfl, a⟩
  | _, _, i + 1, x, .cons _ t, h => by
    obtain ⟨k, e, q⟩ := dpAll_at (i := i) t (by simpa using h)
    exact ⟨k, by simpa using e, q⟩
theorem read_all {K : PySem.W.Frag} {H : Hp} {a : Addr} {ws : List V} {ds : List PyData} {o1 o2 : Option V} {Q : V → Hp → Prop} (hS : SqX K H a ws) (hds : DpAll K H ws ds) (ok : ∀ d ∈ ds, OkD d) (len : ds.length ≤ 900)
    (q : ∀ (H' : Hp) (D : Addr), Same H H' → H' D = some (.lst ((ds.map isKd).map V.bl)) → Q (.ref D) H') :
    tLc (iOr (iList K (tVar 0)) (iTup K (tVar 0))) (gName 1) tYes (tCall (spIsKind K) [] E0 (tCons (tVar 1) tNil)) [1] [some (.ref a), o1, o2] H Q := by
  refine read_or rfl hS fun J G wk hG D hD => ?_
  refine lc_it wk (fun i H' => Same H H' ∧ H' D = some (.lst (((ds.take i).map isKd).map V.bl))) ⟨same_new hD, upd_same⟩ (fun i H' _ e => hG _ e.1) ?_ ?_
  · rintro i x H2 H' hi ⟨S2, hD2⟩ ⟨rfl, hx⟩
    obtain ⟨d, hd, hxd⟩ := dpAll_at hds hx
    refine ⟨rfl, ?_⟩
    dsimp only [tYes]
    refine iteT ?_
    refine ⟨_, rfl, x, d, rfl, dp_same S2 hxd, ok d (List.mem_of_getElem? hd), fun H3 S3 => ⟨_, S3 _ _ hD2, ?_, ?_, ?_⟩⟩
    · simp only [List.length_map, List.length_take]
      exact small1000 (by omega)
    · intro b o e
      rw [upd_ne (ne_of_none e hD)]
      exact S3 _ _ (S2 _ _ e)
    · rw [upd_same, List.take_add_one, hd, List.map_append, List.map_append]
      rfl
  · rintro H' ⟨S2, hD2⟩
    rw [dpAll_len hds, List.take_length] at hD2
    exact q H' D S2 hD2
theorem read_sum {K : PySem.W.Frag} {H : Hp} {a : Addr} {ws : List V} {ks : List Kd} {o1 o2 : Option V} {Q : V → Hp → Prop} (hS : SqX K H a ws) (hks : KdsAt K H ws ks) (ok : ∀ k ∈ ks, k.ends ≤ 60) (len : ks.length ≤ 900)
    (q : ∀ (H' : Hp) (D : Addr), Same H H' → H' D = some (.lst (((ks.map Kd.ends).map Int.ofNat).map V.int)) → Q (.ref D) H') :
    tLc (iOr (iList K (tVar 0)) (iTup K (tVar 0))) (gName 1) tYes (tCall (spCount K) [] E0 (tCons (tVar 1) tNil)) [1] [some (.ref a), o1, o2] H Q := by
  refine read_or rfl hS fun J G wk hG D hD => ?_
  refine lc_it wk (fun i H' => Same H H' ∧ H' D = some (.lst ((((ks.take i).map Kd.ends).map Int.ofNat).map V.int))) ⟨same_new hD, upd_same⟩ (fun i H' _ e => hG _ e.1) ?_ ?_
  · rintro i x H2 H' hi ⟨S2, hD2⟩ ⟨rfl, hx⟩
    obtain ⟨c, hc, hxc⟩ := hks.get hx
    have h60 := ok c (List.mem_of_getElem? hc)
    refine ⟨rfl, ?_⟩
    dsimp only [tYes]
    refine iteT ?_
    refine ⟨_, rfl, x, c, rfl, hxc.same (SameT.of S2), by omega, fun H3 S3 => ⟨_, S3 _ _ hD2, ?_, ?_, ?_⟩⟩
    · simp only [List.length_map, List.length_take]
      exact small1000 (by omega)
    · intro b o e
      rw [upd_ne (ne_of_none e hD)]
      exact S3 _ _ (S2 _ _ e)
    · rw [upd_same, List.take_add_one, hc, List.map_append]
      exact congrArg (fun z => some (HO.lst z)) (nz_snoc _ _).symm
  · rintro H' ⟨S2, hD2⟩
    rw [hks.len, List.take_length] at hD2
    exact q H' D S2 hD2
theorem sum_nz (ks : List Kd) : ((ks.map Kd.ends).map Int.ofNat).sum = ((sumE ks : Nat) : Int) := by
  induction ks with
  | nil => rfl
  | cons k r ih =>
    rw [List.map_cons, List.map_cons, List.sum_cons, ih]
    show (k.ends : Int) + (sumE r : Int) = ((k.ends + sumE r : Nat) : Int)
    omega
theorem all_id : ∀ ds : List PyData, (ds.map isKd).all id = ds.all isKd
  | [] => rfl
  | d :: r => by rw [List.map_cons, List.all_cons, List.all_cons, all_id r]; rfl
section
variable {P : Program} {w : World} {K : PySem.W.Frag} {mg : Str → Option Value} {base : Heap} {tA BK BE BKS HE : Addr}
theorem seq_ty {H : Hp} {a : Addr} {ws : List V} (h : SqX K H a ws) : ∃ t : String, TyX K H (.ref a) (.type t) ∧ PySem.W.kitAny K (.type t) [.type "list", .type "tuple"] = some true := by
  rcases h with h | h
  · exact ⟨"list", tyX_list h, kitAny_cons (b := true) (kit_ty (by decide +kernel)) (fun z => nomatch z) fun _ => rfl⟩
  · exact ⟨"tuple", tyX_tup h, kitAny_cons (b := false) (kit_ty (by decide +kernel)) (fun _ => kitAny_cons (b := true) (kit_ty (by decide +kernel)) (fun z => nomatch z) fun _ => rfl) fun z => nomatch z⟩
theorem sc_kind_from : FnScope ["arguments", "kind", "come"] ["arguments"] (defScope s_kind_from) := ⟨rfl, rfl, rfl, by decide +kernel, rfl, by decide +kernel, by decide +kernel⟩
theorem ok_kind_from {f f1 f2 : Addr} {fd fd1 fd2 : FuncData} (F : Fun K "kind_from" "kind_from" s_kind_from f fd) (T : TxtK K mg tA) (CK : ErrC K mg "BadKind" BK HE) (CS : ErrC K mg "BadKinds" BKS HE)
    (zl : mg "list" = none) (za : mg "all" = none) (zs : mg "sum" = none) (zv : mg "reversed" = none)
    (G1 : FnOk P w K mg base CX0 1 f1 fd1 ["value"] (spIsKind K)) (g1 : mg "is_kind" = some (.ref f1)) (k1 : PySem.W.keepIn K (.ref f1) = true) (b1 : Binds K fd1 ["value"] [])
    (G2 : FnOk P w K mg base CX0 1 f2 fd2 ["kind"] (spCount K)) (g2 : mg "count_ends" = some (.ref f2)) (k2 : PySem.W.keepIn K (.ref f2) = true) (b2 : Binds K fd2 ["kind"] []) : FnOk P w K mg base (L2.CX P w) 2 f fd ["arguments"] (spKFrom BK BKS K) := by
  refine F.okX sc_kind_from (fun vs H Q E h => ?_) (fun cdv A outer s H vs Q E hr h => ?_)
  · obtain ⟨v, rfl, _⟩ := h
    rfl
  · obtain ⟨v, rfl, h⟩ := h
    obtain ⟨tM, mE⟩ := T.mE
    refine ⟨_, pss_cons (ps_if (PW.pt (pw_or (pt_not (pt_val (by exact (pe_callB call_isiT (by rfl) T.isi (by decide +kernel) (pa_cons (pv 0) (pa_cons (by exact (pe_tup (pa_cons (pe_bltn (v := .ty "list") rfl zl (by decide +kernel) rfl) (pa_cons (pe_bltn (v := .ty "tuple") rfl T.tuple (by decide +kernel) rfl) pa_nil)))) pa_nil))))))
        (pw_or1 (pt_not (pt_val (by exact (pe_callB (cr_all rfl) (by rfl) za (by decide +kernel) (pa_cons (by exact (pe_lc (own := [("kind", 1)]) (g := gName 1) (te := tCall (spIsKind K) [] E0 (tCons (tVar 1) tNil)) rfl sc_kind_from.nd (pi_or (pi_list (pv 0)) (pi_tup (pv 0)))
          (blkOk_by (own := [("kind", 1)]) (N := ["arguments", "kind", "come"]) (sc := defScope s_kind_from) (by decide +kernel)) (fun _ _ _ _ _ => pg_name (i := 1) sc_kind_from.nd rfl (Or.inl rfl)) (fun _ _ _ _ _ => pts_nil) (fun _ _ _ _ _ => by exact pe_call G1 hr rfl g1 k1 b1 .nil pass0 (pa_cons (pv 1) pa_nil)))) pa_nil))))))))
        (pss_one (ps_raise rfl (takes_of rfl rfl rfl rfl) (pmk_own PySem.F.excBase_ValueError CS.q CS.gC CS.kC (raises_own CS.sB CS.tC) rfl))) pss_nil)
      (pss_cons (ps_if (pt_cmpR op_gt (pe_op op_add (by exact (pe_callB (cr_sum rfl) (by rfl) zs (by decide +kernel) (pa_cons (by exact (pe_lc (own := [("kind", 1)]) (g := gName 1) (te := tCall (spCount K) [] E0 (tCons (tVar 1) tNil)) rfl sc_kind_from.nd (pi_or (pi_list (pv 0)) (pi_tup (pv 0)))
          (blkOk_by (own := [("kind", 1)]) (N := ["arguments", "kind", "come"]) (sc := defScope s_kind_from) (by decide +kernel)) (fun _ _ _ _ _ => pg_name (i := 1) sc_kind_from.nd rfl (Or.inl rfl)) (fun _ _ _ _ _ => pts_nil) (fun _ _ _ _ _ => by exact pe_call G2 hr rfl g2 k2 b2 .nil pass0 (pa_cons (pv 1) pa_nil)))) pa_nil))) pe_int) (pe_glob (v := .int 60) rfl mE ⟨_, rfl⟩) (nomark _))
        (pss_one (ps_raise rfl (takes_of rfl rfl rfl rfl) (pmk_own PySem.F.excBase_ValueError CK.q CK.gC CK.kC (raises_own CK.sB CK.tC) rfl))) pss_nil)
      (pss_cons (ps_set (i := 2) sc_kind_from.nd rfl (Or.inl rfl) (pe_cls T.gT))
      (pss_cons (ps_for (passes_of rfl) rfl (RT.pi_revA rfl zv (pv 0)) (pg_name (i := 1) sc_kind_from.nd rfl (Or.inl rfl))
        (pss_one (ps_set (i := 2) sc_kind_from.nd rfl (Or.inl rfl) (pe_tup (pa_cons pe_str (pa_cons (pv 1) (pa_cons (pv 2) pa_nil)))))))
      (pss_one (ps_ret (pv 2)))))), ?_⟩
    have S1 : ∀ {tp : Addr}, H tp = none → Same H (upd H tp (.tup [.ty "list", .ty "tuple"])) := fun h => same_new h
    have err : (∀ H', Same H H' → E (.ref BKS) none H') → ∀ {H' : Hp}, Same H H' → E (.ref BKS) none H' := fun k H' S => k H' S
    rcases h with ⟨a, ws, ks, rfl, hS, hks, h60, hsum, kT, kF⟩ | ⟨a, ws, ds, rfl, hS, hds, hok, hall, hlen, kF⟩ | ⟨t, hty, hkit, kF⟩
    · have hl := sumE_len ks
      refine ⟨_, rfl, by show 2 ≤ sizeLine; decide, fun tp htp => ?_⟩
      have hS1 := hS.same (S1 htp)
      obtain ⟨t, hty, hkit⟩ := seq_ty hS1
      refine ⟨_, tp, _, _, _, true, rfl, upd_same, .cons (.ty _) (.cons (.ty _) .nil), hty, hkit, _, rfl, ?_⟩
      refine iteF ?_
      dsimp only [tNot, tB, tCB, tCons]
      refine read_all hS1 (dpAll_same (S1 htp) (kds_dp hks)) (fun d hd => ?_) (by rw [List.length_map]; omega) fun H2 D S2 hD => ?_
      · obtain ⟨k, _, rfl⟩ := List.mem_map.mp hd
        exact okD_kd k
      refine ⟨D, _, rfl, SqL.of hD, _, rfl, ?_⟩
      rw [all_id, all_kds h60]
      refine iteF ?_
      have SH2 := (S1 htp).trans S2
      dsimp only [tNext, tSeq, tIfS, tTest, tOp, tCB, tCons]
      refine read_sum (hS.same SH2) (hks.same (SameT.of SH2)) h60 (by omega) fun H3 D3 S3 hD3 => ?_
      refine ⟨D3, _, rfl, SqL.of hD3, _, _, rfl, rfl, _, _, rfl, rfl, _, rfl, ?_⟩
      have SH3 := SH2.trans S3
      rw [sum_nz]
      refine ite2 (fun hc => ?_) (fun hc => ?_)
      · have hc := of_decide_eq_true hc
        exact kF (by omega) H3 SH3
      · have hc : ¬ (60 : Int) < (sumE ks : Int) + 1 := fun z => hc (decide_eq_true z)
        have kT := kT (by omega)
        refine ⟨_, rfl, a, ws, rfl, ?_⟩
        rcases hS.same SH3 with hs | hs
        · refine .inl ⟨hs, ?_⟩
          refine for_it walk_rev (fun i σ H' => ∃ (o1 : Option V) (wc : V), σ = [some (.ref a), o1, some wc] ∧ KdAt K H' wc (build (ks.drop (ks.length - i))) ∧ Same H3 H') ⟨none, .ref tA, rfl, ?_, Same.refl _⟩ (fun i σ H' _ ⟨_, _, _, _, S⟩ => S.seq hs) ?_ ?_
          · rw [Nat.sub_zero, List.drop_length]
            exact ⟨tA, rfl, T.tup _⟩
          · rintro i x σ H4 H' hi ⟨o1, wc, rfl, hwc, S4⟩ ⟨rfl, hx⟩
            have el := hks.len
            rw [el] at hx hi
            obtain ⟨c, hc1, hxc⟩ := hks.get hx
            refine ⟨_, rfl, _, rfl, by show 3 ≤ sizeLine; decide, fun p hp => ?_⟩
            have S5 := (same_new hp : Same H' (upd H' p (.tup [.str "to", x, wc])))
            refine ⟨some x, .ref p, rfl, ?_, S4.trans S5⟩
            have e1 : ks.drop (ks.length - (i + 1)) = c :: ks.drop (ks.length - i) := by
              rw [show ks.length - (i + 1) = ks.length - 1 - i by omega, get_drop hc1, show ks.length - 1 - i + 1 = ks.length - i by omega]
            rw [e1]
            exact ⟨p, x, wc, rfl, .inl (.inl upd_same), hxc.same (SameT.of (SH3.trans (S4.trans S5))), hwc.same (SameT.of S5)⟩
          · rintro σ H' ⟨o1, wc, rfl, hwc, S4⟩
            rw [hks.len, Nat.sub_self, List.drop_zero] at hwc
            exact ⟨_, rfl, kT H' wc (SH3.trans S4) hwc⟩
        · refine .inr ⟨hs, ?_⟩
          refine for_it walk_revT (fun i σ H' => ∃ (o1 : Option V) (wc : V), σ = [some (.ref a), o1, some wc] ∧ KdAt K H' wc (build (ks.drop (ks.length - i))) ∧ Same H3 H') ⟨none, .ref tA, rfl, ?_, Same.refl _⟩ (fun i σ H' _ ⟨_, _, _, _, S⟩ => seqT_same S hs) ?_ ?_
          · rw [Nat.sub_zero, List.drop_length]
            exact ⟨tA, rfl, T.tup _⟩
          · rintro i x σ H4 H' hi ⟨o1, wc, rfl, hwc, S4⟩ ⟨rfl, hx⟩
            have el := hks.len
            rw [el] at hx hi
            obtain ⟨c, hc1, hxc⟩ := hks.get hx
            refine ⟨_, rfl, _, rfl, by show 3 ≤ sizeLine; decide, fun p hp => ?_⟩
            have S5 := (same_new hp : Same H' (upd H' p (.tup [.str "to", x, wc])))
            refine ⟨some x, .ref p, rfl, ?_, S4.trans S5⟩
            have e1 : ks.drop (ks.length - (i + 1)) = c :: ks.drop (ks.length - i) := by
              rw [show ks.length - (i + 1) = ks.length - 1 - i by omega, get_drop hc1, show ks.length - 1 - i + 1 = ks.length - i by omega]
            rw [e1]
            exact ⟨p, x, wc, rfl, .inl (.inl upd_same), hxc.same (SameT.of (SH3.trans (S4.trans S5))), hwc.same (SameT.of S5)⟩
          · rintro σ H' ⟨o1, wc, rfl, hwc, S4⟩
            rw [hks.len, Nat.sub_self, List.drop_zero] at hwc
            exact ⟨_, rfl, kT H' wc (SH3.trans S4) hwc⟩
    · refine ⟨_, rfl, by show 2 ≤ sizeLine; decide, fun tp htp => ?_⟩
      have hS1 := hS.same (S1 htp)
      obtain ⟨t, hty, hkit⟩ := seq_ty hS1
      refine ⟨_, tp, _, _, _, true, rfl, upd_same, .cons (.ty _) (.cons (.ty _) .nil), hty, hkit, _, rfl, ?_⟩
      refine iteF ?_
      dsimp only [tNot, tB, tCB, tCons]
      refine read_all hS1 (dpAll_same (S1 htp) hds) hok hlen fun H2 D S2 hD => ?_
      refine ⟨D, _, rfl, SqL.of hD, _, rfl, ?_⟩
      rw [all_id, hall]
      refine iteT ?_
      exact kF _ ((S1 htp).trans S2)
    · refine ⟨_, rfl, by show 2 ≤ sizeLine; decide, fun tp htp => ?_⟩
      refine ⟨_, tp, _, _, _, false, rfl, upd_same, .cons (.ty _) (.cons (.ty _) .nil), hty _ (S1 htp), hkit, _, rfl, ?_⟩
      refine iteT ?_
      refine iteT ?_
      exact kF _ (S1 htp)
end
end My
set_option Elab.async false
set_option linter.all false
set_option maxRecDepth 100000
set_option maxHeartbeats 4000000
namespace My
open PySem L2 Kn
abbrev sBegun : Stmt := top 17
abbrev sBlended : Stmt := top 18
abbrev sDraw : Stmt := top 19
abbrev sPick : Stmt := top 20

/-- the pairs of a drawing state -/
def kvD (g c : Addr) (r t : Int) : List (Key × V) := [(Sum.inr "great", .ref g), (Sum.inr "cells", .ref c), (Sum.inr "rest", .int r), (Sum.inr "turn", .int t)]
/-- a drawing state stands at d, its lists at g and c; at most m turns have been made -/
def DrawSt (H : Hp) (d g c : Addr) (m : Nat) : Prop := ∃ (gs cs : List Int) (r t : Int), H d = some (.dK (kvD g c r t)) ∧ H g = some (.lst (gs.map V.int)) ∧ H c = some (.lst (cs.map V.int)) ∧ 0 ≤ t ∧ t ≤ m ∧ gs.length ≤ 63 ∧ g ≠ c

def spBegun (K : PySem.W.Frag) : Sp := fun vs H Q _ => ∃ (a : Addr) (ns : List Int), vs = [.ref a] ∧ SqL K H a (ns.map V.int) ∧ ns.length ≤ 63 ∧
  ∀ (H' : Hp) (d g c : Addr), Same H H' → H d = none → H g = none → H c = none → DrawSt H' d g c 0 → Q (.ref d) H'

theorem int_at {ns : List Int} {i : Nat} {x : V} (h : (ns.map V.int)[i]? = some x) : ∃ z, ns[i]? = some z ∧ x = V.int z := by
  rw [List.getElem?_map] at h
  cases e : ns[i]? with
  | none => rw [e] at h; cases h
  | some z => rw [e] at h; exact ⟨z, rfl, (Option.some.inj h).symm⟩
section
variable {P : Program} {w : World} {K : PySem.W.Frag} {mg : Str → Option Value} {base : Heap}
theorem scB : FnScope ["script", "great", "cell"] ["script"] (defScope sBegun) := ⟨rfl, rfl, rfl, by decide +kernel, rfl, by decide +kernel, by decide +kernel⟩
theorem ok_begun {f : Addr} {fd : FuncData} (F : Fun K "_law_begun" "_law_begun" sBegun f fd) (zabs : mg "abs" = none) : FnOk P w K mg base CX0 1 f fd ["script"] (spBegun K) := by
  refine F.ok scB (fun vs H Q E h => ?_) (fun cdv A outer s H vs Q E hr h => ?_)
  · obtain ⟨a, ns, rfl, _⟩ := h
    rfl
  · obtain ⟨a, ns, rfl, hS, hlen, k⟩ := h
    refine ⟨_, pss_cons (ps_setLc (i := 1) (own := [("cell", 2)]) (g := gName 2) rfl scB.nd rfl rfl (sw_true rfl rfl rfl (by decide +kernel)) (pi_list (pv 0)) (blkOk_by (own := [("cell", 2)]) (N := ["script", "great", "cell"]) (sc := defScope sBegun) (by decide +kernel))
        (fun _ _ _ _ _ => pg_name (i := 2) scB.nd rfl (Or.inl rfl))
        (fun _ _ _ _ _ => by exact pts_one (pt_cmpR op_ge (pe_callB call_abs (by rfl) zabs (by decide +kernel) (pa_cons (pv 2) pa_nil)) (pe_op op_pow pe_int pe_int) (nomark _)))
        (fun _ _ _ _ _ => by exact pe_op op_sub (pe_callB call_abs (by rfl) zabs (by decide +kernel) (pa_cons (pv 2) pa_nil)) (pe_op op_pow pe_int pe_int)))
      (pss_one (ps_ret (pe_disp (pps_cons pe_str (pv 1) (pps_cons pe_str
        (pe_lc (own := [("cell", 2)]) (g := gName 2) (by rfl) scB.nd (pi_list (pv 0)) (blkOk_by (own := [("cell", 2)]) (N := ["script", "great", "cell"]) (sc := defScope sBegun) (by decide +kernel))
          (fun _ _ _ _ _ => pg_name (i := 2) scB.nd rfl (Or.inl rfl)) (fun _ _ _ _ _ => pts_nil) (fun _ _ _ _ _ => by exact pe_callB call_abs (by rfl) zabs (by decide +kernel) (pa_cons (pv 2) pa_nil)))
        (pps_cons pe_str pe_int (pps_cons pe_str pe_int pps_nil)))) (by rfl) (by rfl) (fun z => by cases z) (by decide)))), ?_⟩
    refine ⟨_, rfl, a, rfl, ⟨_, hS⟩, fun D hD => lc_list (K := K) (a := a) (xs := ns.map V.int) (fun i H' => ∃ gs : List Int, gs.length ≤ i ∧ H' = upd H D (.lst (gs.map V.int)))
      ⟨[], Nat.le_refl _, rfl⟩ (fun i H' _ ⟨gs, _, e⟩ => by subst e; exact (same_new hD).seq hS) ?_ ?_⟩
    · rintro i x H' hx ⟨gs, hg, rfl⟩
      have hi : i < ns.length := by
        have := (List.getElem?_eq_some_iff.mp hx).1
        simpa using this
      obtain ⟨z, hz, rfl⟩ := int_at hx
      refine ⟨rfl, _, rfl, z, rfl, _, _, rfl, rfl, ⟨by decide, by decide, by decide⟩, _, _, rfl, rfl, _, rfl, ?_⟩
      have hadd : ∀ y : Int, upd (upd H D (.lst (gs.map V.int))) D (.lst (gs.map V.int ++ [V.int y])) = upd H D (.lst ((gs ++ [y]).map V.int)) := fun y => by
        rw [upd_upd, List.map_append]
        all_goals rfl
      refine ite2 (fun _ => ?_) (fun _ => ?_)
      · refine ⟨_, rfl, z, rfl, _, _, rfl, rfl, ⟨by decide, by decide, by decide⟩, _, _, rfl, rfl, _, upd_same, ?_, gs ++ [(if z < 0 then -z else z) - 10 ^ (18 : Int).toNat], ?_, hadd _⟩
        · rw [List.length_map]
          exact small1000 (by omega)
        · rw [List.length_append]
          show gs.length + 1 ≤ i + 1
          omega
      · exact ⟨gs, by omega, rfl⟩
    · rintro H' ⟨gs, hg, rfl⟩
      rw [List.length_map] at hg
      refine fun p hp => ?_
      have npD : D ≠ p := ne_of_none (upd_same (H := H) (a := D)) hp
      have hpH : H p = none := by
        rw [← hp, upd_ne npD.symm]
      have S1 : Same H (upd (upd H D (.lst (gs.map V.int))) p (.dK [])) := Same.trans (same_new hD) (same_new hp)
      refine ⟨_, rfl, _, rfl, a, rfl, ⟨_, S1.seq hS⟩, fun C hC => lc_list (K := K) (a := a) (xs := ns.map V.int)
        (fun i H' => ∃ cs : List Int, cs.length ≤ i ∧ H' = upd (upd (upd H D (.lst (gs.map V.int))) p (.dK [])) C (.lst (cs.map V.int))) ⟨[], Nat.le_refl _, rfl⟩ (fun i H' _ ⟨cs, _, e⟩ => by subst e; exact (Same.trans S1 (same_new hC)).seq hS) ?_ ?_⟩
      · rintro i x H' hx ⟨cs, hc, rfl⟩
        have hi : i < ns.length := by
          have := (List.getElem?_eq_some_iff.mp hx).1
          simpa using this
        obtain ⟨z, hz, rfl⟩ := int_at hx
        refine ⟨rfl, ?_⟩
        dsimp only [tYes]
        refine iteT ?_
        refine ⟨_, rfl, z, rfl, _, upd_same, ?_, cs ++ [if z < 0 then -z else z], ?_, ?_⟩
        · rw [List.length_map]
          exact small1000 (by omega)
        · rw [List.length_append]
          show cs.length + 1 ≤ i + 1
          omega
        · rw [upd_upd, List.map_append]
          all_goals rfl
      · rintro H' ⟨cs, hc, rfl⟩
        have npC : p ≠ C := ne_of_none (upd_same (H := upd H D (.lst (gs.map V.int))) (a := p)) hC
        have nDC : D ≠ C := ne_of_none (o := .lst (gs.map V.int)) (by rw [upd_ne npD, upd_same]) hC
        have hCH : H C = none := by rw [← hC, upd_ne npC.symm, upd_ne nDC.symm]
        refine ⟨by rw [upd_ne npC, upd_same], kvD D C 0 0, rfl, (by show 4 ≤ 15; decide), ?_⟩
        have em : mergeK [] (kvD D C 0 0) = kvD D C 0 0 := by rfl
        rw [em]
        refine k _ p D C (fun b o e => ?_) hpH hD hCH ⟨gs, cs, 0, 0, upd_same, ?_, ?_, Int.le_refl _, Int.le_refl _, by omega, nDC⟩
        · rw [upd_ne (ne_of_none e hpH), upd_ne (ne_of_none e hCH), upd_ne (ne_of_none e hpH), upd_ne (ne_of_none e hD)]
          exact e
        · rw [upd_ne npD, upd_ne nDC, upd_ne npD, upd_same]
        · rw [upd_ne npC.symm, upd_same]

theorem DrawSt.same {H H' : Hp} {d g c : Addr} {m : Nat} (h : DrawSt H d g c m) (k : Same H H') : DrawSt H' d g c m := by
  obtain ⟨gs, cs, r, t, h1, h2, h3, h4⟩ := h
  exact ⟨gs, cs, r, t, k _ _ h1, k _ _ h2, k _ _ h3, h4⟩
theorem DrawSt.more {H : Hp} {d g c : Addr} {m n : Nat} (h : DrawSt H d g c m) (k : m ≤ n) : DrawSt H d g c n := by
  obtain ⟨gs, cs, r, t, h1, h2, h3, h4, h5, h6⟩ := h
  exact ⟨gs, cs, r, t, h1, h2, h3, h4, by omega, h6⟩
/-- what is not there is none of its three -/
theorem DrawSt.ne {H : Hp} {d g c l : Addr} {m : Nat} (h : DrawSt H d g c m) (n : H l = none) : l ≠ d ∧ l ≠ g ∧ l ≠ c := by
  obtain ⟨gs, cs, r, t, h1, h2, h3, _⟩ := h
  exact ⟨(ne_of_none h1 n).symm, (ne_of_none h2 n).symm, (ne_of_none h3 n).symm⟩

/-! ### the state's pairs -/
theorem kvD_great (g c : Addr) (r t : Int) : valV (kvD g c r t) (Sum.inr "great" : Key) = some (.ref g) := by rfl
theorem kvD_cells (g c : Addr) (r t : Int) : valV (kvD g c r t) (Sum.inr "cells" : Key) = some (.ref c) := by rfl
theorem kvD_rest (g c : Addr) (r t : Int) : valV (kvD g c r t) (Sum.inr "rest" : Key) = some (.int r) := by rfl
theorem kvD_turn (g c : Addr) (r t : Int) : valV (kvD g c r t) (Sum.inr "turn" : Key) = some (.int t) := by rfl
theorem putD_rest (g c : Addr) (r t z : Int) : putK (kvD g c r t) (Sum.inr "rest" : Key) (.int z) = kvD g c z t := by rfl
theorem putD_turn (g c : Addr) (r t z : Int) : putK (kvD g c r t) (Sum.inr "turn" : Key) (.int z) = kvD g c r z := by rfl
theorem getD_of {H : Hp} {d : Addr} {kvs : List (Key × V)} (h : H d = some (.dK kvs)) (x : Str) {v : V} (e : valV kvs (Sum.inr x : Key) = some v) : DGet H d (.str x) (some v) := by
  rw [← e]
  exact DGet.k (k := Sum.inr x) h
theorem putD_of {H : Hp} {d : Addr} {kvs kvs' : List (Key × V)} (h : H d = some (.dK kvs)) (x : Str) {v : V} (hl : kvs.length ≤ 1000) (e : putK kvs (Sum.inr x : Key) v = kvs') : DPut H d (.str x) v (upd H d (.dK kvs')) := by
  rw [← e]
  exact DPut.k (k := Sum.inr x) h (small1000 hl)

/-! ### _law_blended -/
def spBlended : Sp := fun vs H Q _ => ∃ (d g c : Addr) (m : Nat), vs = [.ref d] ∧ DrawSt H d g c m ∧ m ≤ 2 ^ 40 ∧
  ∀ (H' : Hp) (n : Int), DrawSt H' d g c (m + 1) → (∀ b o, H b = some o → b ≠ d → H' b = some o) → Q (.int n) H'
def primes : List V := [.int 2147483579, .int 2147483629, .int 2147483563]
theorem primes_at {i : Nat} {x : V} (h : primes[i]? = some x) : ∃ z : Int, x = .int z ∧ 2147483563 ≤ z ∧ z ≤ 2147483629 := by
  unfold primes at h
  match i, h with
  | 0, h => exact ⟨2147483579, (Option.some.inj h).symm, by decide, by decide⟩
  | 1, h => exact ⟨2147483629, (Option.some.inj h).symm, by decide, by decide⟩
  | 2, h => exact ⟨2147483563, (Option.some.inj h).symm, by decide, by decide⟩
  | (n + 3), h => simp at h
theorem scBl : FnScope ["state", "turn", "found", "prime", "blend", "cell"] ["state"] (defScope sBlended) := ⟨rfl, rfl, rfl, by decide +kernel, rfl, by decide +kernel, by decide +kernel⟩
theorem ok_blended {f : Addr} {fd : FuncData} (F : Fun K "_law_blended" "_law_blended" sBlended f fd) (zint : mg "int" = none) : FnOk P w K mg base CX0 1 f fd ["state"] spBlended := by
  refine F.ok scBl (fun vs H Q E h => ?_) (fun cdv A outer s H vs Q E hr h => ?_)
  · obtain ⟨d, g, c, m, rfl, _⟩ := h
    rfl
  · obtain ⟨d, g, c, m, rfl, ⟨gs, cs, r, t, hd, hg, hc, t0, tm, gl, gc⟩, hm, k⟩ := h
    have hu := hu_of hr
    refine ⟨_, pss_cons (ps_par (i := 1) (j := 2) rfl scBl.nd rfl rfl (by decide) rfl rfl (pa_cons (pe_op op_add (pe_dget hu (pv 0) pe_str (fun _ _ => rfl)) pe_int) (pa_cons pe_int pa_nil)) (by rfl))
      (pss_cons (ps_dput hu (pv 0) pe_str (pv 1) rfl)
      (pss_cons (ps_for PassesOwn.never rfl (pi_list (pe_lst (pa_cons pe_int (pa_cons pe_int (pa_cons pe_int pa_nil))))) (pg_name (i := 3) scBl.nd rfl (Or.inl rfl))
        (pss_cons (ps_set (i := 4) scBl.nd rfl (Or.inl rfl) (pe_op op_add (pe_op op_mul pe_int (pv 1)) (pe_op op_fdiv (pv 3) pe_int)))
        (pss_cons (ps_for PassesOwn.never rfl (pi_list (pe_dget hu (pv 0) pe_str (fun _ _ => rfl))) (pg_name (i := 5) scBl.nd rfl (Or.inl rfl))
          (pss_one (ps_set (i := 4) scBl.nd rfl (Or.inl rfl) (by exact (pe_op op_modN (pe_callTy call_int1 (by rfl) zint (by decide +kernel) (pa_cons (pe_op op_add (pe_op op_add (pe_op op_mul (pv 4) pe_int) (pv 5)) (pv 1)) pa_nil)) (pv 3))))))
        (pss_one (ps_set (i := 2) scBl.nd rfl (Or.inl rfl) (by exact (pe_op op_add (pe_op op_mul (pv 2) pe_int) (pe_op op_modN (pe_callTy call_int1 (by rfl) zint (by decide +kernel) (pa_cons (pe_op op_pow (pv 4) pe_int) pa_nil)) (pv 3)))))))))
      (pss_one (ps_ret (pv 2))))), ?_⟩
    refine ⟨_, rfl, d, _, rfl, getD_of hd "turn" (kvD_turn g c r t), _, _, rfl, rfl, _, _, rfl, ?_⟩
    refine ⟨_, rfl, _, rfl, d, _, rfl, putD_of hd "turn" (by show 4 ≤ 1000; decide) (putD_turn g c r t (t + 1)), ?_⟩
    have hgd : g ≠ d := ne_of hg hd (by intro z; cases z)
    have hcd : c ≠ d := ne_of hc hd (by intro z; cases z)
    refine ⟨by show 3 ≤ sizeLine; decide, fun p hp => ?_⟩
    have npd : d ≠ p := ne_of_none upd_same hp
    have nph : H p = none := by rw [← hp, upd_ne npd.symm]
    have npg : g ≠ p := ne_of_none hg nph
    have npc : c ≠ p := ne_of_none hc nph
    generalize hH3 : upd (upd H d (.dK (kvD g c r (t + 1)))) p (.lst primes) = H3
    have e3d : H3 d = some (.dK (kvD g c r (t + 1))) := by rw [← hH3, upd_ne npd, upd_same]
    have e3g : H3 g = some (.lst (gs.map V.int)) := by rw [← hH3, upd_ne npg, upd_ne hgd]; exact hg
    have e3c : H3 c = some (.lst (cs.map V.int)) := by rw [← hH3, upd_ne npc, upd_ne hcd]; exact hc
    have e3p : H3 p = some (.lst primes) := by rw [← hH3, upd_same]
    have keep : ∀ b o, H b = some o → b ≠ d → H3 b = some o := fun b o e n => by
      rw [← hH3, upd_ne (ne_of_none e nph), upd_ne n]
      exact e
    refine ⟨p, rfl, ⟨primes, .inl (.inl upd_same)⟩, ?_⟩
    show ∃ W, _
    rw [show (upd (upd H d (.dK (kvD g c r (t + 1)))) p (.lst [V.int 2147483579, V.int 2147483629, V.int 2147483563])) = H3 from hH3]
    refine for_list (K := K) (a := p) (xs := primes) (fun i σ H' => H3 = H' ∧ ∃ (n : Int) (v3 v4 v5 : Option V), σ = [some (.ref d), some (.int (t + 1)), some (.int n), v3, v4, v5])
      ⟨rfl, 0, none, none, none, rfl⟩ (fun i σ H' _ ⟨e, _⟩ => by subst e; exact .inl (.inl e3p)) ?_ ?_
    · rintro i x σ H' hx ⟨rfl, n, v3, v4, v5, rfl⟩
      obtain ⟨z, rfl, z1, z2⟩ := primes_at hx
      refine ⟨_, rfl, _, _, rfl, rfl, .inl ⟨by decide, by decide⟩, _, rfl, _, _, rfl, rfl, ⟨by decide, by decide⟩, _, _, rfl, rfl, ?_⟩
      -- for cell in state['cells']
      have q0 : 0 ≤ 48271 * (t + 1) + z / 53 ∧ 48271 * (t + 1) + z / 53 < 2 ^ 60 := by
        omega
      refine ⟨_, rfl, d, _, rfl, getD_of e3d "cells" (kvD_cells g c r (t + 1)), c, rfl, ⟨_, .inl (.inl e3c)⟩, ?_⟩
      refine for_list (K := K) (a := c) (xs := cs.map V.int) (fun i σ H' => H3 = H' ∧ ∃ (b : Int) (v5 : Option V), 0 ≤ b ∧ b < 2 ^ 60 ∧ σ = [some (.ref d), some (.int (t + 1)), some (.int n), some (.int z), some (.int b), v5])
        ⟨rfl, _, v5, q0.1, q0.2, rfl⟩ (fun i σ H' _ ⟨e, _⟩ => by subst e; exact .inl (.inl e3c)) ?_ ?_
      · rintro i x σ H' hx ⟨rfl, b, v5, b0, b1, rfl⟩
        obtain ⟨y, hy, rfl⟩ := int_at hx
        refine ⟨_, rfl, _, _, rfl, rfl, .inr ⟨by decide, by decide⟩, _, rfl, _, _, rfl, rfl, _, rfl, _, _, rfl, rfl, .inl ⟨_, rfl, ?_⟩⟩
        refine ⟨_, rfl, _, _, rfl, rfl, by omega, rfl, _, _, ?_, ?_, rfl⟩
        · rw [Int.fmod_eq_emod_of_nonneg _ (by omega)]
          exact Int.emod_nonneg _ (by omega)
        · rw [Int.fmod_eq_emod_of_nonneg _ (by omega)]
          have := Int.emod_lt_of_pos (b * 69621 + y + (t + 1)) (show 0 < z by omega)
          omega
      · rintro σ H' ⟨rfl, b, v5, b0, b1, rfl⟩
        refine ⟨_, rfl, _, _, rfl, rfl, .inr ⟨by decide, by decide⟩, _, rfl, _, _, rfl, rfl, ⟨by decide, by decide, by omega⟩, .inl ⟨_, rfl, _, rfl, _, _, rfl, rfl, by omega, _, _, rfl, rfl, rfl, _, _, _, _, rfl⟩⟩
    · rintro σ H' ⟨rfl, n, v3, v4, v5, rfl⟩
      exact ⟨_, rfl, k _ n ⟨gs, cs, r, t + 1, e3d, e3g, e3c, by omega, by omega, gl, gc⟩ keep⟩

/-! ### _law_draw -/
theorem seqIdx0 (n : Nat) : seqIndex? 0 (n + 1) = some 0 := by
  unfold seqIndex?
  simp
  try omega

def spDraw : Sp := fun vs H Q _ => ∃ (d g c : Addr) (m : Nat) (room : Int), vs = [.ref d, .int room] ∧ DrawSt H d g c m ∧ m ≤ 2 ^ 40 ∧ 0 < room ∧ room < 1073741824 ∧
  ∀ (H' : Hp) (n : Int), 0 ≤ n → n < room → DrawSt H' d g c (m + 1) → (∀ b o, H b = some o → b ≠ d → b ≠ g → H' b = some o) → Q (.int n) H'
theorem dpInts (K : PySem.W.Frag) (H : Hp) : ∀ gs : List Int, DpAll K H (gs.map V.int) (gs.map PyData.int)
  | [] => .nil
  | z :: r => .cons (.int z) (dpInts K H r)
theorem ints_lay : ∀ gs : List Int, PyData.canLayAll0 (gs.map PyData.int) = true
  | [] => by simp only [List.map_nil, PyData.canLayAll0]
  | z :: r => by simp only [List.map_cons, PyData.canLayAll0, PyData.canLay0, ints_lay r, Bool.and_self]
theorem ints_depth : ∀ gs : List Int, PyData.depthAll (gs.map PyData.int) ≤ 1
  | [] => by simp only [List.map_nil, PyData.depthAll]; omega
  | z :: r => by
    have := ints_depth r
    simp only [List.map_cons, PyData.depthAll, PyData.depth]
    omega
theorem shaped_ints (gs : List Int) : SeqAt.shaped (.list (gs.map PyData.int)) = true := by
  unfold SeqAt.shaped
  rw [Bool.and_eq_true]
  refine ⟨?_, decide_eq_true ?_⟩
  · simp only [PyData.canLay0]
    exact ints_lay gs
  · have := ints_depth gs
    simp only [PyData.depth]
    omega
theorem eqv_nil (gs : List Int) : PyData.eqv (.list (gs.map PyData.int)) (.list []) = gs.isEmpty := by
  cases gs with
  | nil => decide +kernel
  | cons z r => simp [PyData.eqv, PyData.eqvAll]
theorem scD : FnScope ["state", "room", "found"] ["state", "room"] (defScope sDraw) := ⟨rfl, rfl, rfl, by decide +kernel, rfl, by decide +kernel, by decide +kernel⟩
theorem ok_draw {f fB : Addr} {fd fdB : FuncData} (F : Fun K "_law_draw" "_law_draw" sDraw f fd) (zint : mg "int" = none) (G : FnOk P w K mg base CX0 1 fB fdB ["state"] spBlended) (mgB : mg "_law_blended" = some (.ref fB)) (kB : PySem.W.keepIn K (.ref fB) = true) (bB : Binds K fdB ["state"] []) :
    FnOk P w K mg base CX0 2 f fd ["state", "room"] spDraw := by
  refine F.ok scD (fun vs H Q E h => ?_) (fun cdv A outer s H vs Q E hr h => ?_)
  · obtain ⟨d, g, c, m, room, rfl, _⟩ := h
    rfl
  · obtain ⟨d, g, c, m, room, rfl, ⟨gs, cs, r, t, hd, hg, hc, t0, tm, gl, gc⟩, hm, r0, r1, k⟩ := h
    have hu := hu_of hr
    refine ⟨_, pss_cons (ps_if (pt_cmpR op_eq (pe_dget hu (pv 0) pe_str (fun _ _ => rfl)) pe_int (nomark _))
        (pss_one (ps_dput hu (pv 0) pe_str (by exact (pe_ifExp (pt_cmpR (op_neD hr.units) (pe_dget hu (pv 0) pe_str (fun _ _ => rfl)) (pe_lst pa_nil) (nomark _))
          (pe_bm PySem.F.plainAttrs_list PySem.F.slot_list_pop PySem.F.type_list_pop mt_popAt (pe_dget hu (pv 0) pe_str (fun _ _ => rfl)) (pa_cons pe_int pa_nil))
          (pe_call G hr rfl mgB kB bB .nil pass0 (pa_cons (pv 0) pa_nil)))) rfl)) pss_nil)
      (pss_cons (ps_set (i := 2) scD.nd rfl (Or.inl rfl) (pe_op op_modN (pe_callTy call_int1 (by rfl) zint (by decide +kernel) (pa_cons (pe_dget hu (pv 0) pe_str (fun _ _ => rfl)) pa_nil)) (pv 1)))
      (pss_cons (ps_dput hu (pv 0) pe_str (pe_op op_fdivN (pe_dget hu (pv 0) pe_str (fun _ _ => rfl)) (pv 1)) rfl)
      (pss_one (ps_ret (pv 2))))), ?_⟩
    have rest : ∀ (H2 : Hp) (cs gs2 : List Int) (r2 t2 : Int), H2 d = some (.dK (kvD g c r2 t2)) → H2 g = some (.lst (gs2.map V.int)) → H2 c = some (.lst (cs.map V.int)) → 0 ≤ t2 → t2 ≤ (m : Int) + 1 → gs2.length ≤ 63 → (∀ b o, H b = some o → b ≠ d → b ≠ g → H2 b = some o) →
        tSeq (tAsg (tOp (rI (fun x j => j ≠ 0) fun i j => V.int (i.fmod j)) (tCB (fun xs H Q => (∃ i, xs = [V.int i] ∧ Q (V.int i) H) ∨ ∃ k, xs = [V.bl k] ∧ Q (V.int (if k = true then 1 else 0)) H) (tCons (tDGet (tVar 0) (tC (V.str "rest"))) tNil)) (tVar 1)) (gName 2))
          (tSeq (sDPut (tVar 0) (tC (V.str "rest")) (tOp (rI CDivN fun i j => V.int (i.fdiv j)) (tDGet (tVar 0) (tC (V.str "rest"))) (tVar 1))) (tRet (tVar 2)))
          { nx := fun x H' => Q V.non H', rt := Q } (L2.start ["state", "room", "found"] [V.ref d, V.int room]) H2 := by
      intro H2 cs gs2 r2 t2 hd2 hg2 hc2 z0 z1 gl2 kp
      have hgd : g ≠ d := ne_of hg2 hd2 (by intro z; cases z)
      have hcd : c ≠ d := ne_of hc2 hd2 (by intro z; cases z)
      refine ⟨_, rfl, d, _, rfl, getD_of hd2 "rest" (kvD_rest g c r2 t2), .inl ⟨_, rfl, _, rfl, _, _, rfl, rfl, by omega, ?_⟩⟩
      refine ⟨_, rfl, d, _, rfl, getD_of hd2 "rest" (kvD_rest g c r2 t2), _, rfl, _, _, rfl, rfl, ⟨by omega, by omega⟩, _, rfl, d, _, rfl, putD_of hd2 "rest" (by show 4 ≤ 1000; decide) (putD_rest g c r2 t2 _), _, rfl, ?_⟩
      show Q (V.int (r2.fmod room)) _
      rw [Int.fmod_eq_emod_of_nonneg _ (by omega)]
      refine k _ _ (Int.emod_nonneg _ (by omega)) (Int.emod_lt_of_pos _ r0) ⟨gs2, cs, _, t2, upd_same, by rw [upd_ne hgd]; exact hg2, by rw [upd_ne hcd]; exact hc2, z0, by omega, gl2, gc⟩ fun b o e n1 n2 => ?_
      rw [upd_ne n1]
      exact kp b o e n1 n2
    refine ⟨_, rfl, d, _, rfl, getD_of hd "rest" (kvD_rest g c r t), rfl, _, rfl, ?_⟩
    refine ite2 (fun _ => ?_) (fun _ => rest H cs gs r t hd hg hc t0 (by omega) gl fun b o e _ _ => e)
    refine ⟨_, rfl, d, _, rfl, getD_of hd "great" (kvD_great g c r t), by show 0 ≤ sizeLine; decide, fun p hp => ?_⟩
    have npd : d ≠ p := ne_of_none hd hp
    have npg : g ≠ p := ne_of_none hg hp
    have npc : c ≠ p := ne_of_none hc hp
    have hgd : g ≠ d := ne_of hg hd (by intro z; cases z)
    have hcd : c ≠ d := ne_of hc hd (by intro z; cases z)
    have e1d : (upd H p (.lst [])) d = some (.dK (kvD g c r t)) := by rw [upd_ne npd]; exact hd
    have e1g : (upd H p (.lst [])) g = some (.lst (gs.map V.int)) := by rw [upd_ne npg]; exact hg
    have e1c : (upd H p (.lst [])) c = some (.lst (cs.map V.int)) := by rw [upd_ne npc]; exact hc
    refine ⟨.list (gs.map PyData.int), .list [], .lst (.inl (.inl e1g)) (dpInts K _ gs), .lst (.inl (.inl upd_same)) .nil, shaped_ints gs, by decide +kernel, _, rfl, ?_⟩
    rw [eqv_nil]
    cases gs with
    | cons z r' =>
      refine iteT ?_
      refine ⟨_, rfl, d, _, rfl, getD_of e1d "great" (kvD_great g c r t), .inl ⟨rfl, _, SqL.of e1g⟩, g, _, 0, 0, .int z, rfl, rfl, e1g, by decide, by decide, (by rw [List.map_cons, List.length_cons]; exact seqIdx0 _), rfl, ?_⟩
      have e2d : (upd (upd H p (.lst [])) g (.lst ((List.map V.int (z :: r')).eraseIdx 0))) d = some (.dK (kvD g c r t)) := by rw [upd_ne hgd.symm]; exact e1d
      refine ⟨_, rfl, d, _, rfl, putD_of e2d "rest" (by show 4 ≤ 1000; decide) (putD_rest g c r t z), ?_⟩
      refine rest _ cs r' z t upd_same ?_ ?_ t0 (by omega) ?_ fun b o e n1 n2 => ?_
      · rw [upd_ne hgd, upd_same]
        all_goals rfl
      · rw [upd_ne hcd, upd_ne gc.symm]
        exact e1c
      · have q : r'.length + 1 ≤ 63 := gl
        omega
      · rw [upd_ne n1, upd_ne n2, upd_ne (ne_of_none e hp)]
        exact e
    | nil =>
      refine iteF ?_
      refine ⟨_, rfl, d, g, c, m, rfl, ⟨[], cs, r, t, e1d, e1g, e1c, t0, tm, gl, gc⟩, hm, ?_⟩
      rintro H2 n ⟨gs2, cs2, r2, t2, hd2, hg2, hc2, z0, z1, gl2, _⟩ kp
      refine ⟨_, rfl, d, _, rfl, putD_of hd2 "rest" (by show 4 ≤ 1000; decide) (putD_rest g c r2 t2 n), ?_⟩
      refine rest _ cs2 gs2 n t2 upd_same ?_ ?_ z0 (by omega) gl2 fun b o e n1 n2 => ?_
      · rw [upd_ne hgd]
        exact hg2
      · rw [upd_ne hcd]
        exact hc2
      · rw [upd_ne n1]
        exact kp b o (by rw [upd_ne (ne_of_none e hp)]; exact e) n1

/-! ### _law_pick -/
def spPick (K : PySem.W.Frag) : Sp := fun vs H Q _ => ∃ (d g c l : Addr) (m : Nat) (xs : List V), vs = [.ref d, .ref l] ∧ DrawSt H d g c m ∧ m ≤ 2 ^ 40 ∧ H l = some (.lst xs) ∧ l ≠ g ∧ xs ≠ [] ∧ xs.length < 1073741824 ∧
  ∀ (H' : Hp) (n : Nat) (v : V), xs[n]? = some v → DrawSt H' d g c (m + 1) → (∀ b o, H b = some o → b ≠ d → b ≠ g → H' b = some o) → Q v H'
theorem scP : FnScope ["state", "some"] ["state", "some"] (defScope sPick) := ⟨rfl, rfl, rfl, by decide +kernel, rfl, by decide +kernel, by decide +kernel⟩
theorem ok_pick {f fB : Addr} {fd fdB : FuncData} (F : Fun K "_law_pick" "_law_pick" sPick f fd) (zlen : mg "len" = none) (G : FnOk P w K mg base CX0 2 fB fdB ["state", "room"] spDraw) (mgB : mg "_law_draw" = some (.ref fB)) (kB : PySem.W.keepIn K (.ref fB) = true) (bB : Binds K fdB ["state", "room"] []) :
    FnOk P w K mg base CX0 3 f fd ["state", "some"] (spPick K) := by
  refine F.ok scP (fun vs H Q E h => ?_) (fun cdv A outer s H vs Q E hr h => ?_)
  · obtain ⟨d, g, c, l, m, xs, rfl, _⟩ := h
    rfl
  · obtain ⟨d, g, c, l, m, xs, rfl, D, hm, hl, hlg, hne, hsz, k⟩ := h
    have hld : l ≠ d := by
      obtain ⟨_, _, _, _, hd, _⟩ := D
      exact ne_of hl hd (by intro z; cases z)
    refine ⟨_, pss_one (ps_ret (pe_ix ix_list (pv 1) (by exact (pe_call G hr rfl mgB kB bB .nil pass0 (pa_cons (pv 0) (pa_cons (pe_callB call_len (by rfl) zlen (by decide +kernel) (pa_cons (pv 1) pa_nil)) pa_nil)))) (fun _ _ => rfl))), ?_⟩
    have hlen : 0 < xs.length := List.length_pos_iff.mpr hne
    refine ⟨_, rfl, _, rfl, _, rfl, _, xs.length, rfl, .inl ⟨xs, SqL.of hl, rfl⟩, d, g, c, m, _, rfl, D, hm, by omega, by omega, ?_⟩
    intro H' n n0 n1 D' kp
    have hn : n.toNat < xs.length := by omega
    have el : xs[n.toNat]? = some xs[n.toNat] := List.getElem?_eq_getElem hn
    exact ⟨l, xs, n, xs[n.toNat], rfl, rfl, SqL.of (kp l _ hl hld hlg), at_of (by omega) el, k H' _ _ el D' kp⟩
end
/-! ### what draws leave as it was -/
def Dr (d g : Addr) (H H' : Hp) : Prop := ∀ b o, H b = some o → b ≠ d → b ≠ g → H' b = some o
theorem Dr.refl (d g : Addr) (H : Hp) : Dr d g H H := fun _ _ h _ _ => h
theorem Dr.of {d g : Addr} {H H' : Hp} (e : Same H H') : Dr d g H H' := fun b o h _ _ => e b o h
theorem Dr.trans {d g : Addr} {H H1 H2 : Hp} (a : Dr d g H H1) (b : Dr d g H1 H2) : Dr d g H H2 := fun c o h n1 n2 => b c o (a c o h n1 n2) n1 n2
theorem Dr.tups {d g c : Addr} {m : Nat} {H H' : Hp} (a : Dr d g H H') (h : DrawSt H d g c m) : SameT H H' := fun b ys hb => by
  obtain ⟨gs, cs, r, t, h1, h2, h3, _⟩ := h
  have n1 : b ≠ d := by
    rintro rfl
    rcases hb with hb | ⟨o, hb⟩ <;> rw [h1] at hb <;> cases hb
  have n2 : b ≠ g := by
    rintro rfl
    rcases hb with hb | ⟨o, hb⟩ <;> rw [h2] at hb <;> cases hb
  rcases hb with hb | ⟨o, hb⟩
  · exact .inl (a _ _ hb n1 n2)
  · exact .inr ⟨o, a _ _ hb n1 n2⟩
/-! ### _law_is_truth -/
abbrev s_is_truth : Stmt := top 22
def spTruth : Sp := fun vs H Q _ => ∃ a b : Bool, vs = [.bl a, .bl b] ∧ Q (.bl (a == b)) H
section
variable {P : Program} {w : World} {K : PySem.W.Frag} {mg : Str → Option Value} {base : Heap} {tA BK BE HE : Addr}
theorem sc_is_truth : FnScope ["found", "due"] ["found", "due"] (defScope s_is_truth) := ⟨rfl, rfl, rfl, by decide +kernel, rfl, by decide +kernel, by decide +kernel⟩
theorem ok_is_truth {f : Addr} {fd : FuncData} (F : Fun K "_law_is_truth" "_law_is_truth" s_is_truth f fd) : FnOk P w K mg base CX0 1 f fd ["found", "due"] spTruth := by
  refine F.ok sc_is_truth (fun vs H Q E h => ?_) (fun cdv A outer s0 H vs Q E hr h => ?_)
  · obtain ⟨a, b, rfl, _⟩ := h
    rfl
  · obtain ⟨a, b, rfl, q⟩ := h
    refine ⟨_, pss_one (ps_ret (by exact (pe_ifExp (pt_val (pv 1)) (pe_cmpR op_is_bl (pv 0) pe_bl (nomark _)) (pe_cmpR op_is_bl (pv 0) pe_bl (nomark _))))), ?_⟩
    refine ⟨_, rfl, b, rfl, ?_⟩
    cases b with
    | true =>
      refine iteT ⟨_, rfl, a, true, rfl, rfl, ?_⟩
      cases a <;> exact q
    | false =>
      refine iteF ⟨_, rfl, a, false, rfl, rfl, ?_⟩
      cases a <;> exact q
end
/-! ### _law_oh_same -/
abbrev s_oh_same : Stmt := top 23
def spSame (K : PySem.W.Frag) : Sp := fun vs H Q _ => ∃ x y : V, vs = [x, y] ∧ Q (.bl true) H ∧ ((∃ (a b : Addr) (d : PyData), x = .ref a ∧ y = .ref b ∧ Dp K H (.ref a) d ∧ Dp K H (.ref b) d ∧ ShowOk d) ∨ ∃ n : Nat, n ≤ 1000 ∧ x = intV n ∧ y = intV n)
section
variable {P : Program} {w : World} {K : PySem.W.Frag} {mg : Str → Option Value} {base : Heap} {tA BK BE HE : Addr}
theorem sc_oh_same : FnScope ["found", "due"] ["found", "due"] (defScope s_oh_same) := ⟨rfl, rfl, rfl, by decide +kernel, rfl, by decide +kernel, by decide +kernel⟩
theorem log2_nat {n : Nat} (h : n ≤ 1000) : ((n : Nat) : Int).natAbs.log2 < 1920 := by
  rw [Int.natAbs_natCast]
  have h1 : n.log2 ≤ 10 := by
    by_cases hn : n = 0
    · subst hn
      decide
    · have h2 := Nat.log2_self_le hn
      by_cases hc : n.log2 ≤ 10
      · exact hc
      · exact absurd (Nat.pow_le_pow_right (by decide : 0 < 2) (show 10 ≤ n.log2 by omega)) (by
          intro h3
          have h4 : (2 : Nat) ^ 10 = 1024 := by decide
          omega)
  omega
theorem ok_oh_same {f : Addr} {fd : FuncData} (F : Fun K "_law_oh_same" "_law_oh_same" s_oh_same f fd) (zr : mg "repr" = none) : FnG P w K mg base CX0 1 f fd ["found", "due"] (spSame K) := by
  refine F.okG sc_oh_same (fun vs H Q E h => ?_) (fun cdv A outer s0 H vs Q E hr hgd h => ?_)
  · obtain ⟨x, y, rfl, _⟩ := h
    rfl
  · obtain ⟨x, y, rfl, q, h⟩ := h
    refine ⟨_, pss_one (ps_ret (by exact (pe_cmpR op_eq (by exact (pe_callB (call_reprD hr hgd) (by rfl) zr (by decide +kernel) (pa_cons (pv 0) pa_nil))) (by exact (pe_callB (call_reprD hr hgd) (by rfl) zr (by decide +kernel) (pa_cons (pv 1) pa_nil))) (nomark _)))), ?_⟩
    rcases h with ⟨a, b, d, rfl, rfl, ha, hb, s1, s2, s3, s4⟩ | ⟨n, hn, rfl, rfl⟩
    · refine ⟨_, rfl, .inr ⟨a, d, rfl, ha, s1, s2, s3, s4, ?_⟩⟩
      refine ⟨_, rfl, .inr ⟨b, d, rfl, hb, s1, s2, s3, s4, ?_⟩⟩
      refine ⟨rfl, ?_⟩
      rw [decide_eq_true (rfl : V.str d.shown = V.str d.shown)]
      exact q
    · refine ⟨_, rfl, .inl ⟨_, rfl, log2_nat hn, ?_⟩⟩
      refine ⟨_, rfl, .inl ⟨_, rfl, log2_nat hn, ?_⟩⟩
      refine ⟨rfl, ?_⟩
      rw [decide_eq_true (rfl : V.str (toString ((n : Nat) : Int)) = V.str (toString ((n : Nat) : Int)))]
      exact q
end
/-! ### _law_any_kind -/
abbrev s_any_kind : Stmt := top 33
def spAnyK (K : PySem.W.Frag) : Nat → Sp
  | 0 => fun _ _ _ _ => False
  | n + 1 => fun vs H Q _ => ∃ (d g c : Addr) (m e : Nat), vs = [.ref d, intV e] ∧ 1 ≤ e ∧ e ≤ n + 1 ∧ e ≤ 1000 ∧ DrawSt H d g c m ∧ m + e ≤ 2 ^ 40 ∧
      ∀ (H' : Hp) (v : V) (k : Kd) (m' : Nat), KdAt K H' v k → k.ends = e → DrawSt H' d g c m' → m' + 1 ≤ m + e → Dr d g H H' → Q v H'
section
variable {P : Program} {w : World} {K : PySem.W.Frag} {mg : Str → Option Value} {base : Heap} {tA BK BE HE : Addr}
theorem sc_any_kind : FnScope ["state", "ends", "first"] ["state", "ends"] (defScope s_any_kind) := ⟨rfl, rfl, rfl, by decide +kernel, rfl, by decide +kernel, by decide +kernel⟩
theorem ok_any_kind {f f1 : Addr} {fd fd1 : FuncData} (F : Fun K "_law_any_kind" "_law_any_kind" s_any_kind f fd) (gA : mg "_law_any_kind" = some (.ref f)) (kA : PySem.W.keepIn K (.ref f) = true) (bA : Binds K fd ["state", "ends"] [])
    (G1 : FnOk P w K mg base CX0 2 f1 fd1 ["state", "room"] spDraw) (g1 : mg "_law_draw" = some (.ref f1)) (k1 : PySem.W.keepIn K (.ref f1) = true) (b1 : Binds K fd1 ["state", "room"] []) :
    ∀ n : Nat, FnOk P w K mg base CX0 (n + 2) f fd ["state", "ends"] (spAnyK K n) := by
  intro n
  induction n with
  | zero => exact ⟨fun _ _ _ _ h => h.elim, fun _ _ _ _ _ _ _ _ _ _ _ _ _ h => h.elim⟩
  | succ n G =>
    refine F.ok sc_any_kind (fun vs H Q E h => ?_) (fun cdv A outer s0 H vs Q E hr h => ?_)
    · obtain ⟨d, g, c, m, e, rfl, _⟩ := h
      rfl
    · obtain ⟨d, g, c, m, e, rfl, h1, hn, h1000, D, hm, q⟩ := h
      have hr2 : Room 2 _ := hr.mono (by omega)
      refine ⟨_, pss_cons (ps_if (pt_cmpR op_eq (pv 1) pe_int (nomark _)) (pss_one (ps_ret (pe_tup (pa_cons pe_str pa_nil)))) pss_nil)
        (pss_cons (ps_set (i := 2) sc_any_kind.nd rfl (Or.inl rfl) (pe_op op_add pe_int (by exact (pe_call G1 hr2 rfl g1 k1 b1 .nil pass0 (pa_cons (pv 0) (pa_cons (pe_op op_sub (pv 1) pe_int) pa_nil))))))
        (pss_one (ps_ret (pe_tup (pa_cons pe_str (pa_cons (by exact (pe_call G hr rfl gA kA bA .nil pass0 (pa_cons (pv 0) (pa_cons (pv 2) pa_nil))))
          (pa_cons (by exact (pe_call G hr rfl gA kA bA .nil pass0 (pa_cons (pv 0) (pa_cons (pe_op op_sub (pv 1) (pv 2)) pa_nil)))) pa_nil))))))), ?_⟩
      refine ⟨_, rfl, rfl, _, rfl, ?_⟩
      by_cases he : e = 1
      · subst he
        refine iteBT (decide_eq_true rfl) ?_
        refine ⟨by show 1 ≤ sizeLine; decide, fun p hp => ?_⟩
        exact q _ _ .text m ⟨p, rfl, .inl (.inl upd_same)⟩ rfl (D.same (same_new hp)) (Nat.le_refl _) (.of (same_new hp))
      · refine iteBF (decide_eq_false (fun z => by have z := V.int.inj z; omega)) ?_
        refine ⟨_, rfl, _, rfl, _, _, rfl, rfl, d, g, c, m, (e : Int) - 1, rfl, D, by omega, by omega, by omega, fun H1 z z0 z1 D1 dr1 => ?_⟩
        have dr1 : Dr d g H H1 := dr1
        obtain ⟨j, rfl⟩ := Int.eq_ofNat_of_zero_le z0
        have e1 : V.int (1 + (j : Int)) = intV (1 + j) := by
          unfold intV
          congr 1
        refine ⟨_, _, rfl, rfl, ?_⟩
        obtain ⟨n', rfl⟩ : ∃ n', n = n' + 1 := ⟨n - 1, by omega⟩
        refine ⟨_, rfl, _, rfl, d, g, c, m + 1, 1 + j, by show [V.ref d, V.int (1 + (j : Int))] = _; rw [e1], by omega, by omega, by omega, D1, by omega, fun H2 x a m2 hx ea D2 h2 dr2 => ?_⟩
        have e2 : V.int ((e : Int) - (1 + (j : Int))) = intV (e - (1 + j)) := by
          unfold intV
          congr 1
          omega
        refine ⟨_, rfl, _, rfl, _, rfl, _, _, rfl, rfl, d, g, c, m2, e - (1 + j), by show [V.ref d, V.int ((e : Int) - (1 + (j : Int)))] = _; rw [e2], by omega, by omega, by omega, D2, by omega, fun H3 y b m3 hy eb D3 h3 dr3 => ?_⟩
        refine ⟨by show 3 ≤ sizeLine; decide, fun p hp => ?_⟩
        have S4 : Same H3 (upd H3 p (.tup [.str "to", x, y])) := same_new hp
        refine q _ _ (.to a b) m3 ⟨p, x, y, rfl, .inl (.inl upd_same), (hx.same (dr3.tups D2)).same (SameT.of S4), hy.same (SameT.of S4)⟩ ?_ (D3.same S4) (by omega) (dr1.trans (dr2.trans (dr3.trans (.of S4))))
        show a.ends + b.ends = e
        omega
end
/-! ### _law_order -/
abbrev s_lorder : Stmt := top 34
section
variable {P : Program} {w : World} {K : PySem.W.Frag} {mg : Str → Option Value} {base : Heap} {tA BK BE HE : Addr}
theorem sc_lorder : FnScope ["kind", "one"] ["kind"] (defScope s_lorder) := ⟨rfl, rfl, rfl, by decide +kernel, rfl, by decide +kernel, by decide +kernel⟩
theorem ord_max {k : Kd} {m : Int} (hm : m ∈ (0 : Int) :: ((args k).map fun x => 1 + (ordK x : Int))) (hy : ∀ y ∈ (0 : Int) :: ((args k).map fun x => 1 + (ordK x : Int)), y ≤ m) : m = (ordK k : Nat) := by
  have h0 : (0 : Int) ≤ m := hy 0 List.mem_cons_self
  rcases text_or k with rfl | ⟨a, b, rfl⟩
  · rcases List.mem_cons.mp hm with h | h
    · rw [h]
      rfl
    · cases h
  · obtain ⟨x, hx, e⟩ := ord_at (.to a b) (fun z => nomatch z)
    have h2 := hy (1 + (ordK x : Int)) (List.mem_cons_of_mem _ (List.mem_map.mpr ⟨x, hx, rfl⟩))
    rcases List.mem_cons.mp hm with h | h
    · omega
    · obtain ⟨z, hz, rfl⟩ := List.mem_map.mp h
      have h1 := ord_le _ z hz
      omega
theorem ok_lorder {f f1 : Addr} {fd fd1 : FuncData} (F : Fun K "_law_order" "_law_order" s_lorder f fd) (zm : mg "max" = none) (gA : mg "_law_order" = some (.ref f)) (kA : PySem.W.keepIn K (.ref f) = true) (bA : Binds K fd ["kind"] [])
    (G1 : FnOk P w K mg base CX0 1 f1 fd1 ["kind"] (spWanted K)) (g1 : mg "_law_oh_wanted" = some (.ref f1)) (k1 : PySem.W.keepIn K (.ref f1) = true) (b1 : Binds K fd1 ["kind"] []) :
    ∀ n : Nat, FnOk P w K mg base CX0 (n + 1) f fd ["kind"] (spOrd K n) := by
  intro n
  induction n with
  | zero => exact ⟨fun _ _ _ _ h => h.elim, fun _ _ _ _ _ _ _ _ _ _ _ _ _ h => h.elim⟩
  | succ n G =>
    refine F.ok sc_lorder (fun vs H Q E h => ?_) (fun cdv A outer s0 H vs Q E hr h => ?_)
    · obtain ⟨v, k, rfl, _⟩ := h
      rfl
    · obtain ⟨v, k, rfl, hk, hdp, h60, q⟩ := h
      have hr1 : Room 1 _ := hr.mono (by omega)
      refine ⟨_, pss_one (ps_ret (by exact (pe_callB (cr_max rfl) (by rfl) zm (by decide +kernel) (pa_cons (by exact (pe_op op_cat (pe_lst (pa_cons pe_int pa_nil)) (by exact (pe_lc (own := [("one", 1)]) (g := gName 1) (te := tOp (rI0 fun i j => V.int (i + j)) (tC (.int 1)) (tCall (spOrd K n) [] E0 (tCons (tVar 1) tNil))) rfl sc_lorder.nd (pi_list (pe_call G1 hr1 rfl g1 k1 b1 .nil pass0 (pa_cons (pv 0) pa_nil)))
          (blkOk_by (own := [("one", 1)]) (N := ["kind", "one"]) (sc := defScope s_lorder) (by decide +kernel)) (fun _ _ _ _ _ => pg_name (i := 1) sc_lorder.nd rfl (Or.inl rfl)) (fun _ _ _ _ _ => pts_nil) (fun _ _ _ _ _ => by exact pe_op op_add pe_int (pe_call G hr rfl gA kA bA .nil pass0 (pa_cons (pv 1) pa_nil))))))) pa_nil)))), ?_⟩
      refine ⟨by show 1 ≤ sizeLine; decide, fun l0 hl0 => ?_⟩
      have S0 := (same_new hl0 : Same H (upd H l0 (.lst [.int 0])))
      refine ⟨_, rfl, v, k, rfl, hk.same (SameT.of S0), h60, fun H1 l1 ws S1 nl1 hl1 hw => ?_⟩
      refine ⟨l1, rfl, ⟨_, SqL.of hl1⟩, fun D hD => ?_⟩
      refine lc_list (K := K) (a := l1) (xs := ws) (fun i H' => Same H1 H' ∧ H' D = some (.lst (((args k).take i).map fun x => V.int (1 + (ordK x : Int))))) ⟨same_new hD, upd_same⟩ (fun i H' _ e => e.1.seq (SqL.of hl1)) ?_ ?_
      · rintro i x H' hx ⟨S2, hD2⟩
        obtain ⟨c, hc, hxc⟩ := hw.get hx
        have hcm := List.mem_of_getElem? hc
        have dc := args_deep _ c hcm
        have ec := args_ends _ c hcm
        have pc : 1 ≤ c.deep := by cases c <;> simp only [Kd.deep] <;> omega
        obtain ⟨n', rfl⟩ : ∃ n', n = n' + 1 := ⟨n - 1, by omega⟩
        refine ⟨rfl, ?_⟩
        dsimp only [tYes]
        refine iteT ?_
        refine ⟨_, rfl, x, c, rfl, hxc.same (SameT.of S2), by omega, by omega, fun H3 S3 => ?_⟩
        refine ⟨_, _, rfl, rfl, _, S3 _ _ hD2, ?_, ?_, ?_⟩
        · have := args_len k
          simp only [List.length_map, List.length_take]
          exact small1000 (by omega)
        · intro b' o e
          rw [upd_ne (ne_of_none e hD)]
          exact S3 _ _ (S2 _ _ e)
        · rw [upd_same, List.take_add_one, hc, List.map_append]
          rfl
      · rintro H' ⟨S2, hD2⟩
        rw [hw.len, List.take_length] at hD2
        have h0 : H' l0 = some (.lst [.int 0]) := S2 _ _ (S1 _ _ upd_same)
        refine ⟨l0, D, _, _, rfl, rfl, h0, hD2, ?_, fun z hz => ?_⟩
        · have := args_len k
          simp only [List.length_map, List.length_cons, List.length_nil]
          exact Nat.le_of_lt (small1000 (by omega))
        have S3 := (same_new hz : Same H' (upd H' z (.lst ([.int 0] ++ (args k).map fun x => V.int (1 + (ordK x : Int))))))
        refine ⟨z, (0 : Int) :: ((args k).map fun x => 1 + (ordK x : Int)), rfl, SqL.of ?_, by simp, fun m hm hy => ?_⟩
        · rw [upd_same, List.map_cons, List.map_map]
          rfl
        · rw [ord_max hm hy]
          exact q _ (S0.trans (S1.trans (S2.trans S3)))
end
end My
set_option Elab.async false
set_option linter.all false
set_option maxRecDepth 100000
set_option maxHeartbeats 4000000
namespace My
open PySem L2 Kn
/-! ### _law_oh_counted, _law_oh_is_kind -/
def isStr : PyData → Bool
  | .str _ => true
  | _ => false
def isIntB : PyData → Bool
  | .bool _ => true
  | .int _ => true
  | _ => false
theorem kit_str {K : PySem.W.Frag} : ∀ d : PyData, PySem.W.kitOne K (.type (tyName d)) (.type "str") = some (isStr d)
  | .none => (kit_ty (by decide +kernel) : PySem.W.kitOne K (.type "NoneType") (.type "str") = some false)
  | .bool _ => (kit_ty (by decide +kernel) : PySem.W.kitOne K (.type "bool") (.type "str") = some false)
  | .int _ => (kit_ty (by decide +kernel) : PySem.W.kitOne K (.type "int") (.type "str") = some false)
  | .str _ => (kit_ty (by decide +kernel) : PySem.W.kitOne K (.type "str") (.type "str") = some true)
  | .list _ => (kit_ty (by decide +kernel) : PySem.W.kitOne K (.type "list") (.type "str") = some false)
  | .tuple _ => (kit_ty (by decide +kernel) : PySem.W.kitOne K (.type "tuple") (.type "str") = some false)
  | .dict _ => (kit_ty (by decide +kernel) : PySem.W.kitOne K (.type "dict") (.type "str") = some false)
theorem kit_int {K : PySem.W.Frag} : ∀ d : PyData, PySem.W.kitOne K (.type (tyName d)) (.type "int") = some (isIntB d)
  | .none => (kit_ty (by decide +kernel) : PySem.W.kitOne K (.type "NoneType") (.type "int") = some false)
  | .bool _ => (kit_ty (by decide +kernel) : PySem.W.kitOne K (.type "bool") (.type "int") = some true)
  | .int _ => (kit_ty (by decide +kernel) : PySem.W.kitOne K (.type "int") (.type "int") = some true)
  | .str _ => (kit_ty (by decide +kernel) : PySem.W.kitOne K (.type "str") (.type "int") = some false)
  | .list _ => (kit_ty (by decide +kernel) : PySem.W.kitOne K (.type "list") (.type "int") = some false)
  | .tuple _ => (kit_ty (by decide +kernel) : PySem.W.kitOne K (.type "tuple") (.type "int") = some false)
  | .dict _ => (kit_ty (by decide +kernel) : PySem.W.kitOne K (.type "dict") (.type "int") = some false)
theorem canAll_of {xs : List PyData} (h : ∀ d ∈ xs, OkD d) : PyData.canLayAll0 xs = true := by
  induction xs with
  | nil => rfl
  | cons x r ih =>
    simp only [PyData.canLayAll0, Bool.and_eq_true]
    exact ⟨h x List.mem_cons_self, ih fun d hd => h d (List.mem_cons_of_mem _ hd)⟩
theorem okD_list {xs : List PyData} (h : ∀ d ∈ xs, OkD d) : OkD (.list xs) := by
  unfold OkD
  simp only [PyData.canLay0]
  exact canAll_of h
theorem okD_tuple {xs : List PyData} (h : ∀ d ∈ xs, OkD d) : OkD (.tuple xs) := by
  unfold OkD
  simp only [PyData.canLay0]
  exact canAll_of h
theorem min_empty (d : PyData) : min d.depth (PyData.list []).depth ≤ 64 := by
  have h : (PyData.list []).depth = 1 := by simp only [PyData.depth, PyData.depthAll]
  rw [h]
  omega
theorem min_unit (d : PyData) : min d.depth (PyData.tuple []).depth ≤ 64 := by
  have h : (PyData.tuple []).depth = 1 := by simp only [PyData.depth, PyData.depthAll]
  rw [h]
  omega
theorem eqv_list_nil (ds : List PyData) : PyData.eqv (.list ds) (.list []) = ds.isEmpty := by
  cases ds <;> simp [PyData.eqv, PyData.eqvAll]
theorem eqv_tuple_nil (ds : List PyData) : PyData.eqv (.tuple ds) (.tuple []) = ds.isEmpty := by
  cases ds <;> simp [PyData.eqv, PyData.eqvAll]
theorem none_of_same {H H' : Hp} (e : Same H H') {b : Addr} (h : H' b = none) : H b = none := by
  cases q : H b with
  | none => rfl
  | some o =>
    rw [e _ _ q] at h
    cases h
abbrev s_counted : Stmt := top 31
def spCounted (K : PySem.W.Frag) : Sp := fun vs H Q _ => ∃ (v : V) (d : PyData), vs = [v, .int 60] ∧ Dp K H v d ∧ OkD d ∧ (isKd d = true → ∀ (n : Int) (H' : Hp), Same H H' → Q (.int n) H') ∧ (isKd d = false → ∀ H', Same H H' → Q .non H')
def WCtd (K : PySem.W.Frag) (H : Hp) (v : V) (R : Bool) (m : Nat) (σ : St) (H' : Hp) : Prop := ∃ (e : Nat) (q : Addr) (vs : List V) (ds : List PyData) (o4 : Option V),
  σ = [some v, some (.int 60), some (.ref q), some (intV e), o4] ∧ Same H H' ∧ H q = none ∧ H' q = some (.lst vs) ∧ DpAll K H vs ds ∧ (∀ d ∈ ds, OkD d) ∧ ans e ds = R ∧ e + ds.length ≤ 61 ∧ (ds = [] → e ≤ 60) ∧ m = (ds.map sizeOf).sum
section
variable {P : Program} {w : World} {K : PySem.W.Frag} {mg : Str → Option Value} {base : Heap} {tA BK BE HE : Addr}
theorem sc_counted : FnScope ["thing", "room", "todo", "many", "one"] ["thing", "room"] (defScope s_counted) := ⟨rfl, rfl, rfl, by decide +kernel, rfl, by decide +kernel, by decide +kernel⟩
theorem ok_counted {f : Addr} {fd : FuncData} (F : Fun K "_law_oh_counted" "_law_oh_counted" s_counted f fd) (zi : mg "isinstance" = none) (zt : mg "tuple" = none) (zs : mg "str" = none) (zl : mg "len" = none) : FnOk P w K mg base CX0 1 f fd ["thing", "room"] (spCounted K) := by
  refine F.ok sc_counted (fun vs H Q E h => ?_) (fun cdv A outer s0 H vs Q E hr h => ?_)
  · obtain ⟨v, d, rfl, _⟩ := h
    rfl
  · obtain ⟨v, d, rfl, hd, hok, kT, kF⟩ := h
    refine ⟨_, pss_cons (ps_par (i := 2) (j := 3) rfl sc_counted.nd rfl rfl (by decide) rfl rfl (pa_cons (pe_lst (pa_cons (pv 0) pa_nil)) (pa_cons pe_int pa_nil)) (by rfl))
      (pss_cons (ps_while PassesOwn.never (pt_cmpR (op_neN hr.units) (pv 2) (by exact (pe_lst pa_nil)) (nomark _))
        (pss_cons (ps_set (i := 4) sc_counted.nd rfl (Or.inl rfl) (pe_bm0 PySem.F.plainAttrs_list PySem.F.slot_list_pop PySem.F.type_list_pop mt_pop (pv 2)))
        (pss_cons (ps_if (PW.pt (pw_or (pt_not (pt_val (by exact (pe_callB call_isi (by rfl) zi (by decide +kernel) (pa_cons (pv 4) (pa_cons (pe_bltn (v := .ty "tuple") rfl zt (by decide +kernel) rfl) pa_nil))))))
            (pw_or (pt_cmpR (op_eqN hr.units) (pv 4) (by exact (pe_tup pa_nil)) (nomark _))
            (pw_or (pt_not (pt_val (by exact (pe_callB call_isi (by rfl) zi (by decide +kernel) (pa_cons (by exact (pe_ix ix_tup (pv 4) pe_int (fun _ _ => rfl))) (pa_cons (pe_bltn (v := .ty "str") rfl zs (by decide +kernel) rfl) pa_nil))))))
            (pw_or1 (pt_cmpR op_ge (pe_op op_add (pv 3) (by exact (pe_callB call_len (by rfl) zl (by decide +kernel) (pa_cons (pv 2) pa_nil)))) (pv 1) (nomark _)))))))
          (pss_one (ps_ret pe_non)) pss_nil)
        (pss_one (ps_if (PW.pt (pw_and (pt_cmpR op_eq (by exact (pe_ix ix_tup (pv 4) pe_int (fun _ _ => rfl))) pe_str (nomark _)) (pw_and1 (pt_cmpR op_eq (by exact (pe_callB call_len (by rfl) zl (by decide +kernel) (pa_cons (pv 4) pa_nil))) pe_int (nomark _)))))
          (pss_one (ps_set (i := 3) sc_counted.nd rfl (Or.inl rfl) (pe_op op_add (pv 3) pe_int)))
          (pss_one (ps_if (PW.pt (pw_and (pt_cmpR op_eq (by exact (pe_ix ix_tup (pv 4) pe_int (fun _ _ => rfl))) pe_str (nomark _)) (pw_and1 (pt_cmpR op_eq (by exact (pe_callB call_len (by rfl) zl (by decide +kernel) (pa_cons (pv 4) pa_nil))) pe_int (nomark _)))))
            (pss_one (ps_set (i := 2) sc_counted.nd rfl (Or.inl rfl) (pe_op op_cat (pv 2) (by exact (pe_lst (pa_cons (by exact (pe_ix ix_tup (pv 4) pe_int (fun _ _ => rfl))) (pa_cons (by exact (pe_ix ix_tup (pv 4) pe_int (fun _ _ => rfl))) pa_nil)))))))
            (pss_one (ps_ret pe_non)))))))))
      (pss_one (ps_ret (pv 3)))), ?_⟩
    refine ⟨_, rfl, by show 1 ≤ sizeLine; decide, fun q hq => ⟨_, _, rfl, ?_⟩⟩
    refine ⟨WCtd K H v (isKd d), ⟨_, 0, q, [v], [d], none, rfl, same_new hq, hq, upd_same, .cons hd .nil, fun x hx => by rw [List.mem_singleton.mp hx]; exact hok, ans_start d, (by simp), (fun z => nomatch z), rfl⟩, ?_⟩
    rintro m σ H' ⟨e, q, vs, ds, o4, rfl, S, hqn, hL, hD, hO, ha, he, he0, rfl⟩
    have S' : ∀ {z : Addr} {o : HO}, H' z = none → Same H (upd H' z o) := fun h => S.trans (same_new h)
    have stop : isKd d = false → ∀ {H2 : Hp}, Same H H2 → Q .non H2 := fun h H2 s => kF h H2 s
    refine ⟨_, rfl, Nat.zero_le _, fun z hz => ?_⟩
    have Sz : Same H' (upd H' z (.lst [])) := same_new hz
    have SHz := S.trans Sz
    have hLz := Sz _ _ hL
    have hzz : (upd H' z (.lst [])) z = some (.lst []) := upd_same
    revert Sz SHz hLz hzz
    generalize upd H' z (.lst []) = Hz
    intro Sz SHz hLz hzz
    refine ⟨.list ds, .list [], .lst (SqL.of hLz) (dpAll_same SHz hD), .lst (SqL.of hzz) .nil, okD_list hO, okD_list (fun _ h => nomatch h), min_empty _, _, rfl, ?_⟩
    rw [eqv_list_nil]
    rcases nil_or_snoc vs with rfl | ⟨vs', x, rfl⟩
    · cases hD
      refine iteF ?_
      have e60 := he0 rfl
      rw [ans_done e e60] at ha
      exact ⟨_, rfl, kT ha.symm _ _ SHz⟩
    · obtain ⟨ds', dx, rfl, hD', hx⟩ := dpAll_unsnoc hD
      have hox : OkD dx := hO dx (by simp)
      have hO' : ∀ y ∈ ds', OkD y := fun y hy => hO y (by simp [hy])
      rw [List.length_append] at he
      have he : e + (ds'.length + 1) ≤ 61 := he
      have hel := dpAll_len hD'
      rw [if_pos (show (!(ds' ++ [dx]).isEmpty) = true by simp)]
      refine ⟨fun σ' H'' => ∃ m', m' < ((ds' ++ [dx]).map sizeOf).sum ∧ WCtd K H v (isKd d) m' σ' H'', fun _ _ h => h, ?_⟩
      -- one = todo.pop()
      refine ⟨_, rfl, .inl ⟨rfl, _, SqL.of hLz⟩, q, _, x, rfl, rfl, hLz, seqLast _ _, ?_⟩
      rw [List.dropLast_concat]
      have S1 : Same H (upd Hz q (.lst vs')) := fun b o eb => by
        rw [upd_ne (ne_of_none eb hqn)]
        exact SHz _ _ eb
      have hL1 : (upd Hz q (.lst vs')) q = some (.lst vs') := upd_same
      revert S1 hL1
      generalize upd Hz q (.lst vs') = H1
      intro S1 hL1
      -- not a tuple
      refine ⟨_, rfl, x, .ty "tuple", _, _, isTup dx, rfl, .ty _, tyX_dp (dp_same S1 hx), kit_tuple dx, _, rfl, ?_⟩
      have no : dx ≠ .tuple [.str "text"] → (∀ y z, dx ≠ .tuple [.str "to", y, z]) → isKd d = false := fun h1 h2 => by
        rw [← ha]
        exact ans_no e ds' dx h1 h2
      cases hx with
      | non => exact iteT (iteT (stop (no (fun z => nomatch z) (fun _ _ z => nomatch z)) S1))
      | bl _ => exact iteT (iteT (stop (no (fun z => nomatch z) (fun _ _ z => nomatch z)) S1))
      | int _ => exact iteT (iteT (stop (no (fun z => nomatch z) (fun _ _ z => nomatch z)) S1))
      | str _ => exact iteT (iteT (stop (no (fun z => nomatch z) (fun _ _ z => nomatch z)) S1))
      | lst _ _ => exact iteT (iteT (stop (no (fun z => nomatch z) (fun _ _ z => nomatch z)) S1))
      | @tup a xs items hT hA =>
        refine iteF ?_
        -- the empty tuple
        refine ⟨_, rfl, Nat.zero_le _, fun u hu => ?_⟩
        have Su : Same H1 (upd H1 u (.tup [])) := same_new hu
        have S2 := S1.trans Su
        have hL2 := Su _ _ hL1
        have huu : (upd H1 u (.tup [])) u = some (.tup []) := upd_same
        revert S2 hL2 huu
        generalize upd H1 u (.tup []) = H2
        intro S2 hL2 huu
        have hT2 := seqT_same S2 hT
        refine ⟨.tuple items, .tuple [], .tup hT2 (dpAll_same S2 hA), .tup (.inl (.inl huu)) .nil, hox, okD_tuple (fun _ h => nomatch h), min_unit _, _, rfl, ?_⟩
        rw [eqv_tuple_nil]
        cases hA with
        | nil => exact iteT (iteT (stop (no (fun z => nomatch z) (fun _ _ z => nomatch z)) S2))
        | @cons w0 wr i0 ir h0 hAr =>
        refine iteF ?_
        -- its first item no text
        refine ⟨_, rfl, a, _, _, w0, rfl, rfl, hT2, atI_nat (j := 0) rfl, w0, .ty "str", _, _, isStr i0, rfl, .ty _, tyX_dp (dp_same S2 h0), kit_str i0, _, rfl, ?_⟩
        have len1 := dpAll_len hAr
        cases h0 with
        | non => exact iteT (iteT (stop (no (fun z => nomatch z) (fun _ _ z => nomatch z)) S2))
        | bl _ => exact iteT (iteT (stop (no (fun z => nomatch z) (fun _ _ z => nomatch z)) S2))
        | int _ => exact iteT (iteT (stop (no (fun z => nomatch z) (fun _ _ z => nomatch z)) S2))
        | lst _ _ => exact iteT (iteT (stop (no (fun z => nomatch z) (fun _ _ z => nomatch z)) S2))
        | tup _ _ => exact iteT (iteT (stop (no (fun z => nomatch z) (fun _ _ z => nomatch z)) S2))
        | str word =>
        refine iteF ?_
        -- too many
        refine ⟨_, rfl, _, rfl, _, _, rfl, .inl ⟨_, SqL.of hL2, rfl⟩, _, _, rfl, rfl, _, rfl, _, _, rfl, rfl, _, rfl, ?_⟩
        refine ite2 (fun hc => ?_) (fun hc => ?_)
        · have hc := of_decide_eq_true hc
          have hc : (60 : Int) ≤ (e : Int) + ((vs'.length : Nat) : Int) := hc
          refine stop ?_ S2
          rw [← ha]
          refine ans_many _ _ ?_
          rw [List.length_append]
          show 60 < e + (ds'.length + 1)
          omega
        have hc : ¬ (60 : Int) ≤ (e : Int) + ((vs'.length : Nat) : Int) := fun z => hc (decide_eq_true z)
        have h59 : e + ds'.length ≤ 59 := by omega
        have hTn : SqT K H2 a (.str word :: wr) := hT2
        have last : (word = "to" → wr.length ≠ 2) → ((word = "text") → wr.length ≠ 0) → isKd d = false := fun k1 k2 => by
          refine no (fun z => ?_) (fun y z q => ?_)
          · injection z with z
            injection z with z1 z2
            injection z1 with z1
            exact k2 z1 (by rw [len1, z2]; rfl)
          · injection q with q
            injection q with q1 q2
            injection q1 with q1
            exact k1 q1 (by rw [len1, q2]; rfl)
        by_cases hw : word = "text"
        · subst hw
          refine ⟨_, rfl, a, _, _, _, rfl, rfl, hTn, atI_nat (j := 0) rfl, rfl, _, rfl, ?_⟩
          refine iteBT (decide_eq_true rfl) ?_
          refine ⟨_, rfl, _, _, rfl, .inr ⟨_, hTn, rfl⟩, rfl, _, rfl, ?_⟩
          by_cases hl : wr.length = 0
          · have hn := List.eq_nil_of_length_eq_zero hl
            subst hn
            cases hAr
            refine iteBT (decide_eq_true rfl) ?_
            rw [ans_text] at ha
            refine ⟨_, rfl, _, _, rfl, rfl, (ds'.map sizeOf).sum, ?_, e + 1, q, vs', ds', some (.ref a), rfl, S2, hqn, hL2, hD', hO', ha, by omega, fun z => by omega, rfl⟩
            simp only [List.map_append, List.sum_append, List.map_cons, List.map_nil, List.sum_cons, List.sum_nil]
            have := sz_pos (.tuple [.str "text"])
            omega
          · refine iteBF (decide_eq_false (fun z => hl ?_)) ?_
            · have z := V.int.inj z
              rw [List.length_cons] at z
              omega
            refine ⟨_, rfl, a, _, _, _, rfl, rfl, hTn, atI_nat (j := 0) rfl, rfl, _, rfl, ?_⟩
            refine iteBF (decide_eq_false str_ne') (iteF ?_)
            exact stop (last (fun z => absurd z (by decide +kernel)) fun _ => hl) S2
        · refine ⟨_, rfl, a, _, _, _, rfl, rfl, hTn, atI_nat (j := 0) rfl, rfl, _, rfl, ?_⟩
          refine iteBF (decide_eq_false (fun z => hw (V.str.inj z))) (iteF ?_)
          by_cases hw2 : word = "to"
          · subst hw2
            refine ⟨_, rfl, a, _, _, _, rfl, rfl, hTn, atI_nat (j := 0) rfl, rfl, _, rfl, ?_⟩
            refine iteBT (decide_eq_true rfl) ?_
            refine ⟨_, rfl, _, _, rfl, .inr ⟨_, hTn, rfl⟩, rfl, _, rfl, ?_⟩
            by_cases hl : wr.length = 2
            · refine iteBT (decide_eq_true (by rw [List.length_cons, hl]; rfl)) ?_
              cases hAr with
              | nil => cases hl
              | @cons w1 wr1 d1 dr1 a1 hAr1 =>
                cases hAr1 with
                | nil => cases hl
                | @cons w2 wr2 d2 dr2 a2 hAr2 =>
                  cases hAr2 with
                  | cons _ _ => simp at hl
                  | nil =>
                    rw [ans_to] at ha
                    refine ⟨_, rfl, _, rfl, a, _, _, w2, rfl, rfl, hTn, atI_nat (j := 2) rfl, _, rfl, a, _, _, w1, rfl, rfl, hTn, atI_nat (j := 1) rfl, by show 2 ≤ sizeLine; decide, fun L hLn => ?_⟩
                    have S3 := (same_new hLn : Same H2 (upd H2 L (.lst [w2, w1])))
                    refine ⟨q, L, _, _, rfl, rfl, S3 _ _ hL2, upd_same, ?_, fun z hzn => ?_⟩
                    · show vs'.length + 2 ≤ sizeLine
                      exact Nat.le_of_lt (small1000 (by omega))
                    have S4 := (same_new hzn : Same (upd H2 L (.lst [w2, w1])) (upd (upd H2 L (.lst [w2, w1])) z (.lst (vs' ++ [w2, w1]))))
                    refine ⟨((ds' ++ [d2] ++ [d1]).map sizeOf).sum, ?_, e, z, vs' ++ [w2, w1], ds' ++ [d2] ++ [d1], some (.ref a), rfl, S2.trans (S3.trans S4), none_of_same (S2.trans S3) hzn, upd_same, ?_, fun y hy => ?_, ha, ?_, fun z => ?_, rfl⟩
                    · simp only [List.map_append, List.sum_append, List.map_cons, List.map_nil, List.sum_cons, List.sum_nil]
                      have := sz_to d1 d2
                      omega
                    · rw [show vs' ++ [w2, w1] = vs' ++ [w2] ++ [w1] by simp]
                      exact dpAll_snoc (dpAll_snoc hD' a2) a1
                    · rcases List.mem_append.mp hy with hy | hy
                      · rcases List.mem_append.mp hy with hy | hy
                        · exact hO' y hy
                        · rw [List.mem_singleton.mp hy]
                          exact okD_items hox (by simp)
                      · rw [List.mem_singleton.mp hy]
                        exact okD_items hox (by simp)
                    · rw [List.length_append, List.length_append]
                      show e + (ds'.length + 1 + 1) ≤ 61
                      omega
                    · have := congrArg List.length z
                      rw [List.length_append] at this
                      simp at this
            · refine iteBF (decide_eq_false (fun z => hl ?_)) ?_
              · have z := V.int.inj z
                rw [List.length_cons] at z
                omega
              exact stop (last (fun _ => hl) (fun z => absurd z (by decide +kernel))) S2
          · refine ⟨_, rfl, a, _, _, _, rfl, rfl, hTn, atI_nat (j := 0) rfl, rfl, _, rfl, ?_⟩
            refine iteBF (decide_eq_false (fun z => hw2 (V.str.inj z))) (iteF ?_)
            exact stop (last (fun z => absurd z hw2) (fun z => absurd z hw)) S2
abbrev s_is_kd : Stmt := top 32
theorem sc_is_kd : FnScope ["thing"] ["thing"] (defScope s_is_kd) := ⟨rfl, rfl, rfl, by decide +kernel, rfl, by decide +kernel, by decide +kernel⟩
theorem ok_is_kd {f f1 : Addr} {fd fd1 : FuncData} (F : Fun K "_law_oh_is_kind" "_law_oh_is_kind" s_is_kd f fd) (G1 : FnOk P w K mg base CX0 1 f1 fd1 ["thing", "room"] (spCounted K)) (g1 : mg "_law_oh_counted" = some (.ref f1)) (k1 : PySem.W.keepIn K (.ref f1) = true) (b1 : Binds K fd1 ["thing", "room"] []) :
    FnOk P w K mg base CX0 2 f fd ["thing"] (spIsKind K) := by
  refine F.ok sc_is_kd (fun vs H Q E h => ?_) (fun cdv A outer s0 H vs Q E hr h => ?_)
  · obtain ⟨v, d, rfl, _⟩ := h
    rfl
  · obtain ⟨v, d, rfl, hd, hok, k⟩ := h
    refine ⟨_, pss_one (ps_ret (by exact (pe_cmpR op_notN (by exact (pe_call G1 hr rfl g1 k1 b1 .nil pass0 (pa_cons (pv 0) (pa_cons pe_int pa_nil)))) pe_non (nomark _)))), ?_⟩
    refine ⟨_, rfl, v, d, rfl, hd, hok, fun e n H' S => ⟨rfl, ?_⟩, fun e H' S => ⟨rfl, ?_⟩⟩
    · have := k H' S
      rw [e] at this
      exact this
    · have := k H' S
      rw [e] at this
      exact this
end
end My
set_option Elab.async false
set_option linter.all false
set_option maxRecDepth 100000
set_option maxHeartbeats 4000000
namespace My
open PySem L2 Kn
/-! ### what stands in data: by paths -/
def atD : List Nat → PyData → Option PyData
  | [], x => some x
  | i :: r, .tuple xs => (xs[i]?).bind (atD r)
  | _ :: _, _ => none
theorem atD_app : ∀ (p r : List Nat) (x : PyData), atD (p ++ r) x = (atD p x).bind (atD r)
  | [], r, x => rfl
  | i :: p, r, .tuple xs => by
    show (xs[i]?).bind (atD (p ++ r)) = ((xs[i]?).bind (atD p)).bind (atD r)
    cases xs[i]? with
    | none => rfl
    | some y => exact atD_app p r y
  | _ :: _, _, .none => rfl
  | _ :: _, _, .bool _ => rfl
  | _ :: _, _, .int _ => rfl
  | _ :: _, _, .str _ => rfl
  | _ :: _, _, .list _ => rfl
  | _ :: _, _, .dict _ => rfl
theorem atD_ok : ∀ {p : List Nat} {x y : PyData}, OkD x → atD p x = some y → OkD y
  | [], x, y, h, e => by
    cases e
    exact h
  | i :: p, .tuple xs, y, h, e => by
    obtain ⟨z, hz, e⟩ := Option.bind_eq_some_iff.mp e
    exact atD_ok (okD_items h (List.mem_of_getElem? hz)) e
mutual
def spotsD : PyData → List Nat → List (List Nat)
  | .tuple xs, p => p :: spotsL xs p 0
  | .none, p => [p]
  | .bool _, p => [p]
  | .int _, p => [p]
  | .str _, p => [p]
  | .list _, p => [p]
  | .dict _, p => [p]
def spotsL : List PyData → List Nat → Nat → List (List Nat)
  | [], _, _ => []
  | x :: r, p, k => spotsD x (p ++ [k]) ++ spotsL r p (k + 1)
end
mutual
def nodesD : PyData → Nat
  | .tuple xs => 1 + nodesL xs
  | .none => 1
  | .bool _ => 1
  | .int _ => 1
  | .str _ => 1
  | .list _ => 1
  | .dict _ => 1
def nodesL : List PyData → Nat
  | [] => 0
  | x :: r => nodesD x + nodesL r
end
mutual
theorem spots_len : ∀ (x : PyData) (p : List Nat), (spotsD x p).length = nodesD x
  | .tuple xs, p => by
    rw [spotsD, nodesD, List.length_cons, spotsL_len xs p 0]
    omega
  | .none, p => rfl
  | .bool _, p => rfl
  | .int _, p => rfl
  | .str _, p => rfl
  | .list _, p => rfl
  | .dict _, p => rfl
theorem spotsL_len : ∀ (xs : List PyData) (p : List Nat) (k : Nat), (spotsL xs p k).length = nodesL xs
  | [], _, _ => rfl
  | x :: r, p, k => by rw [spotsL, nodesL, List.length_append, spots_len x _, spotsL_len r p (k + 1)]
end
theorem nodes_pos (x : PyData) : 1 ≤ nodesD x := by
  cases x <;> simp only [nodesD] <;> omega
theorem spotsL_snoc : ∀ (xs : List PyData) (x : PyData) (p : List Nat) (k : Nat), spotsL (xs ++ [x]) p k = spotsL xs p k ++ spotsD x (p ++ [k + xs.length])
  | [], x, p, k => by
    show spotsD x (p ++ [k]) ++ [] = [] ++ spotsD x (p ++ [k + 0])
    rw [List.append_nil]
    rfl
  | y :: r, x, p, k => by
    rw [List.cons_append, spotsL, spotsL, spotsL_snoc r x p (k + 1), List.append_assoc, List.length_cons, show k + 1 + r.length = k + (r.length + 1) by omega]
theorem nodesL_app : ∀ (a b : List PyData), nodesL (a ++ b) = nodesL a + nodesL b
  | [], b => (Nat.zero_add _).symm
  | x :: r, b => by
    rw [List.cons_append, nodesL, nodesL, nodesL_app r b]
    omega
theorem nodesL_take (xs : List PyData) (i : Nat) : nodesL (xs.take i) ≤ nodesL xs := by
  have := nodesL_app (xs.take i) (xs.drop i)
  rw [List.take_append_drop] at this
  omega
theorem nodesL_at {xs : List PyData} {i : Nat} {x : PyData} (h : xs[i]? = some x) : nodesL (xs.take i) + nodesD x ≤ nodesL xs := by
  have h1 := nodesL_take xs (i + 1)
  rw [List.take_add_one, h, nodesL_app] at h1
  simp only [Option.toList, nodesL] at h1
  omega
theorem nodesL_len : ∀ xs : List PyData, xs.length ≤ nodesL xs
  | [] => Nat.le_refl _
  | x :: r => by
    have h1 := nodesL_len r
    have h2 := nodes_pos x
    rw [nodesL, List.length_cons]
    omega
mutual
theorem spots_at : ∀ (x : PyData) (p q : List Nat), q ∈ spotsD x p → ∃ r y, q = p ++ r ∧ atD r x = some y
  | .tuple xs, p, q, h => by
    rw [spotsD] at h
    rcases List.mem_cons.mp h with rfl | h
    · exact ⟨[], _, (List.append_nil q).symm, rfl⟩
    · obtain ⟨j, r, z, y, h1, h2, h3⟩ := spotsL_at xs p 0 q h
      refine ⟨(0 + j) :: r, y, h1, ?_⟩
      show (xs[0 + j]?).bind (atD r) = some y
      rw [Nat.zero_add, h2]
      exact h3
  | .none, p, q, h => ⟨[], _, by rw [List.mem_singleton.mp (show q ∈ [p] from h), List.append_nil], rfl⟩
  | .bool _, p, q, h => ⟨[], _, by rw [List.mem_singleton.mp (show q ∈ [p] from h), List.append_nil], rfl⟩
  | .int _, p, q, h => ⟨[], _, by rw [List.mem_singleton.mp (show q ∈ [p] from h), List.append_nil], rfl⟩
  | .str _, p, q, h => ⟨[], _, by rw [List.mem_singleton.mp (show q ∈ [p] from h), List.append_nil], rfl⟩
  | .list _, p, q, h => ⟨[], _, by rw [List.mem_singleton.mp (show q ∈ [p] from h), List.append_nil], rfl⟩
  | .dict _, p, q, h => ⟨[], _, by rw [List.mem_singleton.mp (show q ∈ [p] from h), List.append_nil], rfl⟩
theorem spotsL_at : ∀ (xs : List PyData) (p : List Nat) (k : Nat) (q : List Nat), q ∈ spotsL xs p k → ∃ (j : Nat) (r : List Nat) (z y : PyData), q = p ++ (k + j) :: r ∧ xs[j]? = some z ∧ atD r z = some y
  | [], _, _, q, h => nomatch h
  | x :: xs, p, k, q, h => by
    rw [spotsL] at h
    rcases List.mem_append.mp h with h | h
    · obtain ⟨r, y, h1, h2⟩ := spots_at x (p ++ [k]) q h
      exact ⟨0, r, x, y, by rw [h1, List.append_assoc]; rfl, rfl, h2⟩
    · obtain ⟨j, r, z, y, h1, h2, h3⟩ := spotsL_at xs p (k + 1) q h
      exact ⟨j + 1, r, z, y, by rw [h1, show k + 1 + j = k + (j + 1) by omega], by simpa using h2, h3⟩
end
def putD : List Nat → PyData → PyData → PyData
  | [], _, y => y
  | i :: r, .tuple xs, y => .tuple (xs.take i ++ ((xs[i]?).map fun z => putD r z y).toList ++ xs.drop (i + 1))
  | _ :: _, x, _ => x
theorem putD_ok : ∀ {p : List Nat} {x y : PyData}, OkD x → OkD y → OkD (putD p x y)
  | [], _, _, _, h => h
  | i :: r, .tuple xs, y, hx, hy => by
    refine okD_tuple fun d hd => ?_
    rcases List.mem_append.mp hd with hd | hd
    · rcases List.mem_append.mp hd with hd | hd
      · exact okD_items hx (List.mem_of_mem_take hd)
      · cases e : xs[i]? with
        | none => rw [e] at hd; cases hd
        | some z =>
          rw [e] at hd
          rw [List.mem_singleton.mp (show d ∈ [putD r z y] from hd)]
          exact putD_ok (okD_items hx (List.mem_of_getElem? e)) hy
    · exact okD_items hx (List.mem_of_mem_drop hd)
  | _ :: _, .none, _, hx, _ => hx
  | _ :: _, .bool _, _, hx, _ => hx
  | _ :: _, .int _, _, hx, _ => hx
  | _ :: _, .str _, _, hx, _ => hx
  | _ :: _, .list _, _, hx, _ => hx
  | _ :: _, .dict _, _, hx, _ => hx
/-! ### _law_oh_at -/
abbrev s_oh_at : Stmt := top 26
/-- F: what is seen of the heap -/
def spAt (K : PySem.W.Frag) : Sp := fun vs H Q _ => ∃ (F : Hp) (v : V) (t : Addr) (x y : PyData) (p : List Nat), vs = [v, .ref t] ∧ Same F H ∧ Dp K F v x ∧ SqT K H t (p.map intV) ∧ atD p x = some y ∧ ∀ w, Dp K F w y → Q w H
section
variable {P : Program} {w : World} {K : PySem.W.Frag} {mg : Str → Option Value} {base : Heap} {tA BK BE HE : Addr}
theorem sc_oh_at : FnScope ["thing", "path", "k"] ["thing", "path"] (defScope s_oh_at) := ⟨rfl, rfl, rfl, by decide +kernel, rfl, by decide +kernel, by decide +kernel⟩
theorem ok_oh_at {f : Addr} {fd : FuncData} (F : Fun K "_law_oh_at" "_law_oh_at" s_oh_at f fd) : FnOk P w K mg base CX0 1 f fd ["thing", "path"] (spAt K) := by
  refine F.ok sc_oh_at (fun vs H Q E h => ?_) (fun cdv A outer s0 H vs Q E hr h => ?_)
  · obtain ⟨F', v, t, x, y, p, rfl, _⟩ := h
    rfl
  · obtain ⟨F', v, t, x, y, p, rfl, hF, hd, ht, hy, q⟩ := h
    refine ⟨_, pss_cons (ps_for PassesOwn.never rfl (pi_tup (pv 1)) (pg_name (i := 2) sc_oh_at.nd rfl (Or.inl rfl))
        (pss_one (ps_set (i := 0) sc_oh_at.nd rfl (Or.inl rfl) (by exact (pe_ix ix_tup (pv 0) (pv 2) (fun _ _ => rfl))))))
      (pss_one (ps_ret (pv 0))), ?_⟩
    refine ⟨_, rfl, t, rfl, ⟨_, ht⟩, ?_⟩
    refine for_it (walk_tup (K := K) (a := t) (xs := p.map intV)) (fun i σ H' => ∃ (u : V) (z : PyData) (o2 : Option V), σ = [some u, some (.ref t), o2] ∧ Dp K F' u z ∧ atD (p.take i) x = some z ∧ H' = H) ⟨v, x, none, rfl, hd, rfl, rfl⟩ (fun i σ H' _ ⟨_, _, _, _, _, _, e⟩ => by subst e; exact ht) ?_ ?_
    · rintro i k σ H1 H' hi ⟨u, z, o2, rfl, hu, ez, rfl⟩ ⟨rfl, hk⟩
      rw [List.getElem?_map] at hk
      obtain ⟨j, hj, rfl⟩ := Option.map_eq_some_iff.mp hk
      have e1 : p = p.take i ++ j :: p.drop (i + 1) := by
        rw [← get_drop hj, List.take_append_drop]
      have e2 : (atD (j :: p.drop (i + 1)) z) = some y := by
        rw [e1, atD_app, ez] at hy
        exact hy
      have e4 : p.take (i + 1) = p.take i ++ [j] := by rw [List.take_add_one, hj]; rfl
      cases hu with
      | non => cases e2
      | bl _ => cases e2
      | int _ => cases e2
      | str _ => cases e2
      | lst _ _ => cases e2
      | @tup a xs ds hT hA =>
        obtain ⟨z2, hz2, _⟩ := Option.bind_eq_some_iff.mp (show (ds[j]?).bind (atD (p.drop (i + 1))) = some y from e2)
        have hl := dpAll_len hA
        have hj' : j < xs.length := by
          have := (List.getElem?_eq_some_iff.mp hz2).1
          omega
        have hxj : xs[j]? = some xs[j] := List.getElem?_eq_getElem hj'
        obtain ⟨z3, hz3, hd3⟩ := dpAll_at hA hxj
        rw [hz2] at hz3
        cases hz3
        refine ⟨_, rfl, _, rfl, a, xs, _, xs[j], rfl, rfl, seqT_same hF hT, atI_nat hxj, ?_⟩
        refine ⟨xs[j], z2, some (intV j), rfl, hd3, ?_, rfl⟩
        rw [e4, atD_app, ez]
        show (ds[j]?).bind (atD []) = some z2
        rw [hz2]
        rfl
    · rintro σ H' ⟨u, z, o2, rfl, hu, ez, rfl⟩
      rw [List.length_map, List.take_length, hy] at ez
      cases ez
      exact ⟨_, rfl, q u hu⟩
end
/-! ### _law_oh_spots -/
abbrev s_oh_spots : Stmt := top 29
def PathAt (K : PySem.W.Frag) (H : Hp) (w : V) (p : List Nat) : Prop := ∃ t, w = .ref t ∧ SqT K H t (p.map intV)
def PathsAt (K : PySem.W.Frag) (H : Hp) : List V → List (List Nat) → Prop := Paired (PathAt K H)
theorem PathsAt.same {K : PySem.W.Frag} {H H' : Hp} (e : SameT H H') : ∀ {vs : List V} {ps : List (List Nat)}, PathsAt K H vs ps → PathsAt K H' vs ps
  | _, _, .nil => .nil
  | _, _, .cons ⟨t, h1, h2⟩ r => .cons ⟨t, h1, sameT_sq e h2⟩ (PathsAt.same e r)
theorem PathsAt.app {K : PySem.W.Frag} {H : Hp} : ∀ {vs ws : List V} {ps qs : List (List Nat)}, PathsAt K H vs ps → PathsAt K H ws qs → PathsAt K H (vs ++ ws) (ps ++ qs)
  | _, _, _, _, .nil, h => h
  | _, _, _, _, .cons a t, h => .cons a (PathsAt.app t h)
theorem PathsAt.len {K : PySem.W.Frag} {H : Hp} {vs : List V} {ps : List (List Nat)} (h : PathsAt K H vs ps) : vs.length = ps.length := Paired.length h
theorem PathsAt.get {K : PySem.W.Frag} {H : Hp} : ∀ {vs : List V} {ps : List (List Nat)} {i : Nat} {x : V}, PathsAt K H vs ps → vs[i]? = some x → ∃ p, ps[i]? = some p ∧ PathAt K H x p
  | _, _, i, x, .nil, h => by simp at h
  | _, _, 0, x, .cons a _, h => by
    cases h
    exact ⟨_, rfl, a⟩
  | _, _, i + 1, x, .cons _ t, h => by
    obtain ⟨k, e, q⟩ := PathsAt.get (i := i) t (by simpa using h)
    exact ⟨k, by simpa using e, q⟩
def spSpots (K : PySem.W.Frag) : Nat → Sp
  | 0 => fun _ _ _ _ => False
  | n + 1 => fun vs H Q _ => ∃ (v : V) (t : Addr) (x : PyData) (p : List Nat), vs = [v, .ref t] ∧ Dp K H v x ∧ SqT K H t (p.map intV) ∧ x.depth ≤ n ∧ p.length + n ≤ 900 ∧ nodesD x ≤ 900 ∧
      ∀ (H' : Hp) (l : Addr) (ws : List V), Same H H' → H l = none → H' l = some (.lst ws) → PathsAt K H' ws (spotsD x p) → Q (.ref l) H'
theorem depth_item {d : PyData} : ∀ {xs : List PyData}, d ∈ xs → d.depth ≤ PyData.depthAll xs
  | x :: r, hm => by
    simp only [PyData.depthAll]
    rcases List.mem_cons.mp hm with rfl | hm
    · omega
    · have := depth_item hm
      omega
section
variable {P : Program} {w : World} {K : PySem.W.Frag} {mg : Str → Option Value} {base : Heap} {tA BK BE HE : Addr}
theorem sc_oh_spots : FnScope ["thing", "path", "found", "k"] ["thing", "path"] (defScope s_oh_spots) := ⟨rfl, rfl, rfl, by decide +kernel, rfl, by decide +kernel, by decide +kernel⟩
theorem ok_oh_spots {f : Addr} {fd : FuncData} (F : Fun K "_law_oh_spots" "_law_oh_spots" s_oh_spots f fd) (zr : mg "range" = none) (zi : mg "isinstance" = none) (zt : mg "tuple" = none) (zl : mg "len" = none) (gA : mg "_law_oh_spots" = some (.ref f)) (kA : PySem.W.keepIn K (.ref f) = true) (bA : Binds K fd ["thing", "path"] []) :
    ∀ n : Nat, FnOk P w K mg base CX0 n f fd ["thing", "path"] (spSpots K n) := by
  intro n
  induction n with
  | zero => exact ⟨fun _ _ _ _ h => h.elim, fun _ _ _ _ _ _ _ _ _ _ _ _ _ h => h.elim⟩
  | succ n G =>
    refine F.ok sc_oh_spots (fun vs H Q E h => ?_) (fun cdv A outer s0 H vs Q E hr h => ?_)
    · obtain ⟨v, t, x, p, rfl, _⟩ := h
      rfl
    · obtain ⟨v, t, x, p, rfl, hd, ht, hdp, hpl, hn, q⟩ := h
      refine ⟨_, pss_cons (ps_set (i := 2) sc_oh_spots.nd rfl (Or.inl rfl) (pe_lst (pa_cons (pv 1) pa_nil)))
        (pss_cons (ps_for PassesOwn.never rfl (pi_range1 (by rfl) zr (pa_cons (by exact (pe_ifExp (pt_val (by exact (pe_callB call_isi (by rfl) zi (by decide +kernel) (pa_cons (pv 0) (pa_cons (pe_bltn (v := .ty "tuple") rfl zt (by decide +kernel) rfl) pa_nil))))) (by exact (pe_callB call_len (by rfl) zl (by decide +kernel) (pa_cons (pv 0) pa_nil))) pe_int)) pa_nil)) (pg_name (i := 3) sc_oh_spots.nd rfl (Or.inl rfl))
          (pss_one (ps_set (i := 2) sc_oh_spots.nd rfl (Or.inl rfl) (by exact (pe_op op_cat (pv 2) (by exact (pe_call G hr rfl gA kA bA .nil pass0 (pa_cons (by exact (pe_ix ix_tup (pv 0) (pv 3) (fun _ _ => rfl))) (pa_cons (by exact (pe_op op_catA (pv 1) (pe_tup (pa_cons (pv 3) pa_nil)))) pa_nil)))))))))
        (pss_one (ps_ret (pv 2)))), ?_⟩
      refine ⟨_, rfl, by show 1 ≤ sizeLine; decide, fun l hl => ?_⟩
      have S1 := (same_new hl : Same H (upd H l (.lst [.ref t])))
      have hl1 : (upd H l (.lst [.ref t])) l = some (.lst [.ref t]) := upd_same
      revert S1 hl1
      generalize upd H l (.lst [.ref t]) = H1
      intro S1 hl1
      have flat : isTup x = false → spotsD x p = [p] → ∀ (R : Prop), True := fun _ _ _ => trivial
      refine ⟨_, rfl, v, .ty "tuple", _, _, isTup x, rfl, .ty _, tyX_dp (dp_same S1 hd), kit_tuple x, _, rfl, ?_⟩
      cases hd with
      | @tup a xs ds hT hA =>
        refine iteT ?_
        have hT1 := seqT_same S1 hT
        have hlen := dpAll_len hA
        have hnl : 1 + nodesL ds ≤ 900 := by rw [nodesD] at hn; exact hn
        have hll := nodesL_len ds
        refine ⟨_, rfl, _, _, rfl, .inr ⟨_, hT1, rfl⟩, _, rfl, by omega, by omega, ?_⟩
        refine for_it (walk_range (lo := 0) (n := _)) (fun i σ H' => ∃ (l' : Addr) (ws : List V) (o3 : Option V), σ = [some (.ref a), some (.ref t), some (.ref l'), o3] ∧ Same H H' ∧ H l' = none ∧ H' l' = some (.lst ws) ∧ PathsAt K H' ws (p :: spotsL (ds.take i) p 0)) ⟨l, _, none, rfl, S1, hl, hl1, .cons ⟨t, rfl, seqT_same S1 ht⟩ .nil⟩ (fun _ _ _ _ _ => True.intro) ?_ ?_
        · rintro i k σ H2 H' hi ⟨l', ws, o3, rfl, S2, nl', hl2, hp2⟩ ⟨rfl, e2⟩
          have hi' : i < xs.length := by simpa using hi
          have ek : k = intV i := by
            rw [e2]
            show V.int (0 + (i : Int)) = V.int (i : Int)
            rw [Int.zero_add]
          subst ek
          have hxi : xs[i]? = some xs[i] := List.getElem?_eq_getElem hi'
          obtain ⟨d, hdi, hxd⟩ := dpAll_at hA hxi
          have hdm := depth_item (List.mem_of_getElem? hdi)
          have hn1 := nodesL_at hdi
          have hdep : 1 + PyData.depthAll ds ≤ n := by
            have h := hdp
            simp only [PyData.depth] at h
            omega
          obtain ⟨n', rfl⟩ : ∃ n', n = n' + 1 := ⟨n - 1, by omega⟩
          refine ⟨_, rfl, _, rfl, _, rfl, a, xs, _, xs[i], rfl, rfl, seqT_same S2 hT, atI_nat hxi, ?_⟩
          refine ⟨_, rfl, _, rfl, by show 1 ≤ sizeLine; decide, fun u hu => ?_⟩
          have Su := (same_new hu : Same H' (upd H' u (.tup [intV i])))
          have huu : (upd H' u (.tup [intV i])) u = some (.tup [intV i]) := upd_same
          revert Su huu
          generalize upd H' u (.tup [intV i]) = Hu
          intro Su huu
          have go : ∀ (H4 : Hp) (u2 : Addr), Same Hu H4 → SqT K H4 u2 ((p ++ [i]).map intV) → spSpots K (n' + 1) ([xs[i], .ref u2] ++ []) H4 (fun v' H5 => rCat (.ref l') v' H5 fun z H6 => ∃ (l' : Addr) (ws : List V) (o3 : Option V), (([some (.ref a), some (.ref t), some (.ref l'), some (intV i)] : St).set 2 (some z)) = [some (.ref a), some (.ref t), some (.ref l'), o3] ∧ Same H H6 ∧ H l' = none ∧ H6 l' = some (.lst ws) ∧ PathsAt K H6 ws (p :: spotsL (ds.take (i + 1)) p 0)) E0 := fun H4 u2 S4 hu2 => by
            have S24 := S2.trans (Su.trans S4)
            refine ⟨xs[i], u2, d, p ++ [i], rfl, dp_same S24 hxd, hu2, by omega, by rw [List.length_append]; show p.length + 1 + n' ≤ 900; omega, by omega, fun H5 l5 ws5 S5 nl5 hl5 hp5 => ?_⟩
            have S45 := Su.trans (S4.trans S5)
            refine ⟨l', l5, _, _, rfl, rfl, S45 _ _ hl2, hl5, ?_, fun z hz => ?_⟩
            · have h1 := hp2.len
              have h2 := hp5.len
              rw [spots_len] at h2
              rw [List.length_cons, spotsL_len] at h1
              exact Nat.le_of_lt (small1000 (by omega))
            have S6 := (same_new hz : Same H5 (upd H5 z (.lst (ws ++ ws5))))
            refine ⟨z, ws ++ ws5, some (intV i), rfl, S24.trans (S5.trans S6), none_of_same (S24.trans S5) hz, upd_same, ?_⟩
            have et : ds.take (i + 1) = ds.take i ++ [d] := by rw [List.take_add_one, hdi]; rfl
            have el : (ds.take i).length = i := by
              rw [List.length_take]
              omega
            rw [et, spotsL_snoc, el, Nat.zero_add]
            exact (hp2.same (SameT.of (S45.trans S6))).app (hp5.same (SameT.of S6))
          have lp : (p.map intV).length + 1 ≤ sizeLine := by
            rw [List.length_map]
            exact Nat.le_of_lt (small1000 (by omega))
          refine ⟨t, u, _, _, rfl, rfl, seqT_same (S2.trans Su) ht, .inl (.inl huu), lp, fun e => ?_, fun _ e => (nomatch e), fun h1 _ u3 hu3 => ?_⟩
          · have ep : p = [] := by
              cases p with
              | nil => rfl
              | cons _ _ => cases e
            subst ep
            exact go Hu u (Same.refl Hu) (.inl (.inl huu))
          · have S3 := (same_new hu3 : Same Hu (upd Hu u3 (.tup (p.map intV ++ [intV i]))))
            refine go _ u3 S3 (.inl (.inl ?_))
            rw [upd_same, List.map_append]
            rfl
        · rintro σ H' ⟨l', ws, o3, rfl, S2, nl', hl2, hp2⟩
          have e : ((xs.length : Nat) : Int).toNat = xs.length := Int.toNat_natCast _
          refine ⟨_, rfl, q H' l' ws S2 nl' hl2 ?_⟩
          rw [spotsD]
          have e3 : ds.take xs.length = ds := by rw [hlen, List.take_length]
          first
            | (rw [e3] at hp2; exact hp2)
            | (simp only [Int.toNat_natCast, e3] at hp2; exact hp2)
      | non =>
        refine iteF ?_
        refine ⟨_, rfl, by decide, by decide, for_it (walk_range (lo := 0) (n := _)) (fun i σ H' => H' = H1 ∧ ∃ o3 : Option V, σ = [some .non, some (.ref t), some (.ref l), o3]) ⟨rfl, none, rfl⟩ (fun _ _ _ _ _ => True.intro) (fun i k σ H2 H' hi => absurd hi (Nat.not_lt_zero _)) ?_⟩
        rintro σ H' ⟨rfl, o3, rfl⟩
        exact ⟨_, rfl, q H' l _ S1 hl hl1 (.cons ⟨t, rfl, seqT_same S1 ht⟩ .nil)⟩
      | bl b =>
        refine iteF ?_
        refine ⟨_, rfl, by decide, by decide, for_it (walk_range (lo := 0) (n := _)) (fun i σ H' => H' = H1 ∧ ∃ o3 : Option V, σ = [some (.bl b), some (.ref t), some (.ref l), o3]) ⟨rfl, none, rfl⟩ (fun _ _ _ _ _ => True.intro) (fun i k σ H2 H' hi => absurd hi (Nat.not_lt_zero _)) ?_⟩
        rintro σ H' ⟨rfl, o3, rfl⟩
        exact ⟨_, rfl, q H' l _ S1 hl hl1 (.cons ⟨t, rfl, seqT_same S1 ht⟩ .nil)⟩
      | int b =>
        refine iteF ?_
        refine ⟨_, rfl, by decide, by decide, for_it (walk_range (lo := 0) (n := _)) (fun i σ H' => H' = H1 ∧ ∃ o3 : Option V, σ = [some (.int b), some (.ref t), some (.ref l), o3]) ⟨rfl, none, rfl⟩ (fun _ _ _ _ _ => True.intro) (fun i k σ H2 H' hi => absurd hi (Nat.not_lt_zero _)) ?_⟩
        rintro σ H' ⟨rfl, o3, rfl⟩
        exact ⟨_, rfl, q H' l _ S1 hl hl1 (.cons ⟨t, rfl, seqT_same S1 ht⟩ .nil)⟩
      | str b =>
        refine iteF ?_
        refine ⟨_, rfl, by decide, by decide, for_it (walk_range (lo := 0) (n := _)) (fun i σ H' => H' = H1 ∧ ∃ o3 : Option V, σ = [some (.str b), some (.ref t), some (.ref l), o3]) ⟨rfl, none, rfl⟩ (fun _ _ _ _ _ => True.intro) (fun i k σ H2 H' hi => absurd hi (Nat.not_lt_zero _)) ?_⟩
        rintro σ H' ⟨rfl, o3, rfl⟩
        exact ⟨_, rfl, q H' l _ S1 hl hl1 (.cons ⟨t, rfl, seqT_same S1 ht⟩ .nil)⟩
      | @lst b xs ds hL hA =>
        refine iteF ?_
        refine ⟨_, rfl, by decide, by decide, for_it (walk_range (lo := 0) (n := _)) (fun i σ H' => H' = H1 ∧ ∃ o3 : Option V, σ = [some (.ref b), some (.ref t), some (.ref l), o3]) ⟨rfl, none, rfl⟩ (fun _ _ _ _ _ => True.intro) (fun i k σ H2 H' hi => absurd hi (Nat.not_lt_zero _)) ?_⟩
        rintro σ H' ⟨rfl, o3, rfl⟩
        exact ⟨_, rfl, q H' l _ S1 hl hl1 (.cons ⟨t, rfl, seqT_same S1 ht⟩ .nil)⟩
end
end My
set_option Elab.async false
set_option linter.all false
set_option maxRecDepth 100000
set_option maxHeartbeats 4000000
namespace My
open PySem L2 Kn
/-! ### slices and sums of tuples, whatever comes back -/
theorem cutV_all {xs : List V} {lo hi : Option Int} (h : HT.sIx xs.length 0 lo = 0 ∧ HT.sIx xs.length xs.length hi = xs.length) : cutV xs lo hi = xs := by
  unfold cutV
  rw [h.1, h.2, List.drop_zero, Nat.sub_zero, List.take_length]
theorem slA_any {K : PySem.W.Frag} {H : Hp} {a : Addr} {xs : List V} {lo hi : Option Int} {Q : V → Hp → Prop} (h : SqT K H a xs) (q : ∀ (H' : Hp) (p : Addr), Same H H' → SqT K H' p (cutV xs lo hi) → Q (.ref p) H') : rSlA K (.ref a) lo hi H Q :=
  ⟨a, xs, rfl, h, fun hw => q H a (Same.refl H) (by rw [cutV_all hw]; exact h), fun _ p hp => q _ p (same_new hp) (.inl (.inl upd_same))⟩
theorem catA_newR {K : PySem.W.Frag} {H : Hp} {a b : Addr} {xs ys : List V} {Q : V → Hp → Prop} (ha : SqT K H a xs) (hb : H b = some (.tup ys)) (ny : ys ≠ []) (hl : xs.length + ys.length ≤ sizeLine)
    (q : ∀ (H' : Hp) (p : Addr), Same H H' → H' p = some (.tup (xs ++ ys)) → (p = b ∨ H p = none) → Q (.ref p) H') : rCatA K (.ref a) (.ref b) H Q :=
  ⟨a, b, xs, ys, rfl, rfl, ha, .inl (.inl hb), hl, fun e => q H b (Same.refl H) (by rw [e]; exact hb) (.inl rfl), fun _ e => (ny e).elim, fun _ _ p hp => q _ p (same_new hp) upd_same (.inr hp)⟩
theorem catA_newL {K : PySem.W.Frag} {H : Hp} {a b : Addr} {xs ys : List V} {Q : V → Hp → Prop} (ha : H a = some (.tup xs)) (nx : xs ≠ []) (hb : SqT K H b ys) (hl : xs.length + ys.length ≤ sizeLine)
    (q : ∀ (H' : Hp) (p : Addr), Same H H' → H' p = some (.tup (xs ++ ys)) → (p = a ∨ H p = none) → Q (.ref p) H') : rCatA K (.ref a) (.ref b) H Q :=
  ⟨a, b, xs, ys, rfl, rfl, .inl (.inl ha), hb, hl, fun e => (nx e).elim, fun _ e => q H a (Same.refl H) (by rw [e, List.append_nil]; exact ha) (.inl rfl), fun _ _ p hp => q _ p (same_new hp) upd_same (.inr hp)⟩
theorem cutV_to (xs : List V) (i : Nat) : cutV xs none (some (i : Int)) = xs.take i := by
  unfold cutV
  rw [HT.sIx_none, HT.sIx_nat, List.drop_zero, Nat.sub_zero]
  by_cases h : i ≤ xs.length
  · rw [Nat.min_eq_left h]
  · rw [Nat.min_eq_right (by omega), List.take_length, List.take_of_length_le (by omega)]
theorem cutV_from (xs : List V) (i : Nat) : cutV xs (some (i : Int)) none = xs.drop i := by
  unfold cutV
  rw [HT.sIx_none, HT.sIx_nat]
  by_cases h : i ≤ xs.length
  · rw [Nat.min_eq_left h, List.take_of_length_le (by rw [List.length_drop]; exact Nat.le_refl _)]
  · rw [Nat.min_eq_right (by omega), List.drop_length, List.drop_of_length_le (by omega), List.take_nil]
theorem dpAll_take {K : PySem.W.Frag} {H : Hp} : ∀ (i : Nat) {vs : List V} {ds : List PyData}, DpAll K H vs ds → DpAll K H (vs.take i) (ds.take i)
  | 0, _, _, _ => by rw [List.take_zero, List.take_zero]; exact .nil
  | i + 1, _, _, .nil => .nil
  | i + 1, _, _, .cons h t => .cons h (dpAll_take i t)
theorem dpAll_drop {K : PySem.W.Frag} {H : Hp} : ∀ (i : Nat) {vs : List V} {ds : List PyData}, DpAll K H vs ds → DpAll K H (vs.drop i) (ds.drop i)
  | 0, _, _, h => h
  | i + 1, _, _, .nil => .nil
  | i + 1, _, _, .cons h t => dpAll_drop i t
theorem dpAll_app {K : PySem.W.Frag} {H : Hp} : ∀ {vs ws : List V} {ds es : List PyData}, DpAll K H vs ds → DpAll K H ws es → DpAll K H (vs ++ ws) (ds ++ es)
  | _, _, _, _, .nil, h => h
  | _, _, _, _, .cons a t, h => .cons a (dpAll_app t h)
def nz (fs : List Nat) : List Int := fs.map Int.ofNat
theorem map_intV (fs : List Nat) : fs.map intV = (nz fs).map V.int := by
  unfold nz
  rw [List.map_map]
  rfl
/-! ### _law_oh_put -/
abbrev s_oh_put : Stmt := top 27
/-- in each F' that goes on from F and holds all that is new in H' -/
def Grown (K : PySem.W.Frag) (F H H' : Hp) (r : V) (z : PyData) : Prop := ∀ F' : Hp, Same F F' → (∀ b o, H b = none → H' b = some o → F' b = some o) → Dp K F' r z
def spPut (K : PySem.W.Frag) : Nat → Sp
  | 0 => fun _ _ _ _ => False
  | n + 1 => fun vs H Q _ => ∃ (F : Hp) (v w : V) (t : Addr) (x y z : PyData) (p : List Nat), vs = [v, .ref t, w] ∧ Same F H ∧ Dp K F v x ∧ Dp K F w y ∧ SqT K H t (p.map intV) ∧ atD p x = some z ∧ p.length ≤ n ∧ nodesD x ≤ 900 ∧
      ∀ (H' : Hp) (r : V), Same H H' → Grown K F H H' r (putD p x y) → Q r H'
section
variable {P : Program} {w : World} {K : PySem.W.Frag} {mg : Str → Option Value} {base : Heap} {tA BK BE HE : Addr}
theorem sc_oh_put : FnScope ["thing", "path", "part"] ["thing", "path", "part"] (defScope s_oh_put) := ⟨rfl, rfl, rfl, by decide +kernel, rfl, by decide +kernel, by decide +kernel⟩
theorem ok_oh_put {f : Addr} {fd : FuncData} (F : Fun K "_law_oh_put" "_law_oh_put" s_oh_put f fd) (gA : mg "_law_oh_put" = some (.ref f)) (kA : PySem.W.keepIn K (.ref f) = true) (bA : Binds K fd ["thing", "path", "part"] []) :
    ∀ n : Nat, FnOk P w K mg base CX0 n f fd ["thing", "path", "part"] (spPut K n) := by
  intro n
  induction n with
  | zero => exact ⟨fun _ _ _ _ h => h.elim, fun _ _ _ _ _ _ _ _ _ _ _ _ _ h => h.elim⟩
  | succ n G =>
    refine F.ok sc_oh_put (fun vs H Q E h => ?_) (fun cdv A outer s0 H vs Q E hr h => ?_)
    · obtain ⟨F', v, w, t, x, y, z, p, rfl, _⟩ := h
      rfl
    · obtain ⟨F', v, w, t, x, y, z, p, rfl, hF, hd, hw, ht, hz, hpl, hn, q⟩ := h
      refine ⟨_, pss_cons (ps_if (pt_cmpR (op_eqN hr.units) (pv 1) (by exact (pe_tup pa_nil)) (nomark _)) (pss_one (ps_ret (pv 2))) pss_nil)
        (pss_one (ps_ret (by exact (pe_op op_catA (by exact (pe_op op_catA (by exact (pe_slice sl_tupA (pv 0) po_none (po_some (by exact (pe_ix ix_tup (pv 1) pe_int (fun _ _ => rfl))))))
            (by exact (pe_tup (pa_cons (by exact (pe_call G hr rfl gA kA bA .nil pass0 (pa_cons (by exact (pe_ix ix_tup (pv 0) (by exact (pe_ix ix_tup (pv 1) pe_int (fun _ _ => rfl))) (fun _ _ => rfl))) (pa_cons (by exact (pe_slice sl_tupA (pv 1) (po_some pe_int) po_none)) (pa_cons (pv 2) pa_nil))))) pa_nil)))))
          (by exact (pe_slice sl_tupA (pv 0) (po_some (by exact (pe_op op_add (by exact (pe_ix ix_tup (pv 1) pe_int (fun _ _ => rfl))) pe_int))) po_none)))))), ?_⟩
      refine ⟨_, rfl, Nat.zero_le _, fun u hu => ?_⟩
      have Su := (same_new hu : Same H (upd H u (.tup [])))
      have huu : (upd H u (.tup [])) u = some (.tup []) := upd_same
      revert Su huu
      generalize upd H u (.tup []) = H1
      intro Su huu
      have ht1 := seqT_same Su ht
      have dpp : Dp K H1 (.ref t) (.tuple ((nz p).map PyData.int)) := by
        have h := ht1
        rw [map_intV] at h
        exact .tup h (dpInts K _ _)
      refine ⟨.tuple ((nz p).map PyData.int), .tuple [], dpp, .tup (.inl (.inl huu)) .nil, ?_, okD_tuple (fun _ h => nomatch h), min_unit _, _, rfl, ?_⟩
      · simp only [PyData.canLay0]
        exact ints_lay _
      rw [eqv_tuple_nil]
      cases p with
      | nil =>
        refine iteT ?_
        exact ⟨_, rfl, q H1 w Su fun F2 S2 _ => dp_same S2 hw⟩
      | cons i r =>
        refine iteF ?_
        cases hd with
        | non => cases hz
        | bl _ => cases hz
        | int _ => cases hz
        | str _ => cases hz
        | lst _ _ => cases hz
        | @tup a xs ds hT hA =>
          obtain ⟨d, hdi, hz⟩ := Option.bind_eq_some_iff.mp (show (ds[i]?).bind (atD r) = some z from hz)
          have hlen := dpAll_len hA
          have hi : i < xs.length := by
            have := (List.getElem?_eq_some_iff.mp hdi).1
            omega
          have hxi : xs[i]? = some xs[i] := List.getElem?_eq_getElem hi
          obtain ⟨d', hdi', hxd⟩ := dpAll_at hA hxi
          rw [hdi] at hdi'
          cases hdi'
          have hnl : 1 + nodesL ds ≤ 900 := by rw [nodesD] at hn; exact hn
          have hll := nodesL_len ds
          have hn1 := nodesL_at hdi
          have h0 : ((i :: r).map intV)[0]? = some (intV i) := rfl
          -- thing[:path[0]]
          refine ⟨_, rfl, ?_⟩
          refine ⟨_, rfl, t, _, _, _, rfl, rfl, ht1, atI_nat (j := 0) rfl, _, rfl, ?_⟩
          refine slA_any (seqT_same (hF.trans Su) hT) fun H2 t2 S2 ht2 => ?_
          have e2 := cutV_to xs i
          have e2 : cutV xs none (some (i : Int)) = xs.take i := e2
          rw [e2] at ht2
          have SH2 := Su.trans S2
          -- the inner call
          refine ⟨_, rfl, _, rfl, t, _, _, _, rfl, rfl, seqT_same SH2 ht, atI_nat (j := 0) rfl, a, xs, _, xs[i], rfl, rfl, seqT_same (hF.trans SH2) hT, atI_nat hxi, ?_⟩
          refine ⟨_, rfl, _, rfl, ?_⟩
          dsimp only [tNoPart]
          refine slA_any (seqT_same SH2 ht) fun H3 t3 S3 ht3 => ?_
          have e3 : cutV ((i :: r).map intV) (some ((1 : Nat) : Int)) none = r.map intV := cutV_from _ 1
          have e3 : cutV ((i :: r).map intV) (some (1 : Int)) none = r.map intV := e3
          rw [e3] at ht3
          have SH3 := SH2.trans S3
          obtain ⟨n', rfl⟩ : ∃ n', n = n' + 1 := by
            have : r.length + 1 ≤ n := hpl
            exact ⟨n - 1, by omega⟩
          have hpl' : r.length + 1 ≤ n' + 1 := hpl
          refine ⟨_, rfl, F', xs[i], w, t3, d, y, z, r, rfl, hF.trans SH3, hxd, hw, ht3, hz, by omega, by omega, fun H4 r1 S4 g4 => ?_⟩
          have SH4 := SH3.trans S4
          -- (.., )
          refine ⟨by show 1 ≤ sizeLine; decide, fun t5 hn5 => ?_⟩
          have S5 := (same_new hn5 : Same H4 (upd H4 t5 (.tup [r1])))
          have ht5 : (upd H4 t5 (.tup [r1])) t5 = some (.tup [r1]) := upd_same
          have n5 : H t5 = none := none_of_same SH4 hn5
          revert S5 ht5
          generalize upd H4 t5 (.tup [r1]) = H5
          intro S5 ht5
          have SH5 := SH4.trans S5
          refine catA_newR (seqT_same (S3.trans (S4.trans S5)) ht2) ht5 (by simp) ?_ fun H6 t6 S6 ht6 nw6 => ?_
          · have : (xs.take i).length ≤ 900 := by
              rw [List.length_take]
              omega
            exact Nat.le_of_lt (small1000 (by show (xs.take i).length + 1 ≤ 1000; omega))
          have n6 : H t6 = none := nw6.elim (fun e => e ▸ n5) (fun e => none_of_same SH5 e)
          have SH6 := SH5.trans S6
          -- thing[path[0] + 1:]
          refine ⟨_, rfl, ?_⟩
          refine ⟨_, rfl, t, _, _, _, rfl, rfl, seqT_same SH6 ht, atI_nat (j := 0) rfl, _, _, rfl, rfl, _, rfl, ?_⟩
          dsimp only [tNoPart]
          refine slA_any (seqT_same (hF.trans SH6) hT) fun H7 t7 S7 ht7 => ?_
          have e7 : cutV xs (some (((i + 1 : Nat)) : Int)) none = xs.drop (i + 1) := cutV_from _ _
          have e7 : cutV xs (some ((i : Int) + 1)) none = xs.drop (i + 1) := e7
          rw [e7] at ht7
          have SH7 := SH6.trans S7
          refine catA_newL (S7 _ _ ht6) (by simp) ht7 ?_ fun H8 t8 S8 ht8 nw8 => ?_
          · have h1 : (xs.take i).length ≤ 900 := by
              rw [List.length_take]
              omega
            have h2 : (xs.drop (i + 1)).length ≤ 900 := by
              rw [List.length_drop]
              omega
            have h3 : (xs.take i ++ [r1]).length = (xs.take i).length + 1 := List.length_append
            have h4 : (2000 : Nat) ≤ sizeLine := by decide
            omega
          have n8 : H t8 = none := nw8.elim (fun e => e ▸ n6) (fun e => none_of_same SH7 e)
          have SH8 := SH7.trans S8
          refine q H8 (.ref t8) SH8 fun F2 SF2 new => ?_
          have e8 : putD (i :: r) (.tuple ds) y = .tuple (ds.take i ++ [putD r d y] ++ ds.drop (i + 1)) := by
            show PyData.tuple (ds.take i ++ ((ds[i]?).map fun z => putD r z y).toList ++ ds.drop (i + 1)) = _
            rw [hdi]
            rfl
          rw [e8]
          have hA2 := dpAll_same SF2 hA
          have hr1 : Dp K F2 r1 (putD r d y) := g4 F2 SF2 fun b o hb ho => new b o (none_of_same SH3 hb) ((S5.trans (S6.trans (S7.trans S8))) _ _ ho)
          exact .tup (.inl (.inl (new _ _ n8 ht8))) (dpAll_app (dpAll_app (dpAll_take i hA2) (.cons hr1 .nil)) (dpAll_drop (i + 1) hA2))
end
end My
set_option Elab.async false
set_option linter.all false
set_option maxRecDepth 100000
set_option maxHeartbeats 4000000
namespace My
open PySem L2 Kn
/-! ### what a bent kind is made of -/
theorem off_tups {d g c : Addr} {m : Nat} {H : Hp} (D : DrawSt H d g c m) : SameT H (off d g H) := fun b xs h => by
  obtain ⟨gs, cs, r, t, h1, h2, _⟩ := D
  have n1 : b ≠ d := by
    rintro rfl
    rcases h with h | ⟨o, h⟩ <;> rw [h1] at h <;> cases h
  have n2 : b ≠ g := by
    rintro rfl
    rcases h with h | ⟨o, h⟩ <;> rw [h2] at h <;> cases h
  rcases h with h | ⟨o, h⟩
  · exact .inl (by rw [off_at n1 n2]; exact h)
  · exact .inr ⟨o, by rw [off_at n1 n2]; exact h⟩
theorem off_new {d g c p : Addr} {m : Nat} {H H' : Hp} {o : HO} (D : DrawSt H d g c m) (h : H p = none) (e : H' p = some o) : off d g H' p = some o := by
  obtain ⟨n1, n2, _⟩ := D.ne h
  rw [off_at n1 n2, e]
theorem kd_at : ∀ (k : Kd) (r : List Nat) (y : PyData), atD r k.data = some y → (∃ k' : Kd, y = k'.data ∧ k'.ends ≤ k.ends) ∨ y = .str "text" ∨ y = .str "to"
  | k, [], y, h => by
    cases h
    exact .inl ⟨k, rfl, Nat.le_refl _⟩
  | .text, i :: r, y, h => by
    obtain ⟨z, hz, h⟩ := Option.bind_eq_some_iff.mp (show (([.str "text"] : List PyData)[i]?).bind (atD r) = some y from h)
    match i, hz with
    | 0, hz =>
      cases hz
      cases r with
      | nil => cases h; exact .inr (.inl rfl)
      | cons _ _ => cases h
    | i + 1, hz => simp at hz
  | .to a b, i :: r, y, h => by
    obtain ⟨z, hz, h⟩ := Option.bind_eq_some_iff.mp (show (([.str "to", a.data, b.data] : List PyData)[i]?).bind (atD r) = some y from h)
    have e : (Kd.to a b).ends = a.ends + b.ends := rfl
    match i, hz with
    | 0, hz =>
      cases hz
      cases r with
      | nil => cases h; exact .inr (.inr rfl)
      | cons _ _ => cases h
    | 1, hz =>
      cases hz
      rcases kd_at a r y h with ⟨k', h1, h2⟩ | h1
      · exact .inl ⟨k', h1, by omega⟩
      · exact .inr h1
    | 2, hz =>
      cases hz
      rcases kd_at b r y h with ⟨k', h1, h2⟩ | h1
      · exact .inl ⟨k', h1, by omega⟩
      · exact .inr h1
    | i + 3, hz => simp at hz
theorem atD_len : ∀ (p : List Nat) (x y : PyData), atD p x = some y → p.length ≤ x.depth
  | [], x, y, _ => Nat.zero_le _
  | i :: r, .tuple xs, y, h => by
    obtain ⟨z, hz, h⟩ := Option.bind_eq_some_iff.mp (show (xs[i]?).bind (atD r) = some y from h)
    have h1 := atD_len r z y h
    have h2 := depth_item (List.mem_of_getElem? hz)
    simp only [PyData.depth, List.length_cons]
    omega
  | _ :: _, .none, _, h => nomatch h
  | _ :: _, .bool _, _, h => nomatch h
  | _ :: _, .int _, _, h => nomatch h
  | _ :: _, .str _, _, h => nomatch h
  | _ :: _, .list _, _, h => nomatch h
  | _ :: _, .dict _, _, h => nomatch h
theorem nodes_kd : ∀ k : Kd, nodesD k.data + 2 = 4 * k.ends
  | .text => rfl
  | .to a b => by
    have h1 := nodes_kd a
    have h2 := nodes_kd b
    simp only [Kd.data, nodesD, nodesL, Kd.ends]
    omega
def pairD (k : Kd) : PyData := .tuple [k.data, .int 0]
theorem nodes_pair (k : Kd) : nodesD (pairD k) = 4 * k.ends := by
  have := nodes_kd k
  have := k.ends_pos
  simp only [pairD, nodesD, nodesL]
  omega
theorem depth_pair (k : Kd) : (pairD k).depth ≤ 1 + k.ends := by
  have h1 := k.data_depth
  have h2 := k.deep_ends
  have h3 : (PyData.int 0).depth = 0 := by simp only [PyData.depth]
  simp only [pairD, PyData.depth, PyData.depthAll]
  omega
theorem pair_ok (k : Kd) : OkD (pairD k) := okD_tuple fun d hd => by
  rcases List.mem_cons.mp hd with rfl | hd
  · exact okD_kd k
  · rw [List.mem_singleton.mp hd]
    rfl
/-- what stands at a place of the pair that is not the whole -/
theorem pair_spot {k : Kd} {p : List Nat} (h : p ∈ spotsL [k.data, .int 0] [] 0) : ∃ (j : Nat) (r : List Nat) (y : PyData), p = j :: r ∧ j ≤ 1 ∧ atD p (pairD k) = some y ∧ ((∃ k' : Kd, y = k'.data ∧ k'.ends ≤ k.ends) ∨ y = .str "text" ∨ y = .str "to" ∨ y = .int 0) := by
  obtain ⟨j, r, z, y, h1, h2, h3⟩ := spotsL_at _ _ _ _ h
  rw [Nat.zero_add] at h1
  have h1 : p = j :: r := h1
  subst h1
  refine ⟨j, r, y, rfl, ?_, ?_, ?_⟩
  · match j, h2 with
    | 0, _ => exact Nat.zero_le _
    | 1, _ => exact Nat.le_refl _
    | j + 2, h2 => simp at h2
  · show (([k.data, .int 0] : List PyData)[j]?).bind (atD r) = some y
    rw [h2]
    exact h3
  · match j, h2 with
    | 0, h2 =>
      cases h2
      rcases kd_at k r y h3 with h | h | h
      · exact .inl h
      · exact .inr (.inl h)
      · exact .inr (.inr (.inl h))
    | 1, h2 =>
      cases h2
      cases r with
      | nil => cases h3; exact .inr (.inr (.inr rfl))
      | cons _ _ => cases h3
    | j + 2, h2 => simp at h2
theorem put_pair {k : Kd} {j : Nat} {r : List Nat} {y : PyData} (hj : j ≤ 1) (hy : OkD y) : ∃ z0 z1, putD (j :: r) (pairD k) y = .tuple [z0, z1] ∧ OkD z0 := by
  match j, hj with
  | 0, _ => exact ⟨putD r k.data y, .int 0, rfl, putD_ok (okD_kd k) hy⟩
  | 1, _ => exact ⟨k.data, putD r (.int 0) y, rfl, okD_kd k⟩
def base11 (y : PyData) : List PyData := [.none, .tuple [], .int 0, .int 1, .bool true, .str "name", .tuple [.str "text"], .tuple [.str "end"], .str "ab", .list [], y]
theorem base_ok {y : PyData} (hy : OkD y) : ∀ z ∈ base11 y, OkD z := fun z hz => by
  simp only [base11, List.mem_cons, List.not_mem_nil, or_false] at hz
  rcases hz with rfl | rfl | rfl | rfl | rfl | rfl | rfl | rfl | rfl | rfl | rfl
  all_goals first
    | exact hy
    | (unfold OkD; decide +kernel)
theorem cutV_last (xs : List V) (h : xs ≠ []) : cutV xs none (some (-1)) = xs.take (xs.length - 1) := by
  have h1 : 0 < xs.length := List.length_pos_iff.mpr h
  unfold cutV
  rw [HT.sIx_none]
  have e : HT.sIx xs.length xs.length (some (-1)) = xs.length - 1 := by
    show (if (-1 : Int) < 0 then (-1 + (xs.length : Int)).toNat else min (-1 : Int).toNat xs.length) = xs.length - 1
    rw [if_pos (by decide)]
    omega
  rw [e, List.drop_zero, Nat.sub_zero]
theorem cutV_tail (xs : List V) (h : xs ≠ []) : cutV xs (some (-1)) none = xs.drop (xs.length - 1) := by
  have h1 : 0 < xs.length := List.length_pos_iff.mpr h
  unfold cutV
  rw [HT.sIx_none]
  have e : HT.sIx xs.length 0 (some (-1)) = xs.length - 1 := by
    show (if (-1 : Int) < 0 then (-1 + (xs.length : Int)).toNat else min (-1 : Int).toNat xs.length) = xs.length - 1
    rw [if_pos (by decide)]
    omega
  rw [e, List.take_of_length_le (by rw [List.length_drop]; exact Nat.le_refl _)]
theorem dpAll_rev {K : PySem.W.Frag} {H : Hp} : ∀ {vs : List V} {ds : List PyData}, DpAll K H vs ds → DpAll K H vs.reverse ds.reverse
  | _, _, .nil => .nil
  | _, _, .cons h t => by
    rw [List.reverse_cons, List.reverse_cons]
    exact dpAll_app (dpAll_rev t) (.cons h .nil)
end My
set_option Elab.async false
set_option linter.all false
set_option maxRecDepth 100000
set_option maxHeartbeats 4000000
namespace My
open PySem L2 Kn
/-! ### _law_oh_bent -/
abbrev s_oh_bent : Stmt := top 28
def spBent (K : PySem.W.Frag) : Sp := fun vs H Q _ => ∃ (d g c t : Addr) (m : Nat) (k : Kd) (v : V), vs = [.ref d, .ref t] ∧ SqT K H t [v, .int 0] ∧ KdAt K H v k ∧ k.ends ≤ 62 ∧ DrawSt H d g c m ∧ m + 3 ≤ 2 ^ 40 ∧
  ∀ (H' : Hp) (p : Addr) (x0 x1 : V) (z0 : PyData), SqT K H' p [x0, x1] → (∀ H'', Dr d g H' H'' → Dp K H'' x0 z0) → OkD z0 → DrawSt H' d g c (m + 3) → Dr d g H H' → Q (.ref p) H'
theorem str_same {s : Str} : (V.str s) = .str s := rfl
theorem kd_tuple {K : PySem.W.Frag} {F : Hp} {w : V} {k : Kd} (h : Dp K F w k.data) : ∃ (a : Addr) (xs : List V) (ds : List PyData), w = .ref a ∧ k.data = .tuple ds ∧ SqT K F a xs ∧ DpAll K F xs ds ∧ xs ≠ [] ∧ xs.length ≤ 3 := by
  cases k with
  | text =>
    have h : Dp K F w (.tuple [.str "text"]) := h
    cases h with
    | @tup a xs _ hT hA =>
      have hl := dpAll_len hA
      exact ⟨a, xs, _, rfl, rfl, hT, hA, (by rintro rfl; cases hl), by rw [hl]; decide⟩
  | to x y =>
    have h : Dp K F w (.tuple [.str "to", x.data, y.data]) := h
    cases h with
    | @tup a xs _ hT hA =>
      have hl := dpAll_len hA
      exact ⟨a, xs, _, rfl, rfl, hT, hA, (by rintro rfl; cases hl), by rw [hl]; exact Nat.le_refl 3⟩
section
variable {P : Program} {w : World} {K : PySem.W.Frag} {mg : Str → Option Value} {base : Heap} {tA BK BE HE : Addr}
theorem sc_oh_bent : FnScope ["state", "thing", "spots", "path", "part", "some"] ["state", "thing"] (defScope s_oh_bent) := ⟨rfl, rfl, rfl, by decide +kernel, rfl, by decide +kernel, by decide +kernel⟩
theorem ok_oh_bent {f f1 f2 f3 f4 : Addr} {fd fd1 fd2 fd3 fd4 : FuncData} (F : Fun K "_law_oh_bent" "_law_oh_bent" s_oh_bent f fd) (zi : mg "isinstance" = none) (zn : mg "int" = none) (zs : mg "str" = none) (zt : mg "tuple" = none) (zl : mg "list" = none)
    (G1 : FnOk P w K mg base CX0 66 f1 fd1 ["thing", "path"] (spSpots K 66)) (g1 : mg "_law_oh_spots" = some (.ref f1)) (k1 : PySem.W.keepIn K (.ref f1) = true) (b1 : Binds K fd1 ["thing", "path"] [])
    (G2 : FnOk P w K mg base CX0 3 f2 fd2 ["state", "some"] (spPick K)) (g2 : mg "_law_pick" = some (.ref f2)) (k2 : PySem.W.keepIn K (.ref f2) = true) (b2 : Binds K fd2 ["state", "some"] [])
    (G3 : FnOk P w K mg base CX0 1 f3 fd3 ["thing", "path"] (spAt K)) (g3 : mg "_law_oh_at" = some (.ref f3)) (k3 : PySem.W.keepIn K (.ref f3) = true) (b3 : Binds K fd3 ["thing", "path"] [])
    (G4 : FnOk P w K mg base CX0 66 f4 fd4 ["thing", "path", "part"] (spPut K 66)) (g4 : mg "_law_oh_put" = some (.ref f4)) (k4 : PySem.W.keepIn K (.ref f4) = true) (b4 : Binds K fd4 ["thing", "path", "part"] []) :
    FnOk P w K mg base CX0 67 f fd ["state", "thing"] (spBent K) := by
  refine F.ok sc_oh_bent (fun vs H Q E h => ?_) (fun cdv A outer s0 H vs Q E hr h => ?_)
  · obtain ⟨d, g, c, t, m, k, v, rfl, _⟩ := h
    rfl
  · obtain ⟨d, g, c, t, m, k, v, rfl, ht, hk, h62, D, hm, q⟩ := h
    have r1 : Room 1 _ := hr.mono (by decide)
    have r3 : Room 3 _ := hr.mono (by decide)
    refine ⟨_, pss_cons (ps_set (i := 2) sc_oh_bent.nd rfl (Or.inl rfl) (by exact (pe_call G1 hr rfl g1 k1 b1 .nil pass0 (pa_cons (pv 1) (pa_cons (by exact (pe_tup pa_nil)) pa_nil)))))
      (pss_cons (ps_set (i := 3) sc_oh_bent.nd rfl (Or.inl rfl) (by exact (pe_call G2 r3 rfl g2 k2 b2 .nil pass0 (pa_cons (pv 0) (pa_cons (by exact (pe_slice sl_list (pv 2) (po_some pe_int) po_none)) pa_nil)))))
      (pss_cons (ps_set (i := 4) sc_oh_bent.nd rfl (Or.inl rfl) (by exact (pe_call G3 r1 rfl g3 k3 b3 .nil pass0 (pa_cons (pv 1) (pa_cons (pv 3) pa_nil)))))
      (pss_cons (ps_set (i := 5) sc_oh_bent.nd rfl (Or.inl rfl) (pe_lst (pa_cons pe_non (pa_cons (by exact (pe_tup pa_nil)) (pa_cons pe_int (pa_cons pe_int (pa_cons pe_bl (pa_cons pe_str (pa_cons (by exact (pe_tup (pa_cons pe_str pa_nil))) (pa_cons (by exact (pe_tup (pa_cons pe_str pa_nil))) (pa_cons pe_str (pa_cons (by exact (pe_lst pa_nil))
          (pa_cons (by exact (pe_call G3 r1 rfl g3 k3 b3 .nil pass0 (pa_cons (pv 1) (pa_cons (by exact (pe_call G2 r3 rfl g2 k2 b2 .nil pass0 (pa_cons (pv 0) (pa_cons (pv 2) pa_nil)))) pa_nil)))) pa_nil)))))))))))))
      (pss_cons (ps_if (pt_val (by exact (pe_callB call_isi (by rfl) zi (by decide +kernel) (pa_cons (pv 4) (pa_cons (pe_bltn (v := .ty "int") rfl zn (by decide +kernel) rfl) pa_nil)))))
        (pss_one (ps_set (i := 5) sc_oh_bent.nd rfl (Or.inl rfl) (pe_lst (pa_cons (pe_op op_add (pv 4) pe_int) (pa_cons (pe_op op_sub (pv 4) pe_int) (pa_cons (by exact (pe_callTy call_str_int (by rfl) zs (by decide +kernel) (pa_cons (pv 4) pa_nil))) (pa_cons pe_non (pa_cons (pe_op op_sub pe_int (pv 4)) (pa_cons pe_bl pa_nil)))))))))
        (pss_one (ps_if (pt_val (by exact (pe_callB call_isi (by rfl) zi (by decide +kernel) (pa_cons (pv 4) (pa_cons (pe_bltn (v := .ty "str") rfl zs (by decide +kernel) rfl) pa_nil)))))
          (pss_one (ps_set (i := 5) sc_oh_bent.nd rfl (Or.inl rfl) (by exact (pe_op op_cat (pv 5) (pe_lst (pa_cons (by exact (pe_op op_add_str (pv 4) pe_str)) (pa_cons (by exact (pe_slice sl_str (pv 4) (po_some pe_int) po_none)) (pa_cons (by exact (pe_upper (pv 4))) (pa_cons pe_str (pa_cons pe_str (pa_cons pe_str pa_nil)))))))))))
          (pss_one (ps_if (PW.pt (pw_and (pt_val (by exact (pe_callB call_isi (by rfl) zi (by decide +kernel) (pa_cons (pv 4) (pa_cons (pe_bltn (v := .ty "tuple") rfl zt (by decide +kernel) rfl) pa_nil))))) (pw_and1 (pt_cmpR (op_neN hr.units) (pv 4) (by exact (pe_tup pa_nil)) (nomark _)))))
            (pss_one (ps_set (i := 5) sc_oh_bent.nd rfl (Or.inl rfl) (by exact (pe_op op_cat (pv 5) (pe_op op_rep (pe_lst (pa_cons (by exact (pe_slice sl_tupA (pv 4) (po_some pe_int) po_none)) (pa_cons (by exact (pe_slice sl_tupA (pv 4) po_none (po_some (pe_un un_neg pe_int)))) (pa_cons (by exact (pe_revT (pv 4)))
              (pa_cons (by exact (pe_op op_catA (pv 4) (by exact (pe_slice sl_tupA (pv 4) (po_some (pe_un un_neg pe_int)) po_none)))) (pa_cons (by exact (pe_callTy call_list_of (by rfl) zl (by decide +kernel) (pa_cons (pv 4) pa_nil))) (pa_cons (by exact (pe_op op_catA (pv 4) (pe_tup (pa_cons pe_non pa_nil)))) pa_nil))))))) pe_int)))))
            pss_nil)))))
      (pss_one (ps_ret (by exact (pe_call G4 hr rfl g4 k4 b4 .nil pass0 (pa_cons (pv 1) (pa_cons (pv 3) (pa_cons (by exact (pe_call G2 r3 rfl g2 k2 b2 .nil pass0 (pa_cons (pv 0) (pa_cons (pv 5) pa_nil)))) pa_nil))))))))))), ?_⟩
    have pairAt : ∀ {H' : Hp}, SameT H H' → Dp K H' (.ref t) (pairD k) := fun {H'} e => .tup (sameT_sq e ht) (.cons (hk.same e).dp (.cons (.int 0) .nil))
    have pk := k.ends_pos
    -- spots
    refine ⟨_, rfl, Nat.zero_le _, fun u hu => ?_⟩
    have Su := (same_new hu : Same H (upd H u (.tup [])))
    have huu : (upd H u (.tup [])) u = some (.tup []) := upd_same
    revert Su huu
    generalize upd H u (.tup []) = H1
    intro Su huu
    refine ⟨.ref t, u, pairD k, [], rfl, pairAt (SameT.of Su), .inl (.inl huu), ?_, by show 0 + 65 ≤ 900; decide, ?_, fun H2 l ws S2 nl hl hp => ?_⟩
    · show (pairD k).depth ≤ 65
      have := depth_pair k
      omega
    · rw [nodes_pair]
      omega
    have D2 := (D.same Su).same S2
    obtain ⟨nld, nlg, _⟩ := (D.same Su).ne nl
    have hlen := hp.len
    rw [spots_len, nodes_pair] at hlen
    have hp0 : PathsAt K H2 ws ([] :: spotsL [k.data, .int 0] [] 0) := hp
    cases hp0 with
    | @cons w0 _ wr _ hw0 hwr =>
    have hlr := PathsAt.len hwr
    rw [spotsL_len] at hlr
    have hlr1 : 1 ≤ wr.length := by
      rw [hlr]
      have := nodes_pos k.data
      simp only [nodesL]
      omega
    rw [List.length_cons] at hlen
    -- path
    refine ⟨_, rfl, _, rfl, _, rfl, ?_⟩
    dsimp only [tNoPart]
    refine ⟨l, w0 :: wr, rfl, SqL.of hl, fun l2 hl2 => ?_⟩
    have S3 := (same_new hl2 : Same H2 (upd H2 l2 (.lst (cutV (w0 :: wr) (some 1) none))))
    have e3 : cutV (w0 :: wr) (some (1 : Int)) none = wr := cutV_from (w0 :: wr) 1
    have hl2' : (upd H2 l2 (.lst (cutV (w0 :: wr) (some 1) none))) l2 = some (.lst wr) := by
      rw [upd_same, e3]
    obtain ⟨_, nl2g, _⟩ := D2.ne hl2
    revert S3 hl2'
    generalize upd H2 l2 (.lst (cutV (w0 :: wr) (some 1) none)) = H3
    intro S3 hl2'
    have D3 := D2.same S3
    refine ⟨d, g, c, l2, m, wr, rfl, D3, by omega, hl2', nl2g, (by rintro rfl; cases hlr1), by omega, fun H4 n1 v1 hv1 D4 dr4 => ?_⟩
    have dr4 : Dr d g H3 H4 := dr4
    obtain ⟨p1, hp1, t1, rfl, ht1⟩ := PathsAt.get hwr hv1
    obtain ⟨j, pr, y0, ep, hj, hy0, cls⟩ := pair_spot (List.mem_of_getElem? hp1)
    have T4 : SameT H2 H4 := (SameT.of S3).trans (Dr.tups dr4 D3)
    have S03 : Same H H3 := Su.trans (S2.trans S3)
    have dr04 : Dr d g H H4 := (Dr.of S03).trans dr4
    have T04 : SameT H H4 := (SameT.of S03).trans (Dr.tups dr4 D3)
    have hl4 : H4 l = some (.lst (w0 :: wr)) := dr4 _ _ (S3 _ _ hl) nld nlg
    have ht4 := sameT_sq T4 ht1
    -- part
    refine ⟨_, rfl, _, rfl, off d g H4, .ref t, t1, pairD k, y0, p1, rfl, off_sub _ _ _, pairAt (T04.trans (off_tups D4)), ht4, hy0, fun wp hwp => ?_⟩
    -- some
    refine ⟨Nat.zero_le _, fun a1 m1 => ⟨by show 1 ≤ sizeLine; decide, fun a2 m2 => ⟨by show 1 ≤ sizeLine; decide, fun a3 m3 => ⟨Nat.zero_le _, fun a4 m4 => ?_⟩⟩⟩⟩
    have Z1 := (same_new m1 : Same H4 (upd H4 a1 (.tup [])))
    have b1 : (upd H4 a1 (.tup [])) a1 = some (.tup []) := upd_same
    revert Z1 b1 m2 m3 m4
    generalize upd H4 a1 (.tup []) = J1
    intro m2 m3 m4 Z1 b1
    have Z2 := (same_new m2 : Same J1 (upd J1 a2 (.tup [.str "text"])))
    have b2' : (upd J1 a2 (.tup [.str "text"])) a2 = some (.tup [.str "text"]) := upd_same
    revert Z2 b2' m3 m4
    generalize upd J1 a2 (.tup [.str "text"]) = J2
    intro m3 m4 Z2 b2'
    have Z3 := (same_new m3 : Same J2 (upd J2 a3 (.tup [.str "end"])))
    have b3' : (upd J2 a3 (.tup [.str "end"])) a3 = some (.tup [.str "end"]) := upd_same
    revert Z3 b3' m4
    generalize upd J2 a3 (.tup [.str "end"]) = J3
    intro m4 Z3 b3'
    have Z4 := (same_new m4 : Same J3 (upd J3 a4 (.lst [])))
    have b4' : (upd J3 a4 (.lst [])) a4 = some (.lst []) := upd_same
    have D4a := ((D4.same Z1).same Z2).same Z3
    obtain ⟨na4d, na4g, _⟩ := D4a.ne m4
    revert Z4 b4'
    generalize upd J3 a4 (.lst []) = J4
    intro Z4 b4'
    have ZZ := Z1.trans (Z2.trans (Z3.trans Z4))
    have D5 := D4.same ZZ
    have hl5 := ZZ _ _ hl4
    refine ⟨_, rfl, _, rfl, _, rfl, d, g, c, l, m + 1, w0 :: wr, rfl, D5, by omega, hl5, nlg, by simp, by show wr.length + 1 < _; omega, fun H6 n2 v2 hv2 D6 dr6 => ?_⟩
    have dr6 : Dr d g J4 H6 := dr6
    have D6 : DrawSt H6 d g c (m + 2) := D6
    obtain ⟨p2, hp2, t2, rfl, ht2⟩ := hp.get hv2
    obtain ⟨r2, y1, ep2, hy1⟩ := spots_at _ _ _ (List.mem_of_getElem? hp2)
    have ep2 : p2 = r2 := ep2
    subst ep2
    have T46 : SameT H4 H6 := (SameT.of ZZ).trans (Dr.tups dr6 D5)
    have T6 : SameT J4 H6 := Dr.tups dr6 D5
    refine ⟨off d g H6, .ref t, t2, pairD k, y1, p2, rfl, off_sub _ _ _, pairAt ((T04.trans T46).trans (off_tups D6)), sameT_sq (T4.trans T46) ht2, hy1, fun wq hwq => ?_⟩
    refine ⟨by show 11 ≤ sizeLine; decide, fun s0 hs0 => ?_⟩
    have S7 := (same_new hs0 : Same H6 (upd H6 s0 (.lst [.non, .ref a1, .int 0, .int 1, .bl true, .str "name", .ref a2, .ref a3, .str "ab", .ref a4, wq])))
    have hs7 : (upd H6 s0 (.lst [.non, .ref a1, .int 0, .int 1, .bl true, .str "name", .ref a2, .ref a3, .str "ab", .ref a4, wq])) s0 = some (.lst [.non, .ref a1, .int 0, .int 1, .bl true, .str "name", .ref a2, .ref a3, .str "ab", .ref a4, wq]) := upd_same
    obtain ⟨ns0d, ns0g, _⟩ := D6.ne hs0
    revert S7 hs7
    generalize upd H6 s0 (.lst [.non, .ref a1, .int 0, .int 1, .bl true, .str "name", .ref a2, .ref a3, .str "ab", .ref a4, wq]) = H7
    intro S7 hs7
    have D7 := D6.same S7
    have drJ : Dr d g H4 H7 := (Dr.of ZZ).trans (dr6.trans (Dr.of S7))
    have dr07 : Dr d g H H7 := dr04.trans drJ
    have T7 : SameT J4 (off d g H7) := (T6.trans (SameT.of S7)).trans (off_tups D7)
    have hbase : DpAll K (off d g H7) [.non, .ref a1, .int 0, .int 1, .bl true, .str "name", .ref a2, .ref a3, .str "ab", .ref a4, wq] (base11 y1) := by
      refine .cons .non (.cons (.tup (sameT_sq ((SameT.of (Z2.trans (Z3.trans Z4))).trans T7) (.inl (.inl b1))) .nil) (.cons (.int 0) (.cons (.int 1) (.cons (.bl true) (.cons (.str _) (.cons (.tup (sameT_sq ((SameT.of (Z3.trans Z4)).trans T7) (.inl (.inl b2'))) (.cons (.str _) .nil))
        (.cons (.tup (sameT_sq ((SameT.of Z4).trans T7) (.inl (.inl b3'))) (.cons (.str _) .nil)) (.cons (.str _) (.cons (.lst (SqL.of ?_) .nil) (.cons (dp_same (off_same S7) hwq) .nil))))))))))
      rw [off_at na4d na4g]
      exact S7 _ _ (dr6 _ _ b4' na4d na4g)
    have okx : OkD (pairD k) := pair_ok k
    have ok0 := atD_ok okx hy0
    have ok1 := atD_ok okx hy1
    have T47 : SameT H4 H7 := T46.trans (SameT.of S7)
    have hwp7 : Dp K (off d g H7) wp y0 := dp_same (off_of drJ) hwp
    have plen : p1.length ≤ 65 := by
      have h1 := atD_len _ _ _ hy0
      have h2 := depth_pair k
      omega
    -- what is done at the end
    have fin : ∀ (H8 : Hp) (s : Addr) (vs : List V) (ds : List PyData) (o2 o4 : Option V), Same H7 H8 → H8 s = some (.lst vs) → s ≠ g → DpAll K (off d g H8) vs ds → (∀ z ∈ ds, OkD z) → vs ≠ [] → vs.length ≤ 900 →
        tCall (spPut K 66) [] E0 (tCons (tVar 1) (tCons (tVar 3) (tCons (tCall (spPick K) [] E0 (tCons (tVar 0) (tCons (tVar 5) tNil))) tNil))) [some (.ref d), some (.ref t), o2, some (.ref t1), o4, some (.ref s)] H8 Q := by
      intro H8 s vs ds o2 o4 S8 hs sg hds hok hne hl9
      have D8 := D7.same S8
      refine ⟨_, rfl, _, rfl, _, rfl, _, rfl, d, g, c, s, m + 2, vs, rfl, D8, by omega, hs, sg, hne, by omega, fun H9 n3 v3 hv3 D9 dr9 => ?_⟩
      have dr9' : Dr d g H8 H9 := dr9
      obtain ⟨y, hy, hyd⟩ := dpAll_at hds hv3
      have T89 := Dr.tups dr9' D8
      have T09 : SameT H H9 := ((T04.trans T47).trans (SameT.of S8)).trans T89
      refine ⟨off d g H9, .ref t, v3, t1, pairD k, y, y0, p1, rfl, off_sub _ _ _, pairAt (T09.trans (off_tups D9)), dp_same (off_of dr9) hyd, sameT_sq (((T4.trans T47).trans (SameT.of S8)).trans T89) ht1, hy0, plen, by rw [nodes_pair]; omega, fun H10 r S10 g10 => ?_⟩
      subst ep
      obtain ⟨z0, z1, e, okz⟩ := put_pair (k := k) (r := pr) hj (hok y (List.mem_of_getElem? hy))
      rw [e] at g10
      have hr10 : Dp K (off d g H10) r (.tuple [z0, z1]) := g10 (off d g H10) (off_same S10) fun b o hb ho => by
        obtain ⟨q1, q2, _⟩ := D9.ne hb
        rw [off_at q1 q2]
        exact ho
      cases hr10 with
      | tup hT10 hA10 =>
        cases hA10 with
        | cons h0 h1 =>
          cases h1 with
          | cons h1 h2 =>
            cases h2
            exact q H10 _ _ _ z0 (seqT_same (off_sub d g H10) hT10) (fun H'' dr'' => dp_same ((off_of dr'').trans (off_sub d g H'')) h0) okz (D9.same S10) (dr07.trans ((Dr.of S8).trans (dr9'.trans (Dr.of S10))))
    have tyP : ∀ {H' : Hp}, Same H7 H' → TyX K H' wp (.type (tyName y0)) := fun {H'} S => tyX_dp (dp_same ((off_sub d g H7).trans S) hwp7)
    refine ⟨_, rfl, wp, .ty "int", _, _, isIntB y0, rfl, .ty _, tyP (Same.refl _), kit_int y0, _, rfl, ?_⟩
    rcases cls with ⟨k', rfl, hk'⟩ | hstr
    · obtain ⟨a', xs', ds', rfl, edt, hT', hA', hne', hl3⟩ := kd_tuple hwp7
      rw [edt] at tyP ok0 ⊢
      refine iteF ?_
      refine ⟨_, rfl, .ref a', .ty "str", _, _, isStr (.tuple ds'), rfl, .ty _, tyP (Same.refl _), kit_str _, _, rfl, ?_⟩
      refine iteF ?_
      refine ⟨_, rfl, .ref a', .ty "tuple", _, _, isTup (.tuple ds'), rfl, .ty _, tyP (Same.refl _), kit_tuple _, _, rfl, ?_⟩
      refine iteT ?_
      have subT : ∀ {H' : Hp}, Same H7 H' → SqT K H' a' xs' := fun {H'} S => seqT_same ((off_sub d g H7).trans S) hT'
      have hlen' := dpAll_len hA'
      have hpos : 0 < xs'.length := List.length_pos_iff.mpr hne'
      have offA : ∀ {H' : Hp}, Same H7 H' → DpAll K (off d g H') xs' ds' := fun {H'} S => dpAll_same (off_same S) hA'
      have big : (2000 : Nat) ≤ sizeLine := by decide
      -- part != ()
      refine ⟨_, rfl, Nat.zero_le _, fun u2 m8 => ?_⟩
      have S8 := (same_new m8 : Same H7 (upd H7 u2 (.tup [])))
      have hu2 : (upd H7 u2 (.tup [])) u2 = some (.tup []) := upd_same
      revert S8 hu2
      generalize upd H7 u2 (.tup []) = H8
      intro S8 hu2
      refine ⟨.tuple ds', .tuple [], .tup (subT S8) (dpAll_same ((off_sub d g H7).trans S8) hA'), .tup (.inl (.inl hu2)) .nil, ok0, okD_tuple (fun _ h => nomatch h), min_unit _, _, rfl, ?_⟩
      rw [eqv_tuple_nil]
      have hne2 : ds'.isEmpty = false := by
        cases ds' with
        | nil => rw [hlen'] at hpos; cases hpos
        | cons _ _ => rfl
      rw [hne2]
      refine iteT ?_
      refine ⟨_, rfl, ?_⟩
      -- part[1:]
      refine ⟨_, rfl, _, rfl, ?_⟩
      dsimp only [tNoPart]
      refine slA_any (subT S8) fun Ha pa Sa hpa => ?_
      have ea : cutV xs' (some (1 : Int)) none = xs'.drop 1 := cutV_from xs' 1
      rw [ea] at hpa
      have Sa := S8.trans Sa
      -- part[:-1]
      refine ⟨_, rfl, ?_⟩
      refine ⟨_, rfl, _, rfl, ?_⟩
      refine slA_any (subT Sa) fun Hb pb Sb hpb => ?_
      rw [cutV_last xs' hne'] at hpb
      have Sab := Sb
      have Sb := Sa.trans Sb
      -- part[::-1]
      refine ⟨_, rfl, a', xs', rfl, subT Sb, fun pc nc => ?_⟩
      have Sc1 := (same_new nc : Same Hb (upd Hb pc (.tup xs'.reverse)))
      have hpc : (upd Hb pc (.tup xs'.reverse)) pc = some (.tup xs'.reverse) := upd_same
      revert Sc1 hpc
      generalize upd Hb pc (.tup xs'.reverse) = Hc
      intro Sc1 hpc
      have Sc := Sb.trans Sc1
      -- part + part[-1:]
      refine ⟨_, rfl, ?_⟩
      refine ⟨_, rfl, _, rfl, _, rfl, ?_⟩
      dsimp only [tNoPart]
      refine slA_any (subT Sc) fun Hd pd Sd1 hpd => ?_
      rw [cutV_tail xs' hne'] at hpd
      have Sd := Sc.trans Sd1
      refine ⟨a', pd, xs', _, rfl, rfl, subT Sd, hpd, by rw [List.length_drop]; omega, fun e => (hne' e).elim, fun _ e => ?_, fun _ _ pe ne => ?_⟩
      · have := congrArg List.length e
        rw [List.length_drop, List.length_nil] at this
        omega
      have Se1 := (same_new ne : Same Hd (upd Hd pe (.tup (xs' ++ xs'.drop (xs'.length - 1)))))
      have hpe : (upd Hd pe (.tup (xs' ++ xs'.drop (xs'.length - 1)))) pe = some (.tup (xs' ++ xs'.drop (xs'.length - 1))) := upd_same
      revert Se1 hpe
      generalize upd Hd pe (.tup (xs' ++ xs'.drop (xs'.length - 1))) = He
      intro Se1 hpe
      have Se := Sd.trans Se1
      -- list(part)
      refine ⟨_, rfl, a', xs', rfl, .inr (subT Se), fun pf nf => ?_⟩
      have Sf1 := (same_new nf : Same He (upd He pf (.lst xs')))
      have hpf : (upd He pf (.lst xs')) pf = some (.lst xs') := upd_same
      obtain ⟨npfd, npfg, _⟩ := (D7.same Se).ne nf
      revert Sf1 hpf
      generalize upd He pf (.lst xs') = Hf
      intro Sf1 hpf
      have Sf := Se.trans Sf1
      -- part + (None,)
      refine ⟨_, rfl, by show 1 ≤ sizeLine; decide, fun pn nn => ?_⟩
      have Sg1 := (same_new nn : Same Hf (upd Hf pn (.tup [.non])))
      have hpn : (upd Hf pn (.tup [.non])) pn = some (.tup [.non]) := upd_same
      revert Sg1 hpn
      generalize upd Hf pn (.tup [.non]) = Hg
      intro Sg1 hpn
      have Sg := Sf.trans Sg1
      refine ⟨a', pn, xs', [.non], rfl, rfl, subT Sg, .inl (.inl hpn), by show xs'.length + 1 ≤ sizeLine; omega, fun e => (hne' e).elim, (fun _ e => nomatch e), fun _ _ ph nh => ?_⟩
      have Sh1 := (same_new nh : Same Hg (upd Hg ph (.tup (xs' ++ [.non]))))
      have hph : (upd Hg ph (.tup (xs' ++ [.non]))) ph = some (.tup (xs' ++ [.non])) := upd_same
      revert Sh1 hph
      generalize upd Hg ph (.tup (xs' ++ [.non])) = Hh
      intro Sh1 hph
      have Sh := Sg.trans Sh1
      -- [..] * 2
      refine ⟨by show 6 ≤ sizeLine; decide, fun L nL => ?_⟩
      have Si1 := (same_new nL : Same Hh (upd Hh L (.lst [.ref pa, .ref pb, .ref pc, .ref pe, .ref pf, .ref ph])))
      have hL : (upd Hh L (.lst [.ref pa, .ref pb, .ref pc, .ref pe, .ref pf, .ref ph])) L = some (.lst [.ref pa, .ref pb, .ref pc, .ref pe, .ref pf, .ref ph]) := upd_same
      revert Si1 hL
      generalize upd Hh L (.lst [.ref pa, .ref pb, .ref pc, .ref pe, .ref pf, .ref ph]) = Hi
      intro Si1 hL
      have Si := Sh.trans Si1
      refine ⟨L, 2, _, rfl, rfl, hL, by decide, by decide, by show 6 * 2 ≤ sizeLine; decide, fun L2 nL2 => ?_⟩
      have Sj1 := (same_new nL2 : Same Hi (upd Hi L2 (.lst ([.ref pa, .ref pb, .ref pc, .ref pe, .ref pf, .ref ph] ++ [.ref pa, .ref pb, .ref pc, .ref pe, .ref pf, .ref ph]))))
      have hL2 : (upd Hi L2 (.lst (List.replicate (2 : Int).toNat [.ref pa, .ref pb, .ref pc, .ref pe, .ref pf, .ref ph]).flatten)) L2 = some (.lst ([.ref pa, .ref pb, .ref pc, .ref pe, .ref pf, .ref ph] ++ [.ref pa, .ref pb, .ref pc, .ref pe, .ref pf, .ref ph])) := by
        rw [upd_same]
        rfl
      have Sj1 : Same Hi (upd Hi L2 (.lst (List.replicate (2 : Int).toNat [.ref pa, .ref pb, .ref pc, .ref pe, .ref pf, .ref ph]).flatten)) := same_new nL2
      revert Sj1 hL2
      generalize upd Hi L2 (.lst (List.replicate (2 : Int).toNat [.ref pa, .ref pb, .ref pc, .ref pe, .ref pf, .ref ph]).flatten) = Hj
      intro hL2 Sj1
      have Sj := Si.trans Sj1
      refine ⟨s0, L2, _, _, rfl, rfl, Sj _ _ hs7, hL2, by show 11 + 12 ≤ sizeLine; decide, fun L3 nL3 => ?_⟩
      have Sk1 := (same_new nL3 : Same Hj (upd Hj L3 (.lst ([.non, .ref a1, .int 0, .int 1, .bl true, .str "name", .ref a2, .ref a3, .str "ab", .ref a4, wq] ++ ([.ref pa, .ref pb, .ref pc, .ref pe, .ref pf, .ref ph] ++ [.ref pa, .ref pb, .ref pc, .ref pe, .ref pf, .ref ph])))))
      have hL3 : (upd Hj L3 (.lst ([.non, .ref a1, .int 0, .int 1, .bl true, .str "name", .ref a2, .ref a3, .str "ab", .ref a4, wq] ++ ([.ref pa, .ref pb, .ref pc, .ref pe, .ref pf, .ref ph] ++ [.ref pa, .ref pb, .ref pc, .ref pe, .ref pf, .ref ph])))) L3 = some (.lst ([.non, .ref a1, .int 0, .int 1, .bl true, .str "name", .ref a2, .ref a3, .str "ab", .ref a4, wq] ++ ([.ref pa, .ref pb, .ref pc, .ref pe, .ref pf, .ref ph] ++ [.ref pa, .ref pb, .ref pc, .ref pe, .ref pf, .ref ph]))) := upd_same
      obtain ⟨_, nL3g, _⟩ := (D7.same Sj).ne nL3
      revert Sk1 hL3
      generalize (upd Hj L3 (.lst ([.non, .ref a1, .int 0, .int 1, .bl true, .str "name", .ref a2, .ref a3, .str "ab", .ref a4, wq] ++ ([.ref pa, .ref pb, .ref pc, .ref pe, .ref pf, .ref ph] ++ [.ref pa, .ref pb, .ref pc, .ref pe, .ref pf, .ref ph])))) = Hk
      intro Sk1 hL3
      have Sk := Sj.trans Sk1
      have tup' : ∀ {H' : Hp} {p : Addr} {ys : List V} {es : List PyData}, Same H7 H' → Same H' Hk → SqT K H' p ys → (∀ F, DpAll K F xs' ds' → DpAll K F ys es) → Dp K (off d g Hk) (.ref p) (.tuple es) := fun {H' p ys es} _ S2 h f =>
        .tup (sameT_sq ((SameT.of S2).trans (off_tups (D7.same Sk))) h) (f _ (offA Sk))
      have six : DpAll K (off d g Hk) [.ref pa, .ref pb, .ref pc, .ref pe, .ref pf, .ref ph] [.tuple (ds'.drop 1), .tuple (ds'.take (xs'.length - 1)), .tuple ds'.reverse, .tuple (ds' ++ ds'.drop (xs'.length - 1)), .list ds', .tuple (ds' ++ [.none])] := by
        refine .cons (tup' Sa ((Sab.trans (Sc1.trans (Sd1.trans (Se1.trans (Sf1.trans (Sg1.trans (Sh1.trans (Si1.trans (Sj1.trans Sk1)))))))))) hpa fun F h => dpAll_drop 1 h)
          (.cons (tup' Sb (Sc1.trans (Sd1.trans (Se1.trans (Sf1.trans (Sg1.trans (Sh1.trans (Si1.trans (Sj1.trans Sk1)))))))) hpb fun F h => dpAll_take _ h)
          (.cons (tup' Sc (Sd1.trans (Se1.trans (Sf1.trans (Sg1.trans (Sh1.trans (Si1.trans (Sj1.trans Sk1))))))) (.inl (.inl hpc)) fun F h => dpAll_rev h)
          (.cons (tup' Se (Sf1.trans (Sg1.trans (Sh1.trans (Si1.trans (Sj1.trans Sk1))))) (.inl (.inl hpe)) fun F h => dpAll_app h (dpAll_drop _ h))
          (.cons (.lst (SqL.of ?_) (offA Sk))
          (.cons (tup' Sh (Si1.trans (Sj1.trans Sk1)) (.inl (.inl hph)) fun F h => dpAll_app h (.cons .non .nil)) .nil)))))
        rw [off_at npfd npfg]
        exact (Sg1.trans (Sh1.trans (Si1.trans (Sj1.trans Sk1)))) _ _ hpf
      have itm : ∀ z ∈ ds', OkD z := fun z hz => okD_items ok0 hz
      have sixok : ∀ z ∈ ([.tuple (ds'.drop 1), .tuple (ds'.take (xs'.length - 1)), .tuple ds'.reverse, .tuple (ds' ++ ds'.drop (xs'.length - 1)), .list ds', .tuple (ds' ++ [.none])] : List PyData), OkD z := fun z hz => by
        simp only [List.mem_cons, List.not_mem_nil, or_false] at hz
        rcases hz with rfl | rfl | rfl | rfl | rfl | rfl
        · exact okD_tuple fun y hy => itm y (List.mem_of_mem_drop hy)
        · exact okD_tuple fun y hy => itm y (List.mem_of_mem_take hy)
        · exact okD_tuple fun y hy => itm y (List.mem_reverse.mp hy)
        · exact okD_tuple fun y hy => (List.mem_append.mp hy).elim (itm y) fun h => itm y (List.mem_of_mem_drop h)
        · exact okD_list itm
        · exact okD_tuple fun y hy => (List.mem_append.mp hy).elim (itm y) fun h => by rw [List.mem_singleton.mp h]; rfl
      exact fin Hk L3 _ _ _ _ Sk hL3 nL3g (dpAll_app (dpAll_same (off_same Sk) hbase) (dpAll_app six six)) (fun z hz => (List.mem_append.mp hz).elim (base_ok ok1 z) fun h => (List.mem_append.mp h).elim (sixok z) (sixok z)) (by simp) (by show 11 + 12 ≤ 900; decide)
    · rcases hstr with hstr | hstr | hstr
      · subst hstr
        cases hwp7
        refine iteF ?_
        refine ⟨_, rfl, .str "text", .ty "str", _, _, isStr (.str "text"), rfl, .ty _, tyP (Same.refl _), kit_str _, _, rfl, ?_⟩
        refine iteT ?_
        refine ⟨_, rfl, ?_⟩
        refine ⟨_, rfl, _, _, rfl, rfl, by decide +kernel, ?_⟩
        refine ⟨_, rfl, _, rfl, ?_⟩
        dsimp only [tNoPart]
        refine ⟨_, rfl, by decide +kernel, ?_⟩
        refine ⟨_, rfl, ⟨_, rfl⟩, _, rfl, rfl, by decide +kernel, ?_⟩
        refine ⟨by show 6 ≤ sizeLine; decide, fun L nL => ?_⟩
        have Sj := (same_new nL : Same H7 (upd H7 L (.lst [.str ("text" ++ "a"), .str (cutS "text" (some 1) none), .str (Txt.upper "text"), .str "fun", .str "x", .str "call"])))
        have hL : (upd H7 L (.lst [.str ("text" ++ "a"), .str (cutS "text" (some 1) none), .str (Txt.upper "text"), .str "fun", .str "x", .str "call"])) L = some (.lst [.str ("text" ++ "a"), .str (cutS "text" (some 1) none), .str (Txt.upper "text"), .str "fun", .str "x", .str "call"]) := upd_same
        revert Sj hL
        generalize upd H7 L (.lst [.str ("text" ++ "a"), .str (cutS "text" (some 1) none), .str (Txt.upper "text"), .str "fun", .str "x", .str "call"]) = Hj
        intro Sj hL
        refine ⟨s0, L, _, _, rfl, rfl, Sj _ _ hs7, hL, by show 11 + 6 ≤ sizeLine; decide, fun L3 nL3 => ?_⟩
        have Sk := Sj.trans (same_new nL3 : Same Hj (upd Hj L3 (.lst ([.non, .ref a1, .int 0, .int 1, .bl true, .str "name", .ref a2, .ref a3, .str "ab", .ref a4, wq] ++ [.str ("text" ++ "a"), .str (cutS "text" (some 1) none), .str (Txt.upper "text"), .str "fun", .str "x", .str "call"]))))
        obtain ⟨_, nL3g, _⟩ := (D7.same Sj).ne nL3
        refine fin _ L3 _ (base11 y1 ++ [.str ("text" ++ "a"), .str (cutS "text" (some 1) none), .str (Txt.upper "text"), .str "fun", .str "x", .str "call"]) _ _ Sk upd_same nL3g (dpAll_app (dpAll_same (off_same Sk) hbase) (.cons (.str _) (.cons (.str _) (.cons (.str _) (.cons (.str _) (.cons (.str _) (.cons (.str _) .nil)))))))
          (fun z hz => (List.mem_append.mp hz).elim (base_ok ok1 z) fun h => ?_) (by simp) (by show 11 + 6 ≤ 900; decide)
        simp only [List.mem_cons, List.not_mem_nil, or_false] at h
        rcases h with rfl | rfl | rfl | rfl | rfl | rfl <;> (unfold OkD; decide +kernel)
      · subst hstr
        cases hwp7
        refine iteF ?_
        refine ⟨_, rfl, .str "to", .ty "str", _, _, isStr (.str "to"), rfl, .ty _, tyP (Same.refl _), kit_str _, _, rfl, ?_⟩
        refine iteT ?_
        refine ⟨_, rfl, ?_⟩
        refine ⟨_, rfl, _, _, rfl, rfl, by decide +kernel, ?_⟩
        refine ⟨_, rfl, _, rfl, ?_⟩
        dsimp only [tNoPart]
        refine ⟨_, rfl, by decide +kernel, ?_⟩
        refine ⟨_, rfl, ⟨_, rfl⟩, _, rfl, rfl, by decide +kernel, ?_⟩
        refine ⟨by show 6 ≤ sizeLine; decide, fun L nL => ?_⟩
        have Sj := (same_new nL : Same H7 (upd H7 L (.lst [.str ("to" ++ "a"), .str (cutS "to" (some 1) none), .str (Txt.upper "to"), .str "fun", .str "x", .str "call"])))
        have hL : (upd H7 L (.lst [.str ("to" ++ "a"), .str (cutS "to" (some 1) none), .str (Txt.upper "to"), .str "fun", .str "x", .str "call"])) L = some (.lst [.str ("to" ++ "a"), .str (cutS "to" (some 1) none), .str (Txt.upper "to"), .str "fun", .str "x", .str "call"]) := upd_same
        revert Sj hL
        generalize upd H7 L (.lst [.str ("to" ++ "a"), .str (cutS "to" (some 1) none), .str (Txt.upper "to"), .str "fun", .str "x", .str "call"]) = Hj
        intro Sj hL
        refine ⟨s0, L, _, _, rfl, rfl, Sj _ _ hs7, hL, by show 11 + 6 ≤ sizeLine; decide, fun L3 nL3 => ?_⟩
        have Sk := Sj.trans (same_new nL3 : Same Hj (upd Hj L3 (.lst ([.non, .ref a1, .int 0, .int 1, .bl true, .str "name", .ref a2, .ref a3, .str "ab", .ref a4, wq] ++ [.str ("to" ++ "a"), .str (cutS "to" (some 1) none), .str (Txt.upper "to"), .str "fun", .str "x", .str "call"]))))
        obtain ⟨_, nL3g, _⟩ := (D7.same Sj).ne nL3
        refine fin _ L3 _ (base11 y1 ++ [.str ("to" ++ "a"), .str (cutS "to" (some 1) none), .str (Txt.upper "to"), .str "fun", .str "x", .str "call"]) _ _ Sk upd_same nL3g (dpAll_app (dpAll_same (off_same Sk) hbase) (.cons (.str _) (.cons (.str _) (.cons (.str _) (.cons (.str _) (.cons (.str _) (.cons (.str _) .nil)))))))
          (fun z hz => (List.mem_append.mp hz).elim (base_ok ok1 z) fun h => ?_) (by simp) (by show 11 + 6 ≤ 900; decide)
        simp only [List.mem_cons, List.not_mem_nil, or_false] at h
        rcases h with rfl | rfl | rfl | rfl | rfl | rfl <;> (unfold OkD; decide +kernel)
      · subst hstr
        cases hwp7
        refine iteT ?_
        refine ⟨_, rfl, _, _, rfl, rfl, _, rfl, _, _, rfl, rfl, _, rfl, _, rfl, by decide +kernel, ?_⟩
        refine ⟨_, rfl, _, _, rfl, rfl, ?_⟩
        refine ⟨by show 6 ≤ sizeLine; decide, fun L3 nL3 => ?_⟩
        have Sk := (same_new nL3 : Same H7 (upd H7 L3 (.lst [.int (0 + 1), .int (0 - 1), .str (toString (0 : Int)), .non, .int (0 - 0), .bl true])))
        obtain ⟨_, nL3g, _⟩ := D7.ne nL3
        refine fin _ L3 _ [.int (0 + 1), .int (0 - 1), .str (toString (0 : Int)), .none, .int (0 - 0), .bool true] _ _ Sk upd_same nL3g (.cons (.int _) (.cons (.int _) (.cons (.str _) (.cons .non (.cons (.int _) (.cons (.bl _) .nil))))))
          (fun z h => ?_) (by simp) (by show 6 ≤ 900; decide)
        simp only [List.mem_cons, List.not_mem_nil, or_false] at h
        rcases h with rfl | rfl | rfl | rfl | rfl | rfl <;> (unfold OkD; decide +kernel)
end
end My
set_option Elab.async false
set_option linter.all false
set_option maxRecDepth 100000
set_option maxHeartbeats 4000000
namespace My
open PySem L2 Kn
/-! ### _law_oh_bad_kind -/
abbrev s_oh_bad_kind : Stmt := top 30
def tx : PyData := .tuple [.str "text"]
def wideK : Nat → Kd
  | 0 => .text
  | n + 1 => .to .text (wideK n)
theorem wide_ends : ∀ n, (wideK n).ends = n + 1
  | 0 => rfl
  | n + 1 => by
    show 1 + (wideK n).ends = n + 1 + 1
    rw [wide_ends n]
    omega
def bad1 : List PyData := [.none, .int 5, .str "text", .tuple [], .tuple [.str "text", .str "text"], .list [.str "text"], .tuple [.str "to", tx], .tuple [.str "to", tx, .none]]
def bad2 : List PyData := [.tuple [.str "from", tx, tx], .tuple [.str "text", .int 1], .tuple [tx], .tuple [.str "to", tx, .list [.str "text"]]]
theorem bad1_ok : ∀ x ∈ bad1, OkD x ∧ isKd x = false := by
  intro x hx
  simp only [bad1, List.mem_cons, List.not_mem_nil, or_false] at hx
  rcases hx with rfl | rfl | rfl | rfl | rfl | rfl | rfl | rfl <;> exact ⟨by unfold OkD; decide +kernel, by simp [isKd, endsD, parse, tx]⟩
theorem bad2_ok : ∀ x ∈ bad2, OkD x ∧ isKd x = false := by
  intro x hx
  simp only [bad2, List.mem_cons, List.not_mem_nil, or_false] at hx
  rcases hx with rfl | rfl | rfl | rfl <;> exact ⟨by unfold OkD; decide +kernel, by first | (simp [isKd, endsD, parse, tx]; done) | (simp [isKd, endsD, parse, tx]; rw [if_neg (by decide +kernel)])⟩
theorem bad_ok : ∀ x ∈ (bad1 ++ [(wideK 60).data]) ++ bad2, OkD x ∧ isKd x = false := by
  intro x hx
  rcases List.mem_append.mp hx with h | h
  · rcases List.mem_append.mp h with h | h
    · exact bad1_ok x h
    · rw [List.mem_singleton.mp h]
      refine ⟨okD_kd _, ?_⟩
      rw [isKd_data, wide_ends]
      rfl
  · exact bad2_ok x h
def spBadK (K : PySem.W.Frag) : Sp := fun vs H Q _ => ∃ (d g c : Addr) (m : Nat), vs = [.ref d] ∧ DrawSt H d g c m ∧ m ≤ 2 ^ 40 ∧
  ∀ (H' : Hp) (v : V) (x : PyData), (∀ H'' : Hp, Dr d g H' H'' → Dp K H'' v x) → OkD x → isKd x = false → DrawSt H' d g c (m + 1) → Dr d g H H' → Q v H'
section
variable {P : Program} {w : World} {K : PySem.W.Frag} {mg : Str → Option Value} {base : Heap} {tA BK BE HE : Addr}
theorem sc_oh_bad_kind : FnScope ["state", "great", "lap", "one", "some"] ["state"] (defScope s_oh_bad_kind) := ⟨rfl, rfl, rfl, by decide +kernel, rfl, by decide +kernel, by decide +kernel⟩
theorem ok_oh_bad_kind {f f1 : Addr} {fd fd1 : FuncData} (F : Fun K "_law_oh_bad_kind" "_law_oh_bad_kind" s_oh_bad_kind f fd) (zr : mg "range" = none)
    (G1 : FnOk P w K mg base CX0 3 f1 fd1 ["state", "some"] (spPick K)) (g1 : mg "_law_pick" = some (.ref f1)) (k1 : PySem.W.keepIn K (.ref f1) = true) (b1 : Binds K fd1 ["state", "some"] []) : FnOk P w K mg base CX0 4 f fd ["state"] (spBadK K) := by
  refine F.ok sc_oh_bad_kind (fun vs H Q E h => ?_) (fun cdv A outer s0 H vs Q E hr h => ?_)
  · obtain ⟨d, g, c, m, rfl, _⟩ := h
    rfl
  · obtain ⟨d, g, c, m, rfl, D, hm, q⟩ := h
    refine ⟨_, pss_cons (ps_set (i := 1) sc_oh_bad_kind.nd rfl (Or.inl rfl) (pe_tup (pa_cons pe_str pa_nil)))
      (pss_cons (ps_for PassesOwn.never rfl (pi_range1 (by rfl) zr (pa_cons pe_int pa_nil)) (pg_name (i := 2) sc_oh_bad_kind.nd rfl (Or.inl rfl))
        (pss_one (ps_set (i := 1) sc_oh_bad_kind.nd rfl (Or.inl rfl) (pe_tup (pa_cons pe_str (pa_cons (by exact (pe_tup (pa_cons pe_str pa_nil))) (pa_cons (pv 1) pa_nil)))))))
      (pss_cons (ps_set (i := 3) sc_oh_bad_kind.nd rfl (Or.inl rfl) (pe_tup (pa_cons pe_str pa_nil)))
      (pss_cons (ps_set (i := 4) sc_oh_bad_kind.nd rfl (Or.inl rfl) (pe_lst (pa_cons pe_non (pa_cons pe_int (pa_cons pe_str (pa_cons (by exact (pe_tup pa_nil)) (pa_cons (by exact (pe_tup (pa_cons pe_str (pa_cons pe_str pa_nil)))) (pa_cons (by exact (pe_lst (pa_cons pe_str pa_nil)))
          (pa_cons (by exact (pe_tup (pa_cons pe_str (pa_cons (pv 3) pa_nil)))) (pa_cons (by exact (pe_tup (pa_cons pe_str (pa_cons (pv 3) (pa_cons pe_non pa_nil))))) (pa_cons (pv 1) pa_nil)))))))))))
      (pss_one (ps_ret (by exact (pe_call G1 hr rfl g1 k1 b1 .nil pass0 (pa_cons (pv 0) (pa_cons (by exact (pe_op op_cat (pv 4) (pe_lst (pa_cons (by exact (pe_tup (pa_cons pe_str (pa_cons (pv 3) (pa_cons (pv 3) pa_nil))))) (pa_cons (by exact (pe_tup (pa_cons pe_str (pa_cons pe_int pa_nil))))
          (pa_cons (by exact (pe_tup (pa_cons (pv 3) pa_nil))) (pa_cons (by exact (pe_tup (pa_cons pe_str (pa_cons (pv 3) (pa_cons (by exact (pe_lst (pa_cons pe_str pa_nil))) pa_nil))))) pa_nil))))))) pa_nil))))))))), ?_⟩
    refine ⟨by show 1 ≤ sizeLine; decide, fun p hp => ?_⟩
    have S1 := (same_new hp : Same H (upd H p (.tup [.str "text"])))
    have hpp : (upd H p (.tup [.str "text"])) p = some (.tup [.str "text"]) := upd_same
    revert S1 hpp
    generalize upd H p (.tup [.str "text"]) = H1
    intro S1 hpp
    refine ⟨60, rfl, by decide, by decide, ?_⟩
    refine for_it (walk_range (lo := 0) (n := (60 : Int).toNat)) (fun i σ H' => ∃ (wv : V) (o2 : Option V), σ = [some (.ref d), some wv, o2, none, none] ∧ KdAt K H' wv (wideK i) ∧ Same H1 H') ⟨_, none, rfl, ⟨p, rfl, .inl (.inl hpp)⟩, Same.refl _⟩ (fun _ _ _ _ _ => True.intro) ?_ ?_
    · rintro i x σ H4 H' _ ⟨wv, o2, rfl, hw, S4⟩ ⟨rfl, rfl⟩
      refine ⟨by show 1 ≤ sizeLine; decide, fun a ha => ⟨_, rfl, by show 3 ≤ sizeLine; decide, fun b hb => ?_⟩⟩
      have S5 : Same H' (upd H' a (.tup [.str "text"])) := same_new ha
      have S6 : Same (upd H' a (.tup [.str "text"])) (upd (upd H' a (.tup [.str "text"])) b (.tup [.str "to", .ref a, wv])) := same_new hb
      exact ⟨.ref b, _, rfl, ⟨b, .ref a, wv, rfl, .inl (.inl upd_same), ⟨a, rfl, .inl (.inl (S6 _ _ upd_same))⟩, hw.same (SameT.of (S5.trans S6))⟩, S4.trans (S5.trans S6)⟩
    · rintro σ H2 ⟨wv, o2, rfl, hw, S2⟩
      have e60 : (60 : Int).toNat = 60 := rfl
      rw [e60] at hw
      -- one
      refine ⟨by show 1 ≤ sizeLine; decide, fun o no => ?_⟩
      have S3 := (same_new no : Same H2 (upd H2 o (.tup [.str "text"])))
      have ho : (upd H2 o (.tup [.str "text"])) o = some (.tup [.str "text"]) := upd_same
      revert S3 ho
      generalize upd H2 o (.tup [.str "text"]) = H3
      intro S3 ho
      -- some
      refine ⟨Nat.zero_le _, fun a1 m1 => ⟨by show 2 ≤ sizeLine; decide, fun a2 m2 => ⟨by show 1 ≤ sizeLine; decide, fun a3 m3 => ⟨_, rfl, by show 2 ≤ sizeLine; decide, fun a4 m4 => ⟨_, rfl, by show 3 ≤ sizeLine; decide, fun a5 m5 => ⟨_, rfl, ?_⟩⟩⟩⟩⟩⟩
      have Z1 := (same_new m1 : Same H3 (upd H3 a1 (.tup [])))
      have c1 : (upd H3 a1 (.tup [])) a1 = some (.tup []) := upd_same
      revert Z1 c1 m2 m3 m4 m5
      generalize upd H3 a1 (.tup []) = J1
      intro m2 m3 m4 m5 Z1 c1
      have Z2 := (same_new m2 : Same J1 (upd J1 a2 (.tup [.str "text", .str "text"])))
      have c2 : (upd J1 a2 (.tup [.str "text", .str "text"])) a2 = some (.tup [.str "text", .str "text"]) := upd_same
      revert Z2 c2 m3 m4 m5
      generalize upd J1 a2 (.tup [.str "text", .str "text"]) = J2
      intro m3 m4 m5 Z2 c2
      have Z3 := (same_new m3 : Same J2 (upd J2 a3 (.lst [.str "text"])))
      have c3 : (upd J2 a3 (.lst [.str "text"])) a3 = some (.lst [.str "text"]) := upd_same
      revert Z3 c3 m4 m5
      generalize upd J2 a3 (.lst [.str "text"]) = J3
      intro m4 m5 Z3 c3
      have Z4 := (same_new m4 : Same J3 (upd J3 a4 (.tup [.str "to", .ref o])))
      have c4 : (upd J3 a4 (.tup [.str "to", .ref o])) a4 = some (.tup [.str "to", .ref o]) := upd_same
      revert Z4 c4 m5
      generalize upd J3 a4 (.tup [.str "to", .ref o]) = J4
      intro m5 Z4 c4
      have Z5 := (same_new m5 : Same J4 (upd J4 a5 (.tup [.str "to", .ref o, .non])))
      have c5 : (upd J4 a5 (.tup [.str "to", .ref o, .non])) a5 = some (.tup [.str "to", .ref o, .non]) := upd_same
      revert Z5 c5
      generalize upd J4 a5 (.tup [.str "to", .ref o, .non]) = J5
      intro Z5 c5
      have ZZ := Z1.trans (Z2.trans (Z3.trans (Z4.trans Z5)))
      refine ⟨by show 9 ≤ sizeLine; decide, fun l nl => ?_⟩
      have Z6 := (same_new nl : Same J5 (upd J5 l (.lst [.non, .int 5, .str "text", .ref a1, .ref a2, .ref a3, .ref a4, .ref a5, wv])))
      have hl : (upd J5 l (.lst [.non, .int 5, .str "text", .ref a1, .ref a2, .ref a3, .ref a4, .ref a5, wv])) l = some (.lst [.non, .int 5, .str "text", .ref a1, .ref a2, .ref a3, .ref a4, .ref a5, wv]) := upd_same
      revert Z6 hl
      generalize upd J5 l (.lst [.non, .int 5, .str "text", .ref a1, .ref a2, .ref a3, .ref a4, .ref a5, wv]) = J6
      intro Z6 hl
      -- the others
      refine ⟨_, rfl, _, rfl, _, rfl, _, rfl, by show 3 ≤ sizeLine; decide, fun e1 n1 => ⟨by show 2 ≤ sizeLine; decide, fun e2 n2 => ⟨_, rfl, by show 1 ≤ sizeLine; decide, fun e3 n3 => ⟨_, rfl, by show 1 ≤ sizeLine; decide, fun e4 n4 => ⟨by show 3 ≤ sizeLine; decide, fun e5 n5 => ?_⟩⟩⟩⟩⟩
      have Y1 := (same_new n1 : Same J6 (upd J6 e1 (.tup [.str "from", .ref o, .ref o])))
      have f1' : (upd J6 e1 (.tup [.str "from", .ref o, .ref o])) e1 = some (.tup [.str "from", .ref o, .ref o]) := upd_same
      revert Y1 f1' n2 n3 n4 n5
      generalize upd J6 e1 (.tup [.str "from", .ref o, .ref o]) = I1
      intro n2 n3 n4 n5 Y1 f1'
      have Y2 := (same_new n2 : Same I1 (upd I1 e2 (.tup [.str "text", .int 1])))
      have f2' : (upd I1 e2 (.tup [.str "text", .int 1])) e2 = some (.tup [.str "text", .int 1]) := upd_same
      revert Y2 f2' n3 n4 n5
      generalize upd I1 e2 (.tup [.str "text", .int 1]) = I2
      intro n3 n4 n5 Y2 f2'
      have Y3 := (same_new n3 : Same I2 (upd I2 e3 (.tup [.ref o])))
      have f3' : (upd I2 e3 (.tup [.ref o])) e3 = some (.tup [.ref o]) := upd_same
      revert Y3 f3' n4 n5
      generalize upd I2 e3 (.tup [.ref o]) = I3
      intro n4 n5 Y3 f3'
      have Y4 := (same_new n4 : Same I3 (upd I3 e4 (.lst [.str "text"])))
      have f4' : (upd I3 e4 (.lst [.str "text"])) e4 = some (.lst [.str "text"]) := upd_same
      revert Y4 f4' n5
      generalize upd I3 e4 (.lst [.str "text"]) = I4
      intro n5 Y4 f4'
      have Y5 := (same_new n5 : Same I4 (upd I4 e5 (.tup [.str "to", .ref o, .ref e4])))
      have f5' : (upd I4 e5 (.tup [.str "to", .ref o, .ref e4])) e5 = some (.tup [.str "to", .ref o, .ref e4]) := upd_same
      revert Y5 f5'
      generalize upd I4 e5 (.tup [.str "to", .ref o, .ref e4]) = I5
      intro Y5 f5'
      have YY := Y1.trans (Y2.trans (Y3.trans (Y4.trans Y5)))
      refine ⟨by show 4 ≤ sizeLine; decide, fun l2 nl2 => ?_⟩
      have Y6 := (same_new nl2 : Same I5 (upd I5 l2 (.lst [.ref e1, .ref e2, .ref e3, .ref e5])))
      have hl2 : (upd I5 l2 (.lst [.ref e1, .ref e2, .ref e3, .ref e5])) l2 = some (.lst [.ref e1, .ref e2, .ref e3, .ref e5]) := upd_same
      revert Y6 hl2
      generalize upd I5 l2 (.lst [.ref e1, .ref e2, .ref e3, .ref e5]) = I6
      intro Y6 hl2
      refine ⟨l, l2, _, _, rfl, rfl, (YY.trans Y6) _ _ hl, hl2, by show 9 + 4 ≤ sizeLine; decide, fun l3 nl3 => ?_⟩
      have Y7 := (same_new nl3 : Same I6 (upd I6 l3 (.lst ([.non, .int 5, .str "text", .ref a1, .ref a2, .ref a3, .ref a4, .ref a5, wv] ++ [.ref e1, .ref e2, .ref e3, .ref e5]))))
      have hl3 : (upd I6 l3 (.lst ([.non, .int 5, .str "text", .ref a1, .ref a2, .ref a3, .ref a4, .ref a5, wv] ++ [.ref e1, .ref e2, .ref e3, .ref e5]))) l3 = some (.lst ([.non, .int 5, .str "text", .ref a1, .ref a2, .ref a3, .ref a4, .ref a5, wv] ++ [.ref e1, .ref e2, .ref e3, .ref e5])) := upd_same
      have SI6 : Same H I6 := S1.trans (S2.trans (S3.trans (ZZ.trans (Z6.trans (YY.trans Y6)))))
      obtain ⟨_, nl3g, _⟩ := (D.same SI6).ne nl3
      revert Y7 hl3
      generalize (upd I6 l3 (.lst ([.non, .int 5, .str "text", .ref a1, .ref a2, .ref a3, .ref a4, .ref a5, wv] ++ [.ref e1, .ref e2, .ref e3, .ref e5]))) = I7
      intro Y7 hl3
      have SI7 := SI6.trans Y7
      have D7 := D.same SI7
      have late : ∀ {J : Hp} {p : Addr} {ys : List V}, Same J I7 → J p = some (.tup ys) → SqT K (off d g I7) p ys := fun {J p ys} S h => sameT_sq ((SameT.of S).trans (off_tups D7)) (.inl (.inl h))
      have W6 := Y6.trans Y7
      have V5 := Y5.trans W6
      have V4 := Y4.trans V5
      have V3 := Y3.trans V4
      have V2 := Y2.trans V3
      have V1 := Y1.trans V2
      have U6 := Z6.trans V1
      have U5 := Z5.trans U6
      have U4 := Z4.trans U5
      have U3 := Z3.trans U4
      have U2 := Z2.trans U3
      have U1 := Z1.trans U2
      have oD : Dp K (off d g I7) (.ref o) tx := .tup (late U1 ho) (.cons (.str _) .nil)
      have lD : ∀ {J J' : Hp} {a : Addr}, Same H J → J a = none → J' a = some (.lst [.str "text"]) → Same J' I7 → Dp K (off d g I7) (.ref a) (.list [.str "text"]) := fun {J J' a} SJ na e S' => by
        obtain ⟨q1, q2, _⟩ := (D.same SJ).ne na
        refine .lst (SqL.of ?_) (.cons (.str _) .nil)
        rw [off_at q1 q2]
        exact S' _ _ e
      have SH3 : Same H H3 := S1.trans (S2.trans S3)
      have all : DpAll K (off d g I7) ([.non, .int 5, .str "text", .ref a1, .ref a2, .ref a3, .ref a4, .ref a5, wv] ++ [.ref e1, .ref e2, .ref e3, .ref e5]) ((bad1 ++ [(wideK 60).data]) ++ bad2) := by
        refine dpAll_app (.cons .non (.cons (.int 5) (.cons (.str _) (.cons (.tup (late U2 c1) .nil) (.cons (.tup (late U3 c2) (.cons (.str _) (.cons (.str _) .nil))) (.cons (lD (SH3.trans (Z1.trans Z2)) m3 c3 U4)
          (.cons (.tup (late U5 c4) (.cons (.str _) (.cons oD .nil))) (.cons (.tup (late U6 c5) (.cons (.str _) (.cons oD (.cons .non .nil)))) (.cons ?_ .nil)))))))))
          (.cons (.tup (late V2 f1') (.cons (.str _) (.cons oD (.cons oD .nil)))) (.cons (.tup (late V3 f2') (.cons (.str _) (.cons (.int 1) .nil))) (.cons (.tup (late V4 f3') (.cons oD .nil)) (.cons (.tup (late W6 f5') (.cons (.str _) (.cons oD (.cons ?_ .nil)))) .nil))))
        · exact (hw.same ((SameT.of (S3.trans U1)).trans (off_tups D7))).dp
        · exact lD (SH3.trans (ZZ.trans (Z6.trans (Y1.trans (Y2.trans Y3))))) n4 f4' V5
      refine ⟨d, g, c, l3, m, _, rfl, D7, hm, hl3, nl3g, by simp, by show 13 < _; decide, fun H9 n v hv D9 dr => ?_⟩
      have dr : Dr d g I7 H9 := dr
      obtain ⟨x, hx, hxd⟩ := dpAll_at all hv
      obtain ⟨o1, o2'⟩ := bad_ok x (List.mem_of_getElem? hx)
      exact q H9 v x (fun H'' dr'' => dp_same ((off_of (dr.trans dr'')).trans (off_sub d g H'')) hxd) o1 o2' D9 ((Dr.of SI7).trans dr)
end
end My
set_option Elab.async false
set_option linter.all false
set_option maxRecDepth 100000
set_option maxHeartbeats 8000000
namespace My
open PySem L2 Kn
/-! ### a def at f, its code object told -/
theorem okG_at {P : Program} {w : World} {K : PySem.W.Frag} {mg : Str → Option Value} {base : Heap} {x qual : Str} {st : Stmt} {f : Addr} {oc kV doc pm cdv ct : Value} {od an : Option Addr} {osl : Array (Option Value)} {N ps : List Str} {k : Nat} {sp : Sp}
    (lk : K.lookup f = some ⟨oc, od, .func (PySem.W.fnOf x qual (defArgs st) (defBody st) (defScope st) .none kV doc pm an cdv ct), osl⟩) (hcd : PySem.W.codeIn K cdv qual = true) (S : FnScope N ps (defScope st)) (len : ∀ vs H Q E, sp vs H Q E → vs.length = ps.length)
    (hbody : ∀ (A : Around) (outer : List Env) (s : Shared) (H : Hp) (vs : List V) (Q : VK) (E : XK), Room k (A.deeper (PyProof.Rows.envOfC qual (defScope st) s.heap.objs.size f cdv)) → Grd (A.deeper (PyProof.Rows.envOfC qual (defScope st) s.heap.objs.size f cdv)) → sp vs H Q E →
      ∃ t, PSs (cxOf CX0 P w K mg base N qual (defScope st) f cdv A outer s H E).nox (defBody st) t ∧ t { nx := fun _ H' => Q .non H', rt := Q } (start N vs) H) :
    FnG P w K mg base CX0 (k + 1) f (PySem.W.fnOf x qual (defArgs st) (defBody st) (defScope st) .none kV doc pm an cdv ct) ps sp := by
  refine ⟨len, fun A outer s H args us vs Q E hr hgd e0 hb rv hsp => ?_⟩
  exact LamX.run_ofS lk hcd S hr e0 hb rv (len _ _ _ _ hsp) fun hr' => by
    obtain ⟨t, h1, h2⟩ := hbody A outer s H vs Q E hr' (hgd.deeper _ _ _ _ _) hsp
    exact ⟨t, h1.nox, h2⟩
/-! ### all but the tables of code objects stays -/
theorem ext_same {H H' : Hp} (e : Same H H') : LamX.ExtN H H' := LamX.ExtN.of e
theorem ext_tups {H H' : Hp} (e : LamX.ExtN H H') : SameT H H' := fun b xs h => by
  rcases h with h | ⟨o, h⟩
  · exact .inl (e _ _ h fun ps z => nomatch z)
  · exact .inr ⟨o, e _ _ h fun ps z => nomatch z⟩
theorem ext_sqL {K : PySem.W.Frag} {H H' : Hp} (e : LamX.ExtN H H') {a : Addr} {xs : List V} (h : SqL K H a xs) : SqL K H' a xs := by
  rcases h with (h | ⟨o, h⟩) | h
  · exact .inl (.inl (e _ _ h fun ps z => nomatch z))
  · exact .inl (.inr ⟨o, e _ _ h fun ps z => nomatch z⟩)
  · exact .inr h
mutual
theorem ext_dp {K : PySem.W.Frag} {H H' : Hp} (e : LamX.ExtN H H') : ∀ {v : V} {d : PyData}, Dp K H v d → Dp K H' v d
  | _, _, .non => .non
  | _, _, .bl b => .bl b
  | _, _, .int i => .int i
  | _, _, .str x => .str x
  | _, _, .lst h r => .lst (ext_sqL e h) (ext_dpAll e r)
  | _, _, .tup h r => .tup (sameT_sq (ext_tups e) h) (ext_dpAll e r)
theorem ext_dpAll {K : PySem.W.Frag} {H H' : Hp} (e : LamX.ExtN H H') : ∀ {vs : List V} {ds : List PyData}, DpAll K H vs ds → DpAll K H' vs ds
  | _, _, .nil => .nil
  | _, _, .cons h r => .cons (ext_dp e h) (ext_dpAll e r)
end

/-! ### law -/
abbrev s_law : Stmt := top 35
def lamQ : Str := (PyProof.Rows.envOfC "law" (defScope s_law) 0 0 .none).qual ++ "<lambda>"
def spLaw00 (K : PySem.W.Frag) (PL : Addr) : Sp := fun vs H Q _ => ∃ (a : Addr) (ns : List Int), vs = [.ref a] ∧ SqL K H a (ns.map V.int) ∧ ns.length ≤ 63 ∧ H PL = some (.tbl #[]) ∧ ∀ H', Q (.bl true) H'
theorem read_caught {K : PySem.W.Frag} {PL C HE : Addr} {lq : Str} {t : XK → TE} {σ : St} {H : Hp} {Q : VK} (hT : LamX.Tabs [(PL, lq)] H) (em : PySem.W.exmOne K (.ref C) (.ref HE) = some true) (ec : ExcC K C) (kit : PySem.W.kitOne K (.ref C) (.ref C) = some true)
    (hb : ∀ H8, LamX.ExtN H H8 → ∀ (E : XK) (Q8 : VK), (∀ H9, Same H8 H9 → E (.ref C) none H9) → t E σ H8 Q8)
    (q : ∀ H10, LamX.ExtN H H10 → LamX.Tabs [(PL, lq)] H10 → Q (.bl true) H10) :
    tCB (rIsC K) (tCons (LamX.tLam [(PL, lq)] (TTc K HE) t) (tCons (tC (.ref C)) tNil)) σ H Q :=
  ⟨hT, fun H8 e8 T8 => hb H8 e8 _ _ fun H9 S9 => ⟨em, fun q1 n1 => .inl ⟨q1, C, .ref C, .ref C, true, rfl, .inl upd_same, ec, (fun _ z => z), kit, q _ (e8.trans (ext_same (S9.trans (same_new n1)))) (T8.ext (S9.trans (same_new n1)))⟩⟩⟩
theorem fnOk_up {P : Program} {w : World} {K : PySem.W.Frag} {mg : Str → Option Value} {base : Heap} {CX : CXT} {k k' : Nat} {f : Addr} {fd : FuncData} {ps : List Str} {sp : Sp} (F : FnOk P w K mg base CX k f fd ps sp) (h : k ≤ k') : FnOk P w K mg base CX k' f fd ps sp :=
  ⟨F.len, fun A outer s H args us vs Q E hr => F.run A outer s H args us vs Q E (hr.mono h)⟩
theorem DrawSt.extN {H H' : Hp} {d g c : Addr} {m : Nat} (D : DrawSt H d g c m) (e : LamX.ExtN H H') : DrawSt H' d g c m := by
  obtain ⟨gs, cs, r, t, h1, h2, h3, rest⟩ := D
  exact ⟨gs, cs, r, t, e _ _ h1 (fun _ z => nomatch z), e _ _ h2 (fun _ z => nomatch z), e _ _ h3 (fun _ z => nomatch z), rest⟩
theorem tabs_dr {T : List (Addr × Str)} {H H' : Hp} {d g c : Addr} {m : Nat} (h : LamX.Tabs T H) (D : DrawSt H d g c m) (e : Dr d g H H') : LamX.Tabs T H' := fun p hp => by
  obtain ⟨gs, cs, r, t, h1, h2, _⟩ := D
  obtain ⟨ps, a1, a2, a3⟩ := h p hp
  refine ⟨ps, e _ _ a1 (by rintro e; rw [e, h1] at a1; cases a1) (by rintro e; rw [e, h2] at a1; cases a1), a2, fun pos cv hc => ?_⟩
  obtain ⟨c', b1, b2⟩ := a3 pos cv hc
  refine ⟨c', b1, e _ _ b2 (by rintro e; rw [e, h1] at b2; unfold LamX.CodeO at b2; cases b2) (by rintro e; rw [e, h2] at b2; unfold LamX.CodeO at b2; cases b2)⟩
structure DefC (P : Program) (w : World) (K : PySem.W.Frag) (mg : Str → Option Value) (base : Heap) (CX : CXT) (k : Nat) (x : Str) (ps : List Str) (sp : Sp) (f : Addr) (fd : FuncData) : Prop where
  ok : FnOk P w K mg base CX k f fd ps sp
  gf : mg x = some (.ref f)
  kf : PySem.W.keepIn K (.ref f) = true
  bf : Binds K fd ps []
def KwB (K : PySem.W.Frag) (fd : FuncData) (ps : List Str) : Prop := ∀ (s : Shared) (ws : List Value), K.In s.heap → ws.length = ps.length → BindsTo s fd ⟨[], ps.zip ws⟩ (ps.zip ws)
/-- the three that are told of a kind -/
def Works (K : PySem.W.Frag) (BK fA fE fO : Addr) : Addr → Sp → Prop := fun f sp => (f = fA ∧ sp = spTell BK K (gArgs K)) ∨ (f = fE ∧ sp = spTell BK K (gNum Kd.ends)) ∨ (f = fO ∧ sp = spTell BK K (gNum ordK))
theorem works_bad {K : PySem.W.Frag} {BK fA fE fO f : Addr} {sp : Sp} (h : Works K BK fA fE fO f sp) {v : V} {x : PyData} {H : Hp} {E : XK} {Q : VK} (hd : Dp K H v x) (ok : OkD x) (n : isKd x = false) (he : ∀ H9, Same H H9 → E (.ref BK) none H9) : sp [v] H Q E := by
  have nk : ∀ k : Kd, x = k.data → k.ends ≤ 60 → False := fun k e h60 => by
    rw [e, isKd_data, decide_eq_true h60] at n
    cases n
  rcases h with ⟨_, rfl⟩ | ⟨_, rfl⟩ | ⟨_, rfl⟩
  · exact ⟨v, x, rfl, hd, ok, fun k e h => (nk k e h).elim, fun _ H' S => he H' S⟩
  · exact ⟨v, x, rfl, hd, ok, fun k e h => (nk k e h).elim, fun _ H' S => he H' S⟩
  · exact ⟨v, x, rfl, hd, ok, fun k e h => (nk k e h).elim, fun _ H' S => he H' S⟩
theorem works_at {K : PySem.W.Frag} {BK fA fE fO : Addr} {i : Nat} {x : V} (h : ([.ref fA, .ref fE, .ref fO] : List V)[i]? = some x) : ∃ f sp, x = .ref f ∧ Works K BK fA fE fO f sp := by
  match i, h with
  | 0, h => cases h; exact ⟨_, _, rfl, .inl ⟨rfl, rfl⟩⟩
  | 1, h => cases h; exact ⟨_, _, rfl, .inr (.inl ⟨rfl, rfl⟩)⟩
  | 2, h => cases h; exact ⟨_, _, rfl, .inr (.inr ⟨rfl, rfl⟩)⟩
  | i + 3, h => simp at h
/-- how many of them are no kinds -/
def badN (ks : List Kd) : Nat := (ks.filter fun k => !decide (k.ends ≤ 60)).length
theorem badN_snoc (ks : List Kd) (k : Kd) : badN (ks ++ [k]) = badN ks + if k.ends ≤ 60 then 0 else 1 := by
  unfold badN
  rw [List.filter_append, List.length_append]
  congr 1
  by_cases h : k.ends ≤ 60
  · rw [if_pos h, List.filter_cons_of_neg (by simp [h])]
    rfl
  · rw [if_neg h, List.filter_cons_of_pos (by simp [h])]
    rfl
theorem badN_zero {ks : List Kd} (h : badN ks = 0) : ∀ k ∈ ks, k.ends ≤ 60 := fun k hk => by
  by_cases hc : k.ends ≤ 60
  · exact hc
  · have h1 : k ∈ ks.filter fun k => !decide (k.ends ≤ 60) := List.mem_filter.mpr ⟨hk, by simp [hc]⟩
    rw [List.eq_nil_of_length_eq_zero h] at h1
    cases h1
theorem ord_lt : ∀ k : Kd, ordK k < k.ends
  | .text => Nat.lt_succ_self 0
  | .to a r => by
    have h1 := ord_lt a
    have h2 := ord_lt r
    have p1 := a.ends_pos
    have p2 := r.ends_pos
    simp only [ordK, Kd.ends]
    omega
theorem kds_show : ∀ ks : List Kd, PyData.showableAll (ks.map Kd.data) = true ∧ PyData.intsShortAll 13 (ks.map Kd.data) = true ∧ PyData.weightAll (ks.map Kd.data) ≤ 101 * sumE ks
  | [] => ⟨rfl, rfl, Nat.le_refl _⟩
  | k :: r => by
    obtain ⟨h1, h2, h3⟩ := kds_show r
    obtain ⟨h4, h5⟩ := k.shows
    have h6 := k.weighs
    have p := k.ends_pos
    refine ⟨by simp only [List.map_cons, PyData.showableAll, h4, h1, Bool.and_self], by simp only [List.map_cons, PyData.intsShortAll, h5, h2, Bool.and_self], ?_⟩
    have e : sumE (k :: r) = k.ends + sumE r := rfl
    simp only [List.map_cons, PyData.weightAll, e]
    omega
theorem kds_depth {n : Nat} : ∀ {ks : List Kd}, (∀ k ∈ ks, k.ends ≤ n) → PyData.depthAll (ks.map Kd.data) ≤ n
  | [], _ => Nat.zero_le _
  | k :: r, h => by
    have h1 := kds_depth fun x hx => h x (List.mem_cons_of_mem _ hx)
    have h2 := h k List.mem_cons_self
    have h3 := k.deep_ends
    have h4 := k.data_depth
    simp only [List.map_cons, PyData.depthAll]
    omega
theorem showOk_args {k : Kd} (h : k.ends ≤ 60) : ShowOk (.tuple ((args k).map Kd.data)) := by
  obtain ⟨h1, h2, h3⟩ := kds_show (args k)
  have h4 := sumE_args k
  have h5 := kds_depth (n := 60) (ks := args k) fun x hx => by
    have := args_ends k x hx
    omega
  refine showOk_of (okD_tuple fun d hd => ?_) ?_ ?_ ?_ ?_
  · obtain ⟨x, _, rfl⟩ := List.mem_map.mp hd
    exact okD_kd x
  · simp only [PyData.depth]
    omega
  · simp only [PyData.showable, h1]
  · simp only [PyData.intsShort, h2]
  · simp only [PyData.weight]
    omega
theorem kd_ref {K : PySem.W.Frag} {H : Hp} {v : V} {k : Kd} (h : KdAt K H v k) : ∃ p, v = .ref p := by
  cases k with
  | text => obtain ⟨p, e, _⟩ := h; exact ⟨p, e⟩
  | to a b => obtain ⟨p, _, _, e, _⟩ := h; exact ⟨p, e⟩
theorem eqv_ones (n : Nat) : PyData.eqv (.list (List.replicate n (.int 1))) (.list []) = decide (n = 0) := by
  rw [eqv_list_nil]
  cases n <;> rfl
theorem dp_ones {K : PySem.W.Frag} {H : Hp} : ∀ n : Nat, DpAll K H (List.replicate n (.int 1)) (List.replicate n (.int 1))
  | 0 => .nil
  | n + 1 => .cons (.int 1) (dp_ones n)
theorem many_at {z1 z2 : Int} (h1 : 0 ≤ z1 ∧ z1 < 9) (h2 : 0 ≤ z2 ∧ z2 < 30) {n : Nat} {v : V} (h : ([.int 59, .int 60, .int 61, .int 62, .int (1 + z1), .int (1 + z2)] : List V)[n]? = some v) : ∃ e : Nat, v = intV e ∧ 1 ≤ e ∧ e ≤ 62 := by
  match n, h with
  | 0, h => cases h; exact ⟨59, rfl, by decide, by decide⟩
  | 1, h => cases h; exact ⟨60, rfl, by decide, by decide⟩
  | 2, h => cases h; exact ⟨61, rfl, by decide, by decide⟩
  | 3, h => cases h; exact ⟨62, rfl, by decide, by decide⟩
  | 4, h => cases h; exact ⟨(1 + z1).toNat, by unfold intV; congr 1; omega, by omega, by omega⟩
  | 5, h => cases h; exact ⟨(1 + z2).toNat, by unfold intV; congr 1; omega, by omega, by omega⟩
  | n + 6, h => simp at h
theorem badN_len (ks : List Kd) : badN ks ≤ ks.length := List.length_filter_le _ _
theorem read_ones {K : PySem.W.Frag} {H : Hp} {wl : Addr} {ws : List V} {ks : List Kd} {s0 s1 s2 s3 s4 s5 s7 s8 s9 : Option V} {Q : V → Hp → Prop} (hw : H wl = some (.lst ws)) (hks : KdsAt K H ws ks) (len : ks.length ≤ 900)
    (q : ∀ (H' : Hp) (D : Addr), Same H H' → H' D = some (.lst (List.replicate (badN ks) (.int 1))) → Q (.ref D) H') :
    tLc (iList K (tVar 6)) (gName 10) (tNot (tB (tCall (spIsKind K) [] E0 (tCons (tVar 10) tNil)))) (tC (.int 1)) [10] [s0, s1, s2, s3, s4, s5, some (.ref wl), s7, s8, s9, none] H Q := by
  refine ⟨_, rfl, wl, rfl, ⟨_, SqL.of hw⟩, fun D hD => ?_⟩
  refine lc_it (walk_list (K := K) (a := wl) (xs := ws)) (fun i H' => Same H H' ∧ H' D = some (.lst (List.replicate (badN (ks.take i)) (.int 1)))) ⟨same_new hD, upd_same⟩ (fun i H' _ e => SqL.of (e.1 _ _ hw)) ?_ ?_
  · rintro i x H2 H' hi ⟨S2, hD2⟩ ⟨rfl, hx⟩
    obtain ⟨c, hc, hxc⟩ := hks.get hx
    refine ⟨rfl, ?_⟩
    dsimp only [tNot, tB]
    refine ⟨_, rfl, x, _, rfl, (hxc.same (SameT.of S2)).dp, okD_kd c, fun H3 S3 => ⟨_, rfl, ?_⟩⟩
    have tk : ks.take (i + 1) = ks.take i ++ [c] := by
      rw [List.take_add_one, hc]
      rfl
    by_cases h : c.ends ≤ 60
    · refine iteBF (by rw [isKd_data, decide_eq_true h]; rfl) ?_
      refine ⟨S2.trans S3, ?_⟩
      rw [tk, badN_snoc, if_pos h]
      exact S3 _ _ hD2
    · refine iteBT (by rw [isKd_data, decide_eq_false h]; rfl) ?_
      refine ⟨_, S3 _ _ hD2, ?_, ?_, ?_⟩
      · have := badN_len (ks.take i)
        simp only [List.length_replicate]
        rw [List.length_take] at this
        exact small1000 (by omega)
      · intro b o e
        rw [upd_ne (ne_of_none e hD)]
        exact S3 _ _ (S2 _ _ e)
      · rw [upd_same, tk, badN_snoc, if_neg h, List.replicate_succ']
  · rintro H' ⟨S2, hD2⟩
    rw [hks.len, List.take_length] at hD2
    exact q H' D S2 hD2
theorem kd_inj {k k' : Kd} (h : k.data = k'.data) : k = k' := by
  have h1 := parse_data k
  rw [h, parse_data] at h1
  cases h1
  rfl
theorem no_kd {k : Kd} (h : k.ends ≤ 60) {P : Prop} (z : isKd k.data = false) : P := by
  rw [isKd_data, decide_eq_true h] at z
  cases z
/-- what kind_from refuses as no list of kinds -/
def KfBad (BK BKS : Addr) (K : PySem.W.Frag) (H : Hp) (v : V) : Prop := ∀ H8, LamX.ExtN H H8 → ∀ (E : XK) (Q : VK), (∀ H9, Same H8 H9 → E (.ref BKS) none H9) → spKFrom BK BKS K [v] H8 Q E
theorem no_list {K : PySem.W.Frag} {a : String} (h1 : kitB a "list" = some false) (h2 : kitB a "tuple" = some false) : PySem.W.kitAny K (.type a) [.type "list", .type "tuple"] = some false :=
  kitAny_cons (b := false) (kit_ty h1) (fun _ => kitAny_cons (b := false) (kit_ty h2) (fun _ => kitAny_nil) (fun z => nomatch z)) (fun z => nomatch z)
theorem kf_ty {BK BKS : Addr} {K : PySem.W.Frag} {H : Hp} {v : V} {a : String} (h : ∀ H', LamX.ExtN H H' → TyX K H' v (.type a)) (k : PySem.W.kitAny K (.type a) [.type "list", .type "tuple"] = some false) : KfBad BK BKS K H v :=
  fun _ e _ _ hE => ⟨v, rfl, .inr (.inr ⟨a, fun H' S => h H' (e.trans (ext_same S)), k, hE⟩)⟩
theorem kf_seq {BK BKS : Addr} {K : PySem.W.Frag} {H : Hp} {b : Addr} {ws : List V} {ds : List PyData} (hs : ∀ H', LamX.ExtN H H' → SqX K H' b ws) (hd : DpAll K H ws ds) (ok : ∀ d ∈ ds, OkD d) (n : ds.all isKd = false) (len : ds.length ≤ 900) : KfBad BK BKS K H (.ref b) :=
  fun H8 e _ _ hE => ⟨_, rfl, .inr (.inl ⟨b, ws, ds, rfl, hs H8 e, ext_dpAll e hd, ok, n, len, hE⟩)⟩
section
variable {P : Program} {w : World} {K : PySem.W.Frag} {mg : Str → Option Value} {base : Heap} {tA BK BE BKS HE : Addr}
theorem sc_law : FnScope ["script", "state", "turn", "many", "kind", "thing", "wanted", "work", "bad", "some", "one"] ["script"] (defScope s_law) := ⟨rfl, rfl, rfl, by decide +kernel, rfl, by decide +kernel, by decide +kernel⟩
theorem ok_law00 {f f1 f2 f3 f4 f5 f6 f7 f8 f9 f10 f11 f12 f13 fA fE fO fK fS cL PL : Addr} {fd1 fd2 fd3 fd4 fd5 fd6 fd7 fd8 fd9 fd10 fd11 fd12 fd13 fdA fdE fdO fdK fdS : FuncData} {oc kV doc pm ct : Value} {od an : Option Addr} {osl : Array (Option Value)}
    (lk : K.lookup f = some ⟨oc, od, .func (PySem.W.fnOf "law" "law" (defArgs s_law) (defBody s_law) (defScope s_law) .none kV doc pm an (.ref cL) ct), osl⟩) (hcd : PySem.W.codeIn K (.ref cL) "law" = true) (TB : LamX.TabB base mg cL PL)
    (zr : mg "range" = none) (zm : mg "min" = none) (zn : mg "len" = none) (zi : mg "isinstance" = none) (zt : mg "tuple" = none)
    (CK : ErrC K mg "BadKind" BK HE) (CS : ErrC K mg "BadKinds" BKS HE) (kK : PySem.W.kitOne K (.ref BK) (.ref BK) = some true) (kS : PySem.W.kitOne K (.ref BKS) (.ref BKS) = some true) (gH : mg "HeadError" = some (.ref HE))
    (D1 : DefC P w K mg base CX0 1 "_law_begun" ["script"] (spBegun K) f1 fd1)
    (D2 : DefC P w K mg base CX0 3 "_law_pick" ["state", "some"] (spPick K) f2 fd2)
    (D3 : DefC P w K mg base CX0 2 "_law_draw" ["state", "room"] spDraw f3 fd3)
    (D4 : DefC P w K mg base CX0 64 "_law_any_kind" ["state", "ends"] (spAnyK K 62) f4 fd4)
    (D5 : DefC P w K mg base CX0 67 "_law_oh_bent" ["state", "thing"] (spBent K) f5 fd5)
    (D6 : DefC P w K mg base CX0 4 "_law_oh_bad_kind" ["state"] (spBadK K) f6 fd6)
    (D7 : DefC P w K mg base CX0 1 "_law_is_truth" ["found", "due"] spTruth f7 fd7)
    (D8 : DefC P w K mg base CX0 2 "_law_oh_is_kind" ["thing"] (spIsKind K) f8 fd8)
    (D9 : DefC P w K mg base CX0 1 "_law_oh_wanted" ["kind"] (spWanted K) f9 fd9)
    (D10 : DefC P w K mg base CX0 64 "_law_oh_ends" ["kind"] (spSize K 64) f10 fd10)
    (D11 : DefC P w K mg base CX0 65 "_law_order" ["kind"] (spOrd K 64) f11 fd11)
    (G12 : FnG P w K mg base CX0 1 f12 fd12 ["found", "due"] (spSame K)) (g12 : mg "_law_oh_same" = some (.ref f12)) (k12 : PySem.W.keepIn K (.ref f12) = true) (b12 : Binds K fd12 ["found", "due"] [])
    (F13 : Fun K "_law_caught" "_law_caught" (top 21) f13 fd13) (g13 : mg "_law_caught" = some (.ref f13)) (k13 : PySem.W.keepIn K (.ref f13) = true) (b13 : Binds K fd13 ["action"] [])
    (DA : DefC P w K mg base (L2.CX P w) 3 "arguments" ["kind"] (spTell BK K (gArgs K)) fA fdA) (wA : KwB K fdA ["kind"])
    (DE : DefC P w K mg base (L2.CX P w) 3 "ends_in" ["kind"] (spTell BK K (gNum Kd.ends)) fE fdE) (wE : KwB K fdE ["kind"])
    (DO : DefC P w K mg base (L2.CX P w) 62 "order" ["kind"] (spTell BK K (gNum ordK)) fO fdO) (wO : KwB K fdO ["kind"])
    (DF : DefC P w K mg base (L2.CX P w) 2 "kind_from" ["arguments"] (spKFrom BK BKS K) fK fdK) (wK : KwB K fdK ["arguments"])
    (DS : DefC P w K mg base CX0 1 "is_kind" ["value"] (spIsKind K) fS fdS) (wS : KwB K fdS ["value"]) :
    FnG P w K mg base CX0 72 f (PySem.W.fnOf "law" "law" (defArgs s_law) (defBody s_law) (defScope s_law) .none kV doc pm an (.ref cL) ct) ["script"] (spLaw00 K PL) := by
  obtain ⟨oc7, od7, kV7, doc7, pm7, an7, cd7, ct7, osl7, rfl, lk7, hcd7⟩ := F13.ex
  have sc7 : FnScope ["action", "found", "error"] ["action"] (defScope (top 21)) := ⟨rfl, rfl, rfl, by decide +kernel, rfl, by decide +kernel, by decide +kernel⟩
  have WK : ∀ f sp, Works K BK fA fE fO f sp → HeldX P w K mg base 62 f sp := fun f sp h => by
    rcases h with ⟨rfl, rfl⟩ | ⟨rfl, rfl⟩ | ⟨rfl, rfl⟩
    · exact ⟨_, _, fnOk_up DA.ok (by decide), DA.kf, DA.bf⟩
    · exact ⟨_, _, fnOk_up DE.ok (by decide), DE.kf, DE.bf⟩
    · exact ⟨_, _, DO.ok, DO.kf, DO.bf⟩
  refine okG_at (N := ["script", "state", "turn", "many", "kind", "thing", "wanted", "work", "bad", "some", "one"]) lk hcd sc_law (fun vs H Q E h => ?_) (fun A outer s0 H vs Q E hr hgd h => ?_)
  · obtain ⟨a, ns, rfl, _⟩ := h
    rfl
  · obtain ⟨a, ns, rfl, hS, hlen, hPL, cont⟩ := h
    have r1 : Room 1 _ := hr.mono (by decide)
    have r2 : Room 2 _ := hr.mono (by decide)
    have r3 : Room 3 _ := hr.mono (by decide)
    have r4 : Room 4 _ := hr.mono (by decide)
    have r62 : Room 62 _ := hr.mono (by decide)
    have r64 : Room 64 _ := hr.mono (by decide)
    have r65 : Room 65 _ := hr.mono (by decide)
    have r67 : Room 67 _ := hr.mono (by decide)
    have nd := sc_law.nd
    refine ⟨_, pss_cons (ps_set (i := 1) sc_law.nd rfl (Or.inl rfl) (pe_call D1.ok r1 rfl D1.gf D1.kf D1.bf .nil pass0 (pa_cons (pv 0) pa_nil)))
      (pss_cons (ps_for PassesOwn.never rfl (pi_range1 (by rfl) zr (pa_cons (pe_op op_add pe_int (by exact (pe_callB (call_min2 rfl) (by rfl) zm (by decide +kernel) (pa_cons (by exact (pe_callB call_len (by rfl) zn (by decide +kernel) (pa_cons (pv 0) pa_nil))) (pa_cons pe_int pa_nil))))) pa_nil)) (pg_name (i := 2) sc_law.nd rfl (Or.inl rfl))
        (pss_cons (ps_set (i := 3) sc_law.nd rfl (Or.inl rfl) (by exact (pe_call D2.ok r3 rfl D2.gf D2.kf D2.bf .nil pass0 (pa_cons (pv 1) (pa_cons (by exact (pe_lst (pa_cons pe_int (pa_cons pe_int (pa_cons pe_int (pa_cons pe_int (pa_cons (by exact (pe_op op_add pe_int (pe_call D3.ok r2 rfl D3.gf D3.kf D3.bf .nil pass0 (pa_cons (pv 1) (pa_cons pe_int pa_nil)))))
            (pa_cons (by exact (pe_op op_add pe_int (pe_call D3.ok r2 rfl D3.gf D3.kf D3.bf .nil pass0 (pa_cons (pv 1) (pa_cons pe_int pa_nil))))) pa_nil)))))))) pa_nil)))))
        (pss_cons (ps_set (i := 4) sc_law.nd rfl (Or.inr rfl) (by exact (pe_call D4.ok r64 rfl D4.gf D4.kf D4.bf .nil pass0 (pa_cons (pv 1) (pa_cons (pv 3) pa_nil)))))
        (pss_cons (ps_for PassesOwn.never rfl (pi_list (by exact (pe_lst (pa_cons (pv 4) (pa_cons (by exact (pe_ix ix_tup (pe_call D5.ok r67 rfl D5.gf D5.kf D5.bf .nil pass0 (pa_cons (pv 1) (pa_cons (by exact (pe_tup (pa_cons (pv 4) (pa_cons pe_int pa_nil)))) pa_nil))) pe_int (fun _ _ => rfl)))
            (pa_cons (by exact (pe_call D6.ok r4 rfl D6.gf D6.kf D6.bf .nil pass0 (pa_cons (pv 1) pa_nil))) pa_nil)))))) (pg_name (i := 5) sc_law.nd rfl (Or.inl rfl))
          (pss_one (ps_if (pt_not (pt_val (by exact (pe_call D7.ok r1 rfl D7.gf D7.kf D7.bf .nil pass0 (pa_cons (by exact (pe_callW (ks := ["value"]) (g := fun ws => ws) (gV := fun zs => zs) DS.ok r1 rfl DS.gf DS.kf pass0 (pk_cons (pv 5) pk_nil) wS (fun r => r)))
            (pa_cons (by exact (pe_call D8.ok r2 rfl D8.gf D8.kf D8.bf .nil pass0 (pa_cons (pv 5) pa_nil))) pa_nil)))))) (pss_one (ps_ret pe_bl)) pss_nil)))
        (pss_cons (ps_set (i := 6) sc_law.nd rfl (Or.inr rfl) (by exact (pe_call D9.ok r1 rfl D9.gf D9.kf D9.bf .nil pass0 (pa_cons (pv 4) pa_nil))))
        (pss_cons (ps_if (pt_not (pt_val (by exact (pe_call D8.ok r2 rfl D8.gf D8.kf D8.bf .nil pass0 (pa_cons (pv 4) pa_nil)))))
          (pss_cons (ps_for PassesOwn.never rfl (pi_list (by exact (pe_lst (pa_cons (pe_cls DA.gf) (pa_cons (pe_cls DE.gf) (pa_cons (pe_cls DO.gf) pa_nil)))))) (pg_name (i := 7) sc_law.nd rfl (Or.inr rfl))
            (pss_one (ps_if (pt_not (pt_val (by exact (pe_callB call_isC (by rfl) zi (by decide +kernel) (pa_cons (by exact (LamX.pe_lamcall (k := 63) (T := [(PL, lamQ)]) (t := fun E => tCallX 7 (Works K BK fA fE fO) E (tCons (tVar 4) tNil)) rfl g13 k13 lk7 hcd7 b13 sc7 rfl (.inl rfl)
              (caught_gives (q := lamQ) sc7.nd (.inl rfl) rfl rfl rfl gH rfl rfl rfl rfl rfl) TB rfl (List.mem_singleton.mpr rfl) (fun p hp _ => by rw [List.mem_singleton.mp hp]; rfl) r65 (LamX.lamS_by (by show LamX.lamSB (defScope s_law) _ = true; decide +kernel)) rfl (fun _ _ _ _ _ => rfl)
              (fun A outer s H E f c' hr' => by exact pe_callX (i := 7) WK (hr'.mono (by decide)) rfl (.inr (.inr rfl)) (passes_call (takes_of rfl rfl rfl rfl) (fun _ _ _ _ h => h)) (pa_cons (pv 4) pa_nil)))) (pa_cons (pe_cls CK.gC) pa_nil)))))) (pss_one (ps_ret pe_bl)) pss_nil)))
          (pss_cons (ps_if (pt_cmpR (op_eqN hr.units) (by exact (pe_lc (own := [("one", 10)]) (g := gName 10) (tt := tNot (tB (tCall (spIsKind K) [] E0 (tCons (tVar 10) tNil)))) (te := tC (.int 1)) rfl sc_law.nd (pi_list (pv 6))
              (blkOk_by (own := [("one", 10)]) (N := ["script", "state", "turn", "many", "kind", "thing", "wanted", "work", "bad", "some", "one"]) (sc := defScope s_law) (by decide +kernel)) (fun _ _ _ _ _ => pg_name (i := 10) sc_law.nd rfl (Or.inl rfl))
              (fun _ _ _ _ _ => pts_one (by exact pt_not (pt_val (pe_call D8.ok r2 rfl D8.gf D8.kf D8.bf .nil pass0 (pa_cons (pv 10) pa_nil))))) (fun _ _ _ _ _ => pe_int))) (by exact (pe_lst pa_nil)) (nomark _))
            (pss_one (ps_if (pt_not (pt_val (by exact (pe_callB call_isC (by rfl) zi (by decide +kernel) (pa_cons (by exact (LamX.pe_lamcall (k := 63) (T := [(PL, lamQ)]) (t := fun E => tCall (spKFrom BK BKS K) [] E (tCons (tVar 6) tNil)) rfl g13 k13 lk7 hcd7 b13 sc7 rfl (.inl rfl)
              (caught_gives (q := lamQ) sc7.nd (.inl rfl) rfl rfl rfl gH rfl rfl rfl rfl rfl) TB rfl (List.mem_singleton.mpr rfl) (fun p hp _ => by rw [List.mem_singleton.mp hp]; rfl) r65 (LamX.lamS_by (by show LamX.lamSB (defScope s_law) _ = true; decide +kernel)) rfl (fun _ _ _ _ _ => rfl)
              (fun A outer s H E f c' hr' => by exact pe_call DF.ok (hr'.mono (by decide)) rfl DF.gf DF.kf DF.bf .nil (passes_call (takes_of rfl rfl rfl rfl) (fun _ _ _ _ h => h)) (pa_cons (pv 6) pa_nil)))) (pa_cons (pe_cls CK.gC) pa_nil)))))) (pss_one (ps_ret pe_bl)) pss_nil)) pss_nil)
          (pss_one ps_continue))) pss_nil)
        (pss_cons (ps_if (pt_not (pt_val (by exact (pe_callG G12 r1 hgd rfl g12 k12 b12 pass0 (pa_cons (by exact (pe_callW (ks := ["kind"]) (g := fun ws => ws) (gV := fun zs => zs) DA.ok r3 rfl DA.gf DA.kf (passes_call LamX.takes0 (fun _ _ _ _ h => h)) (pk_cons (pv 4) pk_nil) wA (fun r => r)))
          (pa_cons (by exact (pe_callTy call_tuple_of (by rfl) zt (by decide +kernel) (pa_cons (pv 6) pa_nil))) pa_nil)))))) (pss_one (ps_ret pe_bl)) pss_nil)
        (pss_cons (ps_if (pt_not (pt_val (by exact (pe_callG G12 r1 hgd rfl g12 k12 b12 pass0 (pa_cons (by exact (pe_callW (ks := ["kind"]) (g := fun ws => ws) (gV := fun zs => zs) DE.ok r3 rfl DE.gf DE.kf (passes_call LamX.takes0 (fun _ _ _ _ h => h)) (pk_cons (pv 4) pk_nil) wE (fun r => r)))
          (pa_cons (by exact (pe_call D10.ok r64 rfl D10.gf D10.kf D10.bf .nil pass0 (pa_cons (pv 4) pa_nil))) pa_nil)))))) (pss_one (ps_ret pe_bl)) pss_nil)
        (pss_cons (ps_if (pt_not (pt_val (by exact (pe_callG G12 r1 hgd rfl g12 k12 b12 pass0 (pa_cons (by exact (pe_callW (ks := ["kind"]) (g := fun ws => ws) (gV := fun zs => zs) DO.ok r62 rfl DO.gf DO.kf (passes_call LamX.takes0 (fun _ _ _ _ h => h)) (pk_cons (pv 4) pk_nil) wO (fun r => r)))
          (pa_cons (by exact (pe_call D11.ok r65 rfl D11.gf D11.kf D11.bf .nil pass0 (pa_cons (pv 4) pa_nil))) pa_nil)))))) (pss_one (ps_ret pe_bl)) pss_nil)
        (pss_cons (ps_if (PW.pt (pw_or (pt_not (pt_val (by exact (pe_callG G12 r1 hgd rfl g12 k12 b12 pass0 (pa_cons (by exact (pe_call DF.ok r2 rfl DF.gf DF.kf DF.bf .nil (passes_call LamX.takes0 (fun _ _ _ _ h => h)) (pa_cons (pv 6) pa_nil))) (pa_cons (pv 4) pa_nil))))))
            (pw_or1 (pt_cmpR (op_neN hr.units) (by exact (pe_callW (ks := ["arguments"]) (g := fun ws => ws) (gV := fun zs => zs) DF.ok r2 rfl DF.gf DF.kf (passes_call LamX.takes0 (fun _ _ _ _ h => h)) (pk_cons (by exact (pe_callTy call_tuple_of (by rfl) zt (by decide +kernel) (pa_cons (pv 6) pa_nil))) pk_nil) wK (fun r => r))) (pv 4) (nomark _))))) (pss_one (ps_ret pe_bl)) pss_nil)
        (pss_cons (ps_set (i := 8) sc_law.nd rfl (Or.inr rfl) (by exact (pe_call D6.ok r4 rfl D6.gf D6.kf D6.bf .nil pass0 (pa_cons (pv 1) pa_nil))))
        (pss_cons (ps_for PassesOwn.never rfl (pi_list (by exact (pe_lst (pa_cons (pe_cls DA.gf) (pa_cons (pe_cls DE.gf) (pa_cons (pe_cls DO.gf) pa_nil)))))) (pg_name (i := 7) sc_law.nd rfl (Or.inr rfl))
            (pss_one (ps_if (pt_not (pt_val (by exact (pe_callB call_isC (by rfl) zi (by decide +kernel) (pa_cons (by exact (LamX.pe_lamcall (k := 63) (T := [(PL, lamQ)]) (t := fun E => tCallX 7 (Works K BK fA fE fO) E (tCons (tVar 8) tNil)) rfl g13 k13 lk7 hcd7 b13 sc7 rfl (.inl rfl)
              (caught_gives (q := lamQ) sc7.nd (.inl rfl) rfl rfl rfl gH rfl rfl rfl rfl rfl) TB rfl (List.mem_singleton.mpr rfl) (fun p hp _ => by rw [List.mem_singleton.mp hp]; rfl) r65 (LamX.lamS_by (by show LamX.lamSB (defScope s_law) _ = true; decide +kernel)) rfl (fun _ _ _ _ _ => rfl)
              (fun A outer s H E f c' hr' => by exact pe_callX (i := 7) WK (hr'.mono (by decide)) rfl (.inr (.inr rfl)) (passes_call (takes_of rfl rfl rfl rfl) (fun _ _ _ _ h => h)) (pa_cons (pv 8) pa_nil)))) (pa_cons (pe_cls CK.gC) pa_nil)))))) (pss_one (ps_ret pe_bl)) pss_nil)))
        (pss_one (ps_for PassesOwn.never rfl (pi_list (by exact (pe_lst (pa_cons pe_non (pa_cons pe_int (pa_cons pe_str (pa_cons (by exact (pe_tup (pa_cons pe_str pa_nil))) (pa_cons (by exact (pe_lst (pa_cons (by exact (pe_tup (pa_cons pe_str pa_nil))) (pa_cons (by exact (pe_tup (pa_cons pe_str (pa_cons pe_int pa_nil)))) pa_nil)))) (pa_cons pe_dnewK pa_nil))))))))) (pg_name (i := 9) sc_law.nd rfl (Or.inr rfl))
            (pss_one (ps_if (pt_not (pt_val (by exact (pe_callB call_isC (by rfl) zi (by decide +kernel) (pa_cons (by exact (LamX.pe_lamcall (k := 63) (T := [(PL, lamQ)]) (t := fun E => tCall (spKFrom BK BKS K) [] E (tCons (tVar 9) tNil)) rfl g13 k13 lk7 hcd7 b13 sc7 rfl (.inl rfl)
              (caught_gives (q := lamQ) sc7.nd (.inl rfl) rfl rfl rfl gH rfl rfl rfl rfl rfl) TB rfl (List.mem_singleton.mpr rfl) (fun p hp _ => by rw [List.mem_singleton.mp hp]; rfl) r65 (LamX.lamS_by (by show LamX.lamSB (defScope s_law) _ = true; decide +kernel)) rfl (fun _ _ _ _ _ => rfl)
              (fun A outer s H E f c' hr' => by exact pe_call DF.ok (hr'.mono (by decide)) rfl DF.gf DF.kf DF.bf .nil (passes_call (takes_of rfl rfl rfl rfl) (fun _ _ _ _ h => h)) (pa_cons (pv 9) pa_nil)))) (pa_cons (pe_cls CS.gC) pa_nil)))))) (pss_one (ps_ret pe_bl)) pss_nil)))
        )))))))))))))
      (pss_one (ps_ret pe_bl))), ?_⟩
    refine ⟨_, rfl, a, ns, rfl, hS, hlen, fun H1 d g c S1 hd hg hc D0 => ?_⟩
    have hlen' : (ns.map V.int).length ≤ 63 := by
      rw [List.length_map]
      exact hlen
    have PLd : PL ≠ d := by
      rintro rfl
      rw [hPL] at hd
      cases hd
    have PLg : PL ≠ g := by
      rintro rfl
      rw [hPL] at hg
      cases hg
    have T1 : LamX.Tabs [(PL, lamQ)] H1 := fun q hq => by
      rw [List.mem_singleton.mp hq]
      exact LamX.TabS.nil (S1 _ _ hPL)
    refine ⟨_, rfl, _, _, rfl, .inl ⟨_, S1.seq hS, rfl⟩, _, _, rfl, _, _, rfl, rfl, _, rfl, by split <;> omega, by split <;> omega, ?_⟩
    refine for_it (walk_range (lo := 0) (n := _)) (fun i σ H' => ∃ (o2 o3 o4 o5 o6 o7 o8 o9 : Option V) (m : Nat), σ = [some (.ref a), some (.ref d), o2, o3, o4, o5, o6, o7, o8, o9, none] ∧ DrawSt H' d g c m ∧ LamX.Tabs [(PL, lamQ)] H' ∧ m ≤ 100 * i)
      ⟨none, none, none, none, none, none, none, none, 0, rfl, D0, T1, Nat.le_refl _⟩ (fun _ _ _ _ _ => True.intro) ?_ ?_
    · rintro i x σ H2 H' hi ⟨o2, o3, o4, o5, o6, o7, o8, o9, m, rfl, D2, T2, hm⟩ ⟨rfl, e2⟩
      have hi10 : i < 10 := by
        revert hi
        split <;> omega
      -- many
      refine ⟨_, rfl, ?_⟩
      refine ⟨_, rfl, d, g, c, m, 9, rfl, D2, by omega, by decide, by decide, fun H3 z1 p1 q1 D3 dr3 => ?_⟩
      refine ⟨_, _, rfl, rfl, ?_⟩
      refine ⟨_, rfl, d, g, c, m + 1, 30, rfl, D3, by omega, by decide, by decide, fun H4 z2 p2 q2 D4 dr4 => ?_⟩
      refine ⟨_, _, rfl, rfl, ?_⟩
      refine ⟨by show 6 ≤ sizeLine; decide, fun l nl => ?_⟩
      have S5 := (same_new nl : Same H4 (upd H4 l (.lst [.int 59, .int 60, .int 61, .int 62, .int (1 + z1), .int (1 + z2)])))
      have D5 := D4.same S5
      refine ⟨d, g, c, l, m + 2, _, rfl, D5, by omega, upd_same, ((D4.ne nl).2.1), by simp, by show 6 < _; decide, fun H6 ne ve hv D6 dr6 => ?_⟩
      obtain ⟨e, rfl, he1, he62⟩ := many_at ⟨p1, q1⟩ ⟨p2, q2⟩ hv
      have X6 : Dr d g H' H6 := Dr.trans dr3 (Dr.trans dr4 (Dr.trans (Dr.of S5) dr6))
      have T6 := tabs_dr T2 D2 X6
      -- kind
      refine ⟨_, rfl, _, rfl, d, g, c, m + 3, e, rfl, he1, he62, by omega, D6, by omega, fun H7 v k m7 hk ek D7 hm7 X7 => ?_⟩
      have T7 := tabs_dr T6 D6 X7
      subst ek
      -- thing: the list
      refine ⟨_, rfl, ?_⟩
      refine ⟨_, rfl, ?_⟩
      refine ⟨_, rfl, by show 2 ≤ sizeLine; decide, fun tp ntp => ?_⟩
      have S8 := (same_new ntp : Same H7 (upd H7 tp (.tup [v, .int 0])))
      have D8 := D7.same S8
      have T8 := T7.ext S8
      refine ⟨d, g, c, tp, m7, k, v, rfl, .inl (.inl upd_same), hk.same (SameT.of S8), he62, D8, by omega, fun H9 p x0 x1 z0 hp hx oz D9 X9 => ?_⟩
      have T9 := tabs_dr T8 D8 X9
      refine ⟨p, _, 0, x0, rfl, rfl, hp, rfl, ?_⟩
      refine ⟨_, rfl, d, g, c, m7 + 3, rfl, D9, by omega, fun H10 vb xb hb ox nx D10 X10 => ?_⟩
      have T10 := tabs_dr T9 D9 X10
      refine ⟨by show 3 ≤ sizeLine; decide, fun l2 nl2 => ?_⟩
      have S11 := (same_new nl2 : Same H10 (upd H10 l2 (.lst [v, x0, vb])))
      have hl2 : (upd H10 l2 (.lst [v, x0, vb])) l2 = some (.lst [v, x0, vb]) := upd_same
      have D11 := D10.same S11
      have T11 := T10.ext S11
      have X911 : Dr d g H9 (upd H10 l2 (.lst [v, x0, vb])) := Dr.trans X10 (Dr.of S11)
      have X811 := Dr.trans X9 X911
      have X711 := Dr.trans (Dr.of S8) X811
      have hk11 : KdAt K (upd H10 l2 (.lst [v, x0, vb])) v k := hk.same (Dr.tups X711 D7)
      have hx11 : Dp K (upd H10 l2 (.lst [v, x0, vb])) x0 z0 := hx _ X911
      have hb11 : Dp K (upd H10 l2 (.lst [v, x0, vb])) vb xb := hb _ (Dr.of S11)
      clear X711 X811 X911 S11
      revert hl2 D11 T11 hk11 hx11 hb11
      generalize upd H10 l2 (.lst [v, x0, vb]) = H11
      intro hl2 D11 T11 hk11 hx11 hb11
      refine ⟨l2, rfl, ⟨_, SqL.of hl2⟩, ?_⟩
      refine for_it (walk_list (K := K) (a := l2) (xs := [v, x0, vb])) (fun j σ H' => ∃ (q5 : Option V), σ = [some (.ref a), some (.ref d), some x, some (intV k.ends), some v, q5, o6, o7, o8, o9, none] ∧ Same H11 H')
        ⟨o5, rfl, Same.refl _⟩ (fun _ _ H' _ ⟨_, _, S⟩ => SqL.of (S _ _ hl2)) ?_ ?_
      · rintro j y σ3 H12 H13 hj ⟨q5, rfl, S12⟩ ⟨rfl, hy⟩
        obtain ⟨dy, hdy, ody⟩ : ∃ dy, Dp K H11 y dy ∧ OkD dy := by
          match j, hy with
          | 0, hy => cases hy; exact ⟨_, hk11.dp, okD_kd k⟩
          | 1, hy => cases hy; exact ⟨_, hx11, oz⟩
          | 2, hy => cases hy; exact ⟨_, hb11, ox⟩
          | n + 3, hy => simp at hy
        refine ⟨_, rfl, rfl, y, dy, rfl, dp_same S12 hdy, ody, fun H14 S14 => ?_⟩
        refine ⟨_, rfl, y, dy, rfl, dp_same (S12.trans S14) hdy, ody, fun H15 S15 => ?_⟩
        refine ⟨_, _, rfl, _, rfl, ?_⟩
        refine iteBF (by simp) ?_
        exact ⟨_, rfl, S12.trans (S14.trans S15)⟩
      · rintro σ H12 ⟨q5, rfl, S12⟩
        have D12 := D11.same S12
        have T12 := T11.ext S12
        have hk12 := hk11.same (SameT.of S12)
        clear S12 hx11 hb11 D11 T11
        -- wanted
        refine ⟨_, rfl, v, k, rfl, hk12, by omega, fun H13 wl ws S13 nwl hwl hws => ?_⟩
        have D13 := D12.same S13
        have T13 := T12.ext S13
        have hk13 := hk12.same (SameT.of S13)
        refine ⟨_, rfl, v, _, rfl, hk13.dp, okD_kd k, fun H14 S14 => ?_⟩
        refine ⟨_, rfl, ?_⟩
        have D14 := D13.same S14
        have T14 := T13.ext S14
        have hk14 := hk13.same (SameT.of S14)
        have hwl14 := S14 _ _ hwl
        have hws14 := hws.same (SameT.of S14)
        clear D13 T13 hk13 hwl hws S14 S13
        by_cases h60 : k.ends ≤ 60
        · refine iteBF (by rw [isKd_data, decide_eq_true h60]; rfl) ?_
          obtain ⟨pv, rfl⟩ := kd_ref hk14
          have sE := sumE_args k
          have lE : (args k).length ≤ 900 := by
            have := sumE_len (args k)
            omega
          have small : ∀ c ∈ args k, c.ends ≤ 60 := fun c hc => by
            have := args_ends k c hc
            omega
          -- arguments
          refine ⟨_, rfl, rfl, .ref pv, _, rfl, hk14.dp, okD_kd k, fun k' e _ => ?_, no_kd h60⟩
          cases kd_inj e
          refine fun H15 t ws1 S15 ht hw1 => ?_
          have hwl15 := S15 _ _ hwl14
          refine ⟨_, rfl, wl, ws, rfl, .inl ⟨SqL.of hwl15, fun tu ntu => ?_⟩⟩
          have S16 := (same_new ntu : Same H15 (upd H15 tu (.tup ws)))
          have F16 := S15.trans S16
          refine ⟨_, _, rfl, ?_, .inl ⟨t, tu, .tuple ((args k).map Kd.data), rfl, rfl, .tup (sameT_sq (SameT.of S16) ht) (kds_dp (hw1.same (SameT.of S16))), .tup (.inl (.inl upd_same)) (kds_dp (hws14.same (SameT.of F16))), showOk_args h60⟩⟩
          have D16 := D14.same F16
          have T16 := T14.ext F16
          have hk16 := hk14.same (SameT.of F16)
          have hwl16 := F16 _ _ hwl14
          have hws16 := hws14.same (SameT.of F16)
          revert D16 T16 hk16 hwl16 hws16
          generalize upd H15 tu (.tup ws) = H16
          intro D16 T16 hk16 hwl16 hws16
          refine ⟨_, rfl, iteF ?_⟩
          clear D14 T14 hk14 hwl14 hws14
          -- ends
          refine ⟨_, rfl, rfl, .ref pv, _, rfl, hk16.dp, okD_kd k, fun k' e _ => ?_, no_kd h60⟩
          cases kd_inj e
          refine fun H17 S17 => ?_
          have dk := k.deep_ends
          refine ⟨_, rfl, .ref pv, k, rfl, hk16.same (SameT.of S17), by show k.deep ≤ 64; omega, ?_⟩
          refine ⟨_, _, rfl, ?_, .inr ⟨k.ends, by omega, rfl, rfl⟩⟩
          refine ⟨_, rfl, iteF ?_⟩
          -- order
          refine ⟨_, rfl, rfl, .ref pv, _, rfl, (hk16.same (SameT.of S17)).dp, okD_kd k, fun k' e _ => ?_, no_kd h60⟩
          cases kd_inj e
          refine fun H18 S18 => ?_
          refine ⟨_, rfl, .ref pv, k, rfl, hk16.same (SameT.of (S17.trans S18)), by show k.deep ≤ 64; omega, by omega, fun H19 S19 => ?_⟩
          refine ⟨_, _, rfl, ?_, .inr ⟨ordK k, by have := ord_lt k; omega, rfl, rfl⟩⟩
          refine ⟨_, rfl, iteF ?_⟩
          have F19 := S17.trans (S18.trans S19)
          have D19 := D16.same F19
          have T19 := T16.ext F19
          have hk19 := hk16.same (SameT.of F19)
          have hwl19 := F19 _ _ hwl16
          have hws19 := hws16.same (SameT.of F19)
          clear D16 T16 hk16 hwl16 hws16 F19 S17 S18 S19
          -- kind_from
          refine ⟨_, rfl, _, rfl, .inl ⟨wl, ws, args k, rfl, .inl (SqL.of hwl19), hws19, small, by omega, fun _ H20 r S20 hr0 => ?_, fun h => absurd h (by omega)⟩⟩
          rw [build_args] at hr0
          obtain ⟨pr, rfl⟩ := kd_ref hr0
          refine ⟨_, rfl, _, _, rfl, ?_, .inl ⟨pr, pv, k.data, rfl, rfl, hr0.dp, (hk19.same (SameT.of S20)).dp, showOk_kind (by omega)⟩⟩
          refine ⟨_, rfl, iteF ?_⟩
          have hwl20 := S20 _ _ hwl19
          refine ⟨_, rfl, wl, ws, rfl, .inl ⟨SqL.of hwl20, fun t2 nt2 => ?_⟩⟩
          have F21 := S20.trans (same_new nt2 : Same H20 (upd H20 t2 (.tup ws)))
          refine ⟨rfl, _, rfl, .inl ⟨t2, ws, args k, rfl, .inr (.inl (.inl upd_same)), hws19.same (SameT.of F21), small, by omega, fun _ H22 r2 S22 hr2 => ?_, fun h => absurd h (by omega)⟩⟩
          rw [build_args] at hr2
          have F22 := F21.trans S22
          have D22 := D19.same F22
          have T22 := T19.ext F22
          have hk22 := hk19.same (SameT.of F22)
          refine ⟨_, rfl, k.data, k.data, hr2.dp, hk22.dp, k.data_lay, k.data_lay, by have := k.data_depth; omega, ?_⟩
          refine ⟨_, rfl, ?_⟩
          refine iteBF (by rw [SeqAt.eqv_refl _ k.data_lay]; rfl) ?_
          -- bad
          refine ⟨_, rfl, d, g, c, m7 + 4, rfl, D22, by omega, fun H23 vb2 xb2 hb2 ox2 nx2 D23 X23 => ?_⟩
          have T23 := tabs_dr T22 D22 X23
          refine ⟨by show 3 ≤ sizeLine; decide, fun l3 nl3 => ?_⟩
          have S24 := (same_new nl3 : Same H23 (upd H23 l3 (.lst [.ref fA, .ref fE, .ref fO])))
          have hl3 : (upd H23 l3 (.lst [.ref fA, .ref fE, .ref fO])) l3 = some (.lst [.ref fA, .ref fE, .ref fO]) := upd_same
          have D24 := D23.same S24
          have T24 := T23.ext S24
          have hb24 := hb2 _ (Dr.of S24)
          clear S24
          revert hl3 D24 T24 hb24
          generalize upd H23 l3 (.lst [.ref fA, .ref fE, .ref fO]) = H24
          intro hl3 D24 T24 hb24
          refine ⟨l3, rfl, ⟨_, SqL.of hl3⟩, ?_⟩
          refine for_it (walk_list (K := K) (a := l3) (xs := [.ref fA, .ref fE, .ref fO])) (fun j σ H' => ∃ (q7 : Option V), σ = [some (.ref a), some (.ref d), some x, some (intV k.ends), some (.ref pv), q5, some (.ref wl), q7, some vb2, o9, none] ∧ LamX.ExtN H24 H' ∧ LamX.Tabs [(PL, lamQ)] H')
            ⟨o7, rfl, ext_same (Same.refl _), T24⟩ (fun _ _ H' _ ⟨_, _, e, _⟩ => SqL.of (e _ _ hl3 fun ps z => nomatch z)) ?_ ?_
          · rintro j y σ3 H25 H26 hj ⟨q7, rfl, e25, T25⟩ ⟨rfl, hy⟩
            obtain ⟨fw, sp, rfl, hW⟩ := works_at (BK := BK) (K := K) hy
            dsimp only [tIfS, tNot, tB]
            refine read_caught T25 CK.em CK.ec kK (fun H8 e8 E Q8 hE => ?_) (fun H10 e10 T10 => ?_)
            · exact ⟨fw, sp, rfl, hW, _, rfl, works_bad hW (ext_dp (e25.trans e8) hb24) ox2 nx2 hE⟩
            · exact ⟨_, rfl, iteF ⟨_, rfl, e25.trans e10, T10⟩⟩
          · rintro σ H25 ⟨q7, rfl, e25, T25⟩
            have D25 := D24.extN e25
            clear D23 D24 T23 T24 T22 D22 T19 D19 hb24
            -- what is no list of kinds
            refine ⟨by show 1 ≤ sizeLine; decide, fun t1 n1 => ?_⟩
            refine ⟨by show 1 ≤ sizeLine; decide, fun t2 n2 => ?_⟩
            refine ⟨by show 2 ≤ sizeLine; decide, fun t3 n3 => ?_⟩
            refine ⟨by show 2 ≤ sizeLine; decide, fun l4 n4 => ?_⟩
            refine fun d5 n5 => ?_
            refine ⟨by show 6 ≤ sizeLine; decide, fun l6 n6 => ?_⟩
            have Z1 := (same_new n1 : Same H25 (upd H25 t1 (.tup [.str "text"])))
            have c1 : (upd H25 t1 (.tup [.str "text"])) t1 = some (.tup [.str "text"]) := upd_same
            revert Z1 c1 n2 n3 n4 n5 n6
            generalize upd H25 t1 (.tup [.str "text"]) = J1
            intro n2 n3 n4 n5 n6 Z1 c1
            have Z2 := (same_new n2 : Same J1 (upd J1 t2 (.tup [.str "text"])))
            have c2 : (upd J1 t2 (.tup [.str "text"])) t2 = some (.tup [.str "text"]) := upd_same
            revert Z2 c2 n3 n4 n5 n6
            generalize upd J1 t2 (.tup [.str "text"]) = J2
            intro n3 n4 n5 n6 Z2 c2
            have Z3 := (same_new n3 : Same J2 (upd J2 t3 (.tup [.str "text", .int 2])))
            have c3 : (upd J2 t3 (.tup [.str "text", .int 2])) t3 = some (.tup [.str "text", .int 2]) := upd_same
            revert Z3 c3 n4 n5 n6
            generalize upd J2 t3 (.tup [.str "text", .int 2]) = J3
            intro n4 n5 n6 Z3 c3
            have Z4 := (same_new n4 : Same J3 (upd J3 l4 (.lst [.ref t2, .ref t3])))
            have c4 : (upd J3 l4 (.lst [.ref t2, .ref t3])) l4 = some (.lst [.ref t2, .ref t3]) := upd_same
            revert Z4 c4 n5 n6
            generalize upd J3 l4 (.lst [.ref t2, .ref t3]) = J4
            intro n5 n6 Z4 c4
            have Z5 := (same_new n5 : Same J4 (upd J4 d5 (.dK [])))
            have c5 : (upd J4 d5 (.dK [])) d5 = some (.dK []) := upd_same
            revert Z5 c5 n6
            generalize upd J4 d5 (.dK []) = J5
            intro n6 Z5 c5
            have Z6 := (same_new n6 : Same J5 (upd J5 l6 (.lst [.non, .int 5, .str "text", .ref t1, .ref l4, .ref d5])))
            have c6 : (upd J5 l6 (.lst [.non, .int 5, .str "text", .ref t1, .ref l4, .ref d5])) l6 = some (.lst [.non, .int 5, .str "text", .ref t1, .ref l4, .ref d5]) := upd_same
            revert Z6 c6
            generalize upd J5 l6 (.lst [.non, .int 5, .str "text", .ref t1, .ref l4, .ref d5]) = J6
            intro Z6 c6
            have ZZ := Z1.trans (Z2.trans (Z3.trans (Z4.trans (Z5.trans Z6))))
            have D26 := D25.same ZZ
            have T26 := T25.ext ZZ
            have a1 := (Z2.trans (Z3.trans (Z4.trans (Z5.trans Z6)))) _ _ c1
            have a2 := (Z3.trans (Z4.trans (Z5.trans Z6))) _ _ c2
            have a3 := (Z4.trans (Z5.trans Z6)) _ _ c3
            have a4 := (Z5.trans Z6) _ _ c4
            have a5 := Z6 _ _ c5
            have bad : ∀ (j : Nat) (y : V), ([.non, .int 5, .str "text", .ref t1, .ref l4, .ref d5] : List V)[j]? = some y → KfBad BK BKS K J6 y := fun j y hy => by
              match j, hy with
              | 0, hy => cases hy; exact kf_ty (a := "NoneType") (fun _ _ => .base .non) (no_list (by decide +kernel) (by decide +kernel))
              | 1, hy => cases hy; exact kf_ty (a := "int") (fun _ _ => .base (.int _)) (no_list (by decide +kernel) (by decide +kernel))
              | 2, hy => cases hy; exact kf_ty (a := "str") (fun _ _ => .base (.str _)) (no_list (by decide +kernel) (by decide +kernel))
              | 3, hy => cases hy; exact kf_seq (ds := [.str "text"]) (fun _ e => .inr (.inl (.inl (e _ _ a1 fun ps z => nomatch z)))) (.cons (.str _) .nil) (fun z hz => by rw [List.mem_singleton.mp hz]; unfold OkD; decide +kernel) (by decide +kernel) (by decide)
              | 4, hy =>
                cases hy
                exact kf_seq (ds := [.tuple [.str "text"], .tuple [.str "text", .int 2]]) (fun _ e => .inl (SqL.of (e _ _ a4 fun ps z => nomatch z))) (.cons (.tup (.inl (.inl a2)) (.cons (.str _) .nil)) (.cons (.tup (.inl (.inl a3)) (.cons (.str _) (.cons (.int _) .nil))) .nil))
                  (fun z hz => canAll_mem (xs := [.tuple [.str "text"], .tuple [.str "text", .int 2]]) (by decide +kernel) hz) (by decide +kernel) (by show 2 ≤ 900; decide)
              | 5, hy => cases hy; exact kf_ty (a := "dict") (fun _ e => .base (.dK (e _ _ a5 fun ps z => nomatch z))) (no_list (by decide +kernel) (by decide +kernel))
              | n + 6, hy => simp at hy
            refine ⟨l6, rfl, ⟨_, SqL.of c6⟩, ?_⟩
            refine for_it (walk_list (K := K) (a := l6) (xs := [.non, .int 5, .str "text", .ref t1, .ref l4, .ref d5])) (fun j σ H' => ∃ (q9 : Option V), σ = [some (.ref a), some (.ref d), some x, some (intV k.ends), some (.ref pv), q5, some (.ref wl), q7, some vb2, q9, none] ∧ LamX.ExtN J6 H' ∧ LamX.Tabs [(PL, lamQ)] H')
              ⟨o9, rfl, ext_same (Same.refl _), T26⟩ (fun _ _ H' _ ⟨_, _, e, _⟩ => SqL.of (e _ _ c6 fun ps z => nomatch z)) ?_ ?_
            · rintro j y σ3 H27 H28 hj ⟨q9, rfl, e27, T27⟩ ⟨rfl, hy⟩
              have hbad := bad j y hy
              dsimp only [tIfS, tNot, tB]
              refine read_caught T27 CS.em CS.ec kS (fun H8 e8 E Q8 hE => ?_) (fun H10 e10 T10 => ?_)
              · exact ⟨_, rfl, hbad H8 (e27.trans e8) E Q8 hE⟩
              · exact ⟨_, rfl, iteF ⟨_, rfl, e27.trans e10, T10⟩⟩
            · rintro σ H27 ⟨q9, rfl, e27, T27⟩
              exact ⟨_, _, _, _, _, _, _, _, m7 + 5, rfl, D26.extN e27, T27, by omega⟩
        · refine iteBT (by rw [isKd_data, decide_eq_false h60]; rfl) ?_
          have nk : isKd k.data = false := by rw [isKd_data, decide_eq_false h60]
          -- the works
          refine ⟨by show 3 ≤ sizeLine; decide, fun l3 nl3 => ?_⟩
          have S15 := (same_new nl3 : Same H14 (upd H14 l3 (.lst [.ref fA, .ref fE, .ref fO])))
          have hl3 : (upd H14 l3 (.lst [.ref fA, .ref fE, .ref fO])) l3 = some (.lst [.ref fA, .ref fE, .ref fO]) := upd_same
          have D15 := D14.same S15
          have T15 := T14.ext S15
          have hk15 := hk14.same (SameT.of S15)
          have hwl15 := S15 _ _ hwl14
          have hws15 := hws14.same (SameT.of S15)
          revert hl3 D15 T15 hk15 hwl15 hws15
          generalize upd H14 l3 (.lst [.ref fA, .ref fE, .ref fO]) = H15
          intro hl3 D15 T15 hk15 hwl15 hws15
          refine ⟨l3, rfl, ⟨_, SqL.of hl3⟩, ?_⟩
          refine for_it (walk_list (K := K) (a := l3) (xs := [.ref fA, .ref fE, .ref fO])) (fun j σ H' => ∃ (q7 : Option V), σ = [some (.ref a), some (.ref d), some x, some (intV k.ends), some v, q5, some (.ref wl), q7, o8, o9, none] ∧ LamX.ExtN H15 H' ∧ LamX.Tabs [(PL, lamQ)] H')
            ⟨o7, rfl, ext_same (Same.refl _), T15⟩ (fun _ _ H' _ ⟨_, _, e, _⟩ => SqL.of (e _ _ hl3 fun ps z => nomatch z)) ?_ ?_
          · rintro j y σ3 H16 H17 hj ⟨q7, rfl, e16, T16⟩ ⟨rfl, hy⟩
            obtain ⟨fw, sp, rfl, hW⟩ := works_at (BK := BK) (K := K) hy
            dsimp only [tIfS, tNot, tB]
            refine read_caught T16 CK.em CK.ec kK (fun H8 e8 E Q8 hE => ?_) (fun H10 e10 T10 => ?_)
            · exact ⟨fw, sp, rfl, hW, _, rfl, works_bad hW (ext_dp (e16.trans e8) hk15.dp) (okD_kd k) nk hE⟩
            · exact ⟨_, rfl, iteF ⟨_, rfl, e16.trans e10, T10⟩⟩
          · rintro σ H16 ⟨q7, rfl, e16, T16⟩
            have D16 := D15.extN e16
            have hwl16 := e16 _ _ hwl15 fun ps z => nomatch z
            have hws16 := hws15.same (ext_tups e16)
            have sE := sumE_args k
            have lE : (args k).length ≤ 900 := by
              have := sumE_len (args k)
              omega
            dsimp only [tSeq, tIfS, tTest, tOp]
            refine read_ones hwl16 hws16 lE fun H17 Do S17 hDo => ?_
            refine ⟨Nat.zero_le _, fun ln nln => ?_⟩
            have S18 := (same_new nln : Same H17 (upd H17 ln (.lst [])))
            refine ⟨.list (List.replicate (badN (args k)) (.int 1)), .list [], .lst (SqL.of (S18 _ _ hDo)) (dp_ones _), .lst (SqL.of upd_same) .nil, okD_list fun y hy => (List.eq_of_mem_replicate hy) ▸ (by unfold OkD; decide +kernel), by decide +kernel, min_empty _, ?_⟩
            have e18 := ext_same (S17.trans S18)
            have T18 := T16.ext (S17.trans S18)
            have D18 := D16.extN e18
            have hwl18 := S18 _ _ (S17 _ _ hwl16)
            have hws18 := hws16.same (ext_tups e18)
            revert T18 D18 hwl18 hws18
            generalize upd H17 ln (.lst []) = H18
            intro T18 D18 hwl18 hws18
            rw [eqv_ones]
            refine ⟨_, rfl, ?_⟩
            by_cases b0 : badN (args k) = 0
            · refine iteBT (decide_eq_true b0) ?_
              dsimp only [tSeq, tIfS, tNot, tB]
              refine read_caught T18 CK.em CK.ec kK (fun H8 e8 E Q8 hE => ?_) (fun H10 e10 T10 => ?_)
              · exact ⟨_, rfl, _, rfl, .inl ⟨wl, ws, args k, rfl, .inl (SqL.of (e8 _ _ hwl18 fun ps z => nomatch z)), hws18.same (ext_tups e8), badN_zero b0, by omega, fun h => absurd h (by omega), fun _ => hE⟩⟩
              · refine ⟨_, rfl, iteF ?_⟩
                exact ⟨_, _, _, _, _, _, _, _, m7 + 4, rfl, D18.extN e10, T10, by omega⟩
            · refine iteBF (decide_eq_false b0) ?_
              exact ⟨_, _, _, _, _, _, _, _, m7 + 4, rfl, D18, T18, by omega⟩
    · rintro σ H2 ⟨o2, o3, o4, o5, o6, o7, o8, o9, m, rfl, D2, T2, hm⟩
      exact cont _
end
end My
set_option Elab.async false
set_option linter.all false
set_option maxRecDepth 100000
set_option maxHeartbeats 4000000
namespace My
open PySem L2 Kn PyProof.Rows
/-! ### the end -/
theorem all_mk {l : PySem.W.OpenLaw} {w : World} {K : PySem.W.Frag} {h : Heap} {mg : Str → Option Value} {fa HE tA cL PL CBadKind CBadKinds f_is_kind f_need_kind f_arguments f_arguments_of f_kind_from f_ends_in f_count_ends f_order f_ord f_begun f_blended f_draw f_pick f_caught f_is_truth f_oh_same f_oh_wanted f_oh_ends f_oh_at f_oh_put f_oh_bent f_oh_spots f_oh_bad_kind f_oh_counted f_oh_is_kind f_any_kind f_lorder f_law : Addr} (X : K.In h) (G : h.Ns mainGlobals mg) (hfa : mg "law" = some (.ref fa))
    (TC : ∀ c P : Addr, PySem.W.tabIn K "law" = some (c, P) → PySem.W.CodeHd h c P ∧ h.get? P = some tblObj)
    {dT odC od0 od1 od2 od3 od4 od5 od6 od7 od8 od9 od10 od11 od12 od13 od14 od15 od16 od17 od18 od19 od20 od21 od22 od23 od24 od25 od26 od27 an0 an1 an2 an3 an4 an5 an6 an7 an8 an9 an10 an11 an12 an13 an14 an15 an16 an17 an18 an19 an20 an21 an22 an23 an24 an25 an26 an27 : Option Addr} {vsC : Array Value} {ocC : Value} {sT slC sl0 sl1 sl2 sl3 sl4 sl5 sl6 sl7 sl8 sl9 sl10 sl11 sl12 sl13 sl14 sl15 sl16 sl17 sl18 sl19 sl20 sl21 sl22 sl23 sl24 sl25 sl26 sl27 : Array (Option Value)} {tt tM : Tok} {nT : Nat} {oc0 oc1 oc2 oc3 oc4 oc5 oc6 oc7 oc8 oc9 oc10 oc11 oc12 oc13 oc14 oc15 oc16 oc17 oc18 oc19 oc20 oc21 oc22 oc23 oc24 oc25 oc26 oc27 kV0 kV1 kV2 kV3 kV4 kV5 kV6 kV7 kV8 kV9 kV10 kV11 kV12 kV13 kV14 kV15 kV16 kV17 kV18 kV19 kV20 kV21 kV22 kV23 kV24 kV25 kV26 kV27 dc0 dc1 dc2 dc3 dc4 dc5 dc6 dc7 dc8 dc9 dc10 dc11 dc12 dc13 dc14 dc15 dc16 dc17 dc18 dc19 dc20 dc21 dc22 dc23 dc24 dc25 dc26 dc27 pm0 pm1 pm2 pm3 pm4 pm5 pm6 pm7 pm8 pm9 pm10 pm11 pm12 pm13 pm14 pm15 pm16 pm17 pm18 pm19 pm20 pm21 pm22 pm23 pm24 pm25 pm26 pm27 cd0 cd1 cd2 cd3 cd4 cd5 cd6 cd7 cd8 cd9 cd10 cd11 cd12 cd13 cd14 cd15 cd16 cd17 cd18 cd19 cd20 cd21 cd22 cd23 cd24 cd25 cd26 ct0 ct1 ct2 ct3 ct4 ct5 ct6 ct7 ct8 ct9 ct10 ct11 ct12 ct13 ct14 ct15 ct16 ct17 ct18 ct19 ct20 ct21 ct22 ct23 ct24 ct25 ct26 ct27 : Value}
    (aH : PySem.W.nsIn K mainGlobals "HeadError" = some (some (.ref HE)))
    (aBadKind : PySem.W.nsIn K mainGlobals "BadKind" = some (some (.ref CBadKind)))
    (bBadKind : errB K CBadKind HE = true)
    (aBadKinds : PySem.W.nsIn K mainGlobals "BadKinds" = some (some (.ref CBadKinds)))
    (bBadKinds : errB K CBadKinds HE = true)
    (aT : PySem.W.nsIn K mainGlobals "TEXT" = some (some (.ref tA)))
    (lT : K.lookup tA = some ⟨.type "tuple", dT, .seq #[.str "text" tt] nT, sT⟩)
    (aM : PySem.W.nsIn K mainGlobals "MOST_ENDS" = some (some (.int 60 tM)))
    (gis_kind : PySem.W.nsIn K mainGlobals "is_kind" = some (some (.ref f_is_kind)))
    (lis_kind : K.lookup f_is_kind = some ⟨oc0, od0, .func (PySem.W.fnOf "is_kind" "is_kind" (defArgs s_is_kind) (defBody s_is_kind) (defScope s_is_kind) .none kV0 dc0 pm0 an0 cd0 ct0), sl0⟩)
    (cis_kind : PySem.W.codeIn K cd0 "is_kind" = true)
    (kis_kind : PySem.W.keepIn K (.ref f_is_kind) = true)
    (gneed_kind : PySem.W.nsIn K mainGlobals "need_kind" = some (some (.ref f_need_kind)))
    (lneed_kind : K.lookup f_need_kind = some ⟨oc1, od1, .func (PySem.W.fnOf "need_kind" "need_kind" (defArgs s_need_kind) (defBody s_need_kind) (defScope s_need_kind) .none kV1 dc1 pm1 an1 cd1 ct1), sl1⟩)
    (cneed_kind : PySem.W.codeIn K cd1 "need_kind" = true)
    (kneed_kind : PySem.W.keepIn K (.ref f_need_kind) = true)
    (garguments : PySem.W.nsIn K mainGlobals "arguments" = some (some (.ref f_arguments)))
    (larguments : K.lookup f_arguments = some ⟨oc2, od2, .func (PySem.W.fnOf "arguments" "arguments" (defArgs s_arguments) (defBody s_arguments) (defScope s_arguments) .none kV2 dc2 pm2 an2 cd2 ct2), sl2⟩)
    (carguments : PySem.W.codeIn K cd2 "arguments" = true)
    (karguments : PySem.W.keepIn K (.ref f_arguments) = true)
    (garguments_of : PySem.W.nsIn K mainGlobals "arguments_of" = some (some (.ref f_arguments_of)))
    (larguments_of : K.lookup f_arguments_of = some ⟨oc3, od3, .func (PySem.W.fnOf "arguments_of" "arguments_of" (defArgs s_arguments_of) (defBody s_arguments_of) (defScope s_arguments_of) .none kV3 dc3 pm3 an3 cd3 ct3), sl3⟩)
    (carguments_of : PySem.W.codeIn K cd3 "arguments_of" = true)
    (karguments_of : PySem.W.keepIn K (.ref f_arguments_of) = true)
    (gkind_from : PySem.W.nsIn K mainGlobals "kind_from" = some (some (.ref f_kind_from)))
    (lkind_from : K.lookup f_kind_from = some ⟨oc4, od4, .func (PySem.W.fnOf "kind_from" "kind_from" (defArgs s_kind_from) (defBody s_kind_from) (defScope s_kind_from) .none kV4 dc4 pm4 an4 cd4 ct4), sl4⟩)
    (ckind_from : PySem.W.codeIn K cd4 "kind_from" = true)
    (kkind_from : PySem.W.keepIn K (.ref f_kind_from) = true)
    (gends_in : PySem.W.nsIn K mainGlobals "ends_in" = some (some (.ref f_ends_in)))
    (lends_in : K.lookup f_ends_in = some ⟨oc5, od5, .func (PySem.W.fnOf "ends_in" "ends_in" (defArgs s_ends_in) (defBody s_ends_in) (defScope s_ends_in) .none kV5 dc5 pm5 an5 cd5 ct5), sl5⟩)
    (cends_in : PySem.W.codeIn K cd5 "ends_in" = true)
    (kends_in : PySem.W.keepIn K (.ref f_ends_in) = true)
    (gcount_ends : PySem.W.nsIn K mainGlobals "count_ends" = some (some (.ref f_count_ends)))
    (lcount_ends : K.lookup f_count_ends = some ⟨oc6, od6, .func (PySem.W.fnOf "count_ends" "count_ends" (defArgs s_count_ends) (defBody s_count_ends) (defScope s_count_ends) .none kV6 dc6 pm6 an6 cd6 ct6), sl6⟩)
    (ccount_ends : PySem.W.codeIn K cd6 "count_ends" = true)
    (kcount_ends : PySem.W.keepIn K (.ref f_count_ends) = true)
    (gorder : PySem.W.nsIn K mainGlobals "order" = some (some (.ref f_order)))
    (lorder : K.lookup f_order = some ⟨oc7, od7, .func (PySem.W.fnOf "order" "order" (defArgs s_order) (defBody s_order) (defScope s_order) .none kV7 dc7 pm7 an7 cd7 ct7), sl7⟩)
    (corder : PySem.W.codeIn K cd7 "order" = true)
    (korder : PySem.W.keepIn K (.ref f_order) = true)
    (gord : PySem.W.nsIn K mainGlobals "_order" = some (some (.ref f_ord)))
    (lord : K.lookup f_ord = some ⟨oc8, od8, .func (PySem.W.fnOf "_order" "_order" (defArgs s_ord) (defBody s_ord) (defScope s_ord) .none kV8 dc8 pm8 an8 cd8 ct8), sl8⟩)
    (cord : PySem.W.codeIn K cd8 "_order" = true)
    (kord : PySem.W.keepIn K (.ref f_ord) = true)
    (gbegun : PySem.W.nsIn K mainGlobals "_law_begun" = some (some (.ref f_begun)))
    (lbegun : K.lookup f_begun = some ⟨oc9, od9, .func (PySem.W.fnOf "_law_begun" "_law_begun" (defArgs sBegun) (defBody sBegun) (defScope sBegun) .none kV9 dc9 pm9 an9 cd9 ct9), sl9⟩)
    (cbegun : PySem.W.codeIn K cd9 "_law_begun" = true)
    (kbegun : PySem.W.keepIn K (.ref f_begun) = true)
    (gblended : PySem.W.nsIn K mainGlobals "_law_blended" = some (some (.ref f_blended)))
    (lblended : K.lookup f_blended = some ⟨oc10, od10, .func (PySem.W.fnOf "_law_blended" "_law_blended" (defArgs sBlended) (defBody sBlended) (defScope sBlended) .none kV10 dc10 pm10 an10 cd10 ct10), sl10⟩)
    (cblended : PySem.W.codeIn K cd10 "_law_blended" = true)
    (kblended : PySem.W.keepIn K (.ref f_blended) = true)
    (gdraw : PySem.W.nsIn K mainGlobals "_law_draw" = some (some (.ref f_draw)))
    (ldraw : K.lookup f_draw = some ⟨oc11, od11, .func (PySem.W.fnOf "_law_draw" "_law_draw" (defArgs sDraw) (defBody sDraw) (defScope sDraw) .none kV11 dc11 pm11 an11 cd11 ct11), sl11⟩)
    (cdraw : PySem.W.codeIn K cd11 "_law_draw" = true)
    (kdraw : PySem.W.keepIn K (.ref f_draw) = true)
    (gpick : PySem.W.nsIn K mainGlobals "_law_pick" = some (some (.ref f_pick)))
    (lpick : K.lookup f_pick = some ⟨oc12, od12, .func (PySem.W.fnOf "_law_pick" "_law_pick" (defArgs sPick) (defBody sPick) (defScope sPick) .none kV12 dc12 pm12 an12 cd12 ct12), sl12⟩)
    (cpick : PySem.W.codeIn K cd12 "_law_pick" = true)
    (kpick : PySem.W.keepIn K (.ref f_pick) = true)
    (gcaught : PySem.W.nsIn K mainGlobals "_law_caught" = some (some (.ref f_caught)))
    (lcaught : K.lookup f_caught = some ⟨oc13, od13, .func (PySem.W.fnOf "_law_caught" "_law_caught" (defArgs (top 21)) (defBody (top 21)) (defScope (top 21)) .none kV13 dc13 pm13 an13 cd13 ct13), sl13⟩)
    (ccaught : PySem.W.codeIn K cd13 "_law_caught" = true)
    (kcaught : PySem.W.keepIn K (.ref f_caught) = true)
    (gis_truth : PySem.W.nsIn K mainGlobals "_law_is_truth" = some (some (.ref f_is_truth)))
    (lis_truth : K.lookup f_is_truth = some ⟨oc14, od14, .func (PySem.W.fnOf "_law_is_truth" "_law_is_truth" (defArgs s_is_truth) (defBody s_is_truth) (defScope s_is_truth) .none kV14 dc14 pm14 an14 cd14 ct14), sl14⟩)
    (cis_truth : PySem.W.codeIn K cd14 "_law_is_truth" = true)
    (kis_truth : PySem.W.keepIn K (.ref f_is_truth) = true)
    (goh_same : PySem.W.nsIn K mainGlobals "_law_oh_same" = some (some (.ref f_oh_same)))
    (loh_same : K.lookup f_oh_same = some ⟨oc15, od15, .func (PySem.W.fnOf "_law_oh_same" "_law_oh_same" (defArgs s_oh_same) (defBody s_oh_same) (defScope s_oh_same) .none kV15 dc15 pm15 an15 cd15 ct15), sl15⟩)
    (coh_same : PySem.W.codeIn K cd15 "_law_oh_same" = true)
    (koh_same : PySem.W.keepIn K (.ref f_oh_same) = true)
    (goh_wanted : PySem.W.nsIn K mainGlobals "_law_oh_wanted" = some (some (.ref f_oh_wanted)))
    (loh_wanted : K.lookup f_oh_wanted = some ⟨oc16, od16, .func (PySem.W.fnOf "_law_oh_wanted" "_law_oh_wanted" (defArgs s_oh_wanted) (defBody s_oh_wanted) (defScope s_oh_wanted) .none kV16 dc16 pm16 an16 cd16 ct16), sl16⟩)
    (coh_wanted : PySem.W.codeIn K cd16 "_law_oh_wanted" = true)
    (koh_wanted : PySem.W.keepIn K (.ref f_oh_wanted) = true)
    (goh_ends : PySem.W.nsIn K mainGlobals "_law_oh_ends" = some (some (.ref f_oh_ends)))
    (loh_ends : K.lookup f_oh_ends = some ⟨oc17, od17, .func (PySem.W.fnOf "_law_oh_ends" "_law_oh_ends" (defArgs s_oh_ends) (defBody s_oh_ends) (defScope s_oh_ends) .none kV17 dc17 pm17 an17 cd17 ct17), sl17⟩)
    (coh_ends : PySem.W.codeIn K cd17 "_law_oh_ends" = true)
    (koh_ends : PySem.W.keepIn K (.ref f_oh_ends) = true)
    (goh_at : PySem.W.nsIn K mainGlobals "_law_oh_at" = some (some (.ref f_oh_at)))
    (loh_at : K.lookup f_oh_at = some ⟨oc18, od18, .func (PySem.W.fnOf "_law_oh_at" "_law_oh_at" (defArgs s_oh_at) (defBody s_oh_at) (defScope s_oh_at) .none kV18 dc18 pm18 an18 cd18 ct18), sl18⟩)
    (coh_at : PySem.W.codeIn K cd18 "_law_oh_at" = true)
    (koh_at : PySem.W.keepIn K (.ref f_oh_at) = true)
    (goh_put : PySem.W.nsIn K mainGlobals "_law_oh_put" = some (some (.ref f_oh_put)))
    (loh_put : K.lookup f_oh_put = some ⟨oc19, od19, .func (PySem.W.fnOf "_law_oh_put" "_law_oh_put" (defArgs s_oh_put) (defBody s_oh_put) (defScope s_oh_put) .none kV19 dc19 pm19 an19 cd19 ct19), sl19⟩)
    (coh_put : PySem.W.codeIn K cd19 "_law_oh_put" = true)
    (koh_put : PySem.W.keepIn K (.ref f_oh_put) = true)
    (goh_bent : PySem.W.nsIn K mainGlobals "_law_oh_bent" = some (some (.ref f_oh_bent)))
    (loh_bent : K.lookup f_oh_bent = some ⟨oc20, od20, .func (PySem.W.fnOf "_law_oh_bent" "_law_oh_bent" (defArgs s_oh_bent) (defBody s_oh_bent) (defScope s_oh_bent) .none kV20 dc20 pm20 an20 cd20 ct20), sl20⟩)
    (coh_bent : PySem.W.codeIn K cd20 "_law_oh_bent" = true)
    (koh_bent : PySem.W.keepIn K (.ref f_oh_bent) = true)
    (goh_spots : PySem.W.nsIn K mainGlobals "_law_oh_spots" = some (some (.ref f_oh_spots)))
    (loh_spots : K.lookup f_oh_spots = some ⟨oc21, od21, .func (PySem.W.fnOf "_law_oh_spots" "_law_oh_spots" (defArgs s_oh_spots) (defBody s_oh_spots) (defScope s_oh_spots) .none kV21 dc21 pm21 an21 cd21 ct21), sl21⟩)
    (coh_spots : PySem.W.codeIn K cd21 "_law_oh_spots" = true)
    (koh_spots : PySem.W.keepIn K (.ref f_oh_spots) = true)
    (goh_bad_kind : PySem.W.nsIn K mainGlobals "_law_oh_bad_kind" = some (some (.ref f_oh_bad_kind)))
    (loh_bad_kind : K.lookup f_oh_bad_kind = some ⟨oc22, od22, .func (PySem.W.fnOf "_law_oh_bad_kind" "_law_oh_bad_kind" (defArgs s_oh_bad_kind) (defBody s_oh_bad_kind) (defScope s_oh_bad_kind) .none kV22 dc22 pm22 an22 cd22 ct22), sl22⟩)
    (coh_bad_kind : PySem.W.codeIn K cd22 "_law_oh_bad_kind" = true)
    (koh_bad_kind : PySem.W.keepIn K (.ref f_oh_bad_kind) = true)
    (goh_counted : PySem.W.nsIn K mainGlobals "_law_oh_counted" = some (some (.ref f_oh_counted)))
    (loh_counted : K.lookup f_oh_counted = some ⟨oc23, od23, .func (PySem.W.fnOf "_law_oh_counted" "_law_oh_counted" (defArgs s_counted) (defBody s_counted) (defScope s_counted) .none kV23 dc23 pm23 an23 cd23 ct23), sl23⟩)
    (coh_counted : PySem.W.codeIn K cd23 "_law_oh_counted" = true)
    (koh_counted : PySem.W.keepIn K (.ref f_oh_counted) = true)
    (goh_is_kind : PySem.W.nsIn K mainGlobals "_law_oh_is_kind" = some (some (.ref f_oh_is_kind)))
    (loh_is_kind : K.lookup f_oh_is_kind = some ⟨oc24, od24, .func (PySem.W.fnOf "_law_oh_is_kind" "_law_oh_is_kind" (defArgs s_is_kd) (defBody s_is_kd) (defScope s_is_kd) .none kV24 dc24 pm24 an24 cd24 ct24), sl24⟩)
    (coh_is_kind : PySem.W.codeIn K cd24 "_law_oh_is_kind" = true)
    (koh_is_kind : PySem.W.keepIn K (.ref f_oh_is_kind) = true)
    (gany_kind : PySem.W.nsIn K mainGlobals "_law_any_kind" = some (some (.ref f_any_kind)))
    (lany_kind : K.lookup f_any_kind = some ⟨oc25, od25, .func (PySem.W.fnOf "_law_any_kind" "_law_any_kind" (defArgs s_any_kind) (defBody s_any_kind) (defScope s_any_kind) .none kV25 dc25 pm25 an25 cd25 ct25), sl25⟩)
    (cany_kind : PySem.W.codeIn K cd25 "_law_any_kind" = true)
    (kany_kind : PySem.W.keepIn K (.ref f_any_kind) = true)
    (glorder : PySem.W.nsIn K mainGlobals "_law_order" = some (some (.ref f_lorder)))
    (llorder : K.lookup f_lorder = some ⟨oc26, od26, .func (PySem.W.fnOf "_law_order" "_law_order" (defArgs s_lorder) (defBody s_lorder) (defScope s_lorder) .none kV26 dc26 pm26 an26 cd26 ct26), sl26⟩)
    (clorder : PySem.W.codeIn K cd26 "_law_order" = true)
    (klorder : PySem.W.keepIn K (.ref f_lorder) = true)
    (glaw : PySem.W.nsIn K mainGlobals "law" = some (some (.ref f_law)))
    (llaw : K.lookup f_law = some ⟨oc27, od27, .func (PySem.W.fnOf "law" "law" (defArgs s_law) (defBody s_law) (defScope s_law) .none kV27 dc27 pm27 an27 (.ref cL) ct27), sl27⟩)
    (claw : PySem.W.codeIn K (.ref cL) "law" = true)
    (klaw : PySem.W.keepIn K (.ref f_law) = true)
    (qlaw : K.lookup cL = some ⟨ocC, odC, .fields vsC, slC⟩)
    (plaw : vsC[11]? = some (.ref PL))
    (tlaw : PySem.W.tabIn K "law" = some (cL, PL))
    (nlaw : K.lookup PL = none)
    (zabs : PySem.W.nsIn K mainGlobals "abs" = some none)
    (zint : PySem.W.nsIn K mainGlobals "int" = some none)
    (zlen : PySem.W.nsIn K mainGlobals "len" = some none)
    (zisinstance : PySem.W.nsIn K mainGlobals "isinstance" = some none)
    (ztuple : PySem.W.nsIn K mainGlobals "tuple" = some none)
    (zlist : PySem.W.nsIn K mainGlobals "list" = some none)
    (zrange : PySem.W.nsIn K mainGlobals "range" = some none)
    (zmin : PySem.W.nsIn K mainGlobals "min" = some none)
    (zrepr : PySem.W.nsIn K mainGlobals "repr" = some none)
    (zmax : PySem.W.nsIn K mainGlobals "max" = some none)
    (zall : PySem.W.nsIn K mainGlobals "all" = some none)
    (zsum : PySem.W.nsIn K mainGlobals "sum" = some none)
    (zreversed : PySem.W.nsIn K mainGlobals "reversed" = some none)
    (zstr : PySem.W.nsIn K mainGlobals "str" = some none)
    : ∃ cs, LawG l.prog w K 72 63 "script" mg fa h cs := by
  have e := hfa.symm.trans (PySem.W.mg_of X G glaw)
  cases e
  have gt : ∀ {n : Str} {v : Value}, PySem.W.nsIn K mainGlobals n = some (some v) → mg n = some v := fun q => PySem.W.mg_of X G q
  have gn : ∀ {n : Str}, PySem.W.nsIn K mainGlobals n = some none → mg n = none := fun q => PySem.W.mg_none_of X G q
  have T : TxtK K mg tA := ⟨gt aT, fun H => .inr ⟨_, _, _, lT, rfl, rfl, by show 1 ≤ sizeLine; decide, .cons ⟨_, rfl⟩ .nil⟩, ⟨_, gt aM⟩, gn zisinstance, gn zlen, gn ztuple⟩
  have eBadKind := errB_ok bBadKind
  have XBadKind : ErrC K mg "BadKind" CBadKind HE := ⟨gt aBadKind, eBadKind.kC, eBadKind.q, eBadKind.sB, eBadKind.tC, eBadKind.ec, eBadKind.em⟩
  have eBadKinds := errB_ok bBadKinds
  have XBadKinds : ErrC K mg "BadKinds" CBadKinds HE := ⟨gt aBadKinds, eBadKinds.kC, eBadKinds.q, eBadKinds.sB, eBadKinds.tC, eBadKinds.ec, eBadKinds.em⟩
  have Fis_kind := fun_mk (st := s_is_kind) lis_kind cis_kind kis_kind
  have bis_kind := Fis_kind.binds (ps := ["value"]) fun _ _ _ _ _ _ us hl => match us, hl with | [_], _ => rfl
  have Fneed_kind := fun_mk (st := s_need_kind) lneed_kind cneed_kind kneed_kind
  have bneed_kind := Fneed_kind.binds (ps := ["kind"]) fun _ _ _ _ _ _ us hl => match us, hl with | [_], _ => rfl
  have Farguments := fun_mk (st := s_arguments) larguments carguments karguments
  have barguments := Farguments.binds (ps := ["kind"]) fun _ _ _ _ _ _ us hl => match us, hl with | [_], _ => rfl
  have Farguments_of := fun_mk (st := s_arguments_of) larguments_of carguments_of karguments_of
  have barguments_of := Farguments_of.binds (ps := ["kind"]) fun _ _ _ _ _ _ us hl => match us, hl with | [_], _ => rfl
  have Fkind_from := fun_mk (st := s_kind_from) lkind_from ckind_from kkind_from
  have bkind_from := Fkind_from.binds (ps := ["arguments"]) fun _ _ _ _ _ _ us hl => match us, hl with | [_], _ => rfl
  have Fends_in := fun_mk (st := s_ends_in) lends_in cends_in kends_in
  have bends_in := Fends_in.binds (ps := ["kind"]) fun _ _ _ _ _ _ us hl => match us, hl with | [_], _ => rfl
  have Fcount_ends := fun_mk (st := s_count_ends) lcount_ends ccount_ends kcount_ends
  have bcount_ends := Fcount_ends.binds (ps := ["kind"]) fun _ _ _ _ _ _ us hl => match us, hl with | [_], _ => rfl
  have Forder := fun_mk (st := s_order) lorder corder korder
  have border := Forder.binds (ps := ["kind"]) fun _ _ _ _ _ _ us hl => match us, hl with | [_], _ => rfl
  have Ford := fun_mk (st := s_ord) lord cord kord
  have bord := Ford.binds (ps := ["kind"]) fun _ _ _ _ _ _ us hl => match us, hl with | [_], _ => rfl
  have Fbegun := fun_mk (st := sBegun) lbegun cbegun kbegun
  have bbegun := Fbegun.binds (ps := ["script"]) fun _ _ _ _ _ _ us hl => match us, hl with | [_], _ => rfl
  have Fblended := fun_mk (st := sBlended) lblended cblended kblended
  have bblended := Fblended.binds (ps := ["state"]) fun _ _ _ _ _ _ us hl => match us, hl with | [_], _ => rfl
  have Fdraw := fun_mk (st := sDraw) ldraw cdraw kdraw
  have bdraw := Fdraw.binds (ps := ["state", "room"]) fun _ _ _ _ _ _ us hl => match us, hl with | [_, _], _ => rfl
  have Fpick := fun_mk (st := sPick) lpick cpick kpick
  have bpick := Fpick.binds (ps := ["state", "some"]) fun _ _ _ _ _ _ us hl => match us, hl with | [_, _], _ => rfl
  have Fcaught := fun_mk (st := (top 21)) lcaught ccaught kcaught
  have bcaught := Fcaught.binds (ps := ["action"]) fun _ _ _ _ _ _ us hl => match us, hl with | [_], _ => rfl
  have Fis_truth := fun_mk (st := s_is_truth) lis_truth cis_truth kis_truth
  have bis_truth := Fis_truth.binds (ps := ["found", "due"]) fun _ _ _ _ _ _ us hl => match us, hl with | [_, _], _ => rfl
  have Foh_same := fun_mk (st := s_oh_same) loh_same coh_same koh_same
  have boh_same := Foh_same.binds (ps := ["found", "due"]) fun _ _ _ _ _ _ us hl => match us, hl with | [_, _], _ => rfl
  have Foh_wanted := fun_mk (st := s_oh_wanted) loh_wanted coh_wanted koh_wanted
  have boh_wanted := Foh_wanted.binds (ps := ["kind"]) fun _ _ _ _ _ _ us hl => match us, hl with | [_], _ => rfl
  have Foh_ends := fun_mk (st := s_oh_ends) loh_ends coh_ends koh_ends
  have boh_ends := Foh_ends.binds (ps := ["kind"]) fun _ _ _ _ _ _ us hl => match us, hl with | [_], _ => rfl
  have Foh_at := fun_mk (st := s_oh_at) loh_at coh_at koh_at
  have boh_at := Foh_at.binds (ps := ["thing", "path"]) fun _ _ _ _ _ _ us hl => match us, hl with | [_, _], _ => rfl
  have Foh_put := fun_mk (st := s_oh_put) loh_put coh_put koh_put
  have boh_put := Foh_put.binds (ps := ["thing", "path", "part"]) fun _ _ _ _ _ _ us hl => match us, hl with | [_, _, _], _ => rfl
  have Foh_bent := fun_mk (st := s_oh_bent) loh_bent coh_bent koh_bent
  have boh_bent := Foh_bent.binds (ps := ["state", "thing"]) fun _ _ _ _ _ _ us hl => match us, hl with | [_, _], _ => rfl
  have Foh_spots := fun_mk (st := s_oh_spots) loh_spots coh_spots koh_spots
  have boh_spots := Foh_spots.binds (ps := ["thing", "path"]) fun _ _ _ _ _ _ us hl => match us, hl with | [_, _], _ => rfl
  have Foh_bad_kind := fun_mk (st := s_oh_bad_kind) loh_bad_kind coh_bad_kind koh_bad_kind
  have boh_bad_kind := Foh_bad_kind.binds (ps := ["state"]) fun _ _ _ _ _ _ us hl => match us, hl with | [_], _ => rfl
  have Foh_counted := fun_mk (st := s_counted) loh_counted coh_counted koh_counted
  have boh_counted := Foh_counted.binds (ps := ["thing", "room"]) fun _ _ _ _ _ _ us hl => match us, hl with | [_, _], _ => rfl
  have Foh_is_kind := fun_mk (st := s_is_kd) loh_is_kind coh_is_kind koh_is_kind
  have boh_is_kind := Foh_is_kind.binds (ps := ["thing"]) fun _ _ _ _ _ _ us hl => match us, hl with | [_], _ => rfl
  have Fany_kind := fun_mk (st := s_any_kind) lany_kind cany_kind kany_kind
  have bany_kind := Fany_kind.binds (ps := ["state", "ends"]) fun _ _ _ _ _ _ us hl => match us, hl with | [_, _], _ => rfl
  have Florder := fun_mk (st := s_lorder) llorder clorder klorder
  have blorder := Florder.binds (ps := ["kind"]) fun _ _ _ _ _ _ us hl => match us, hl with | [_], _ => rfl
  have Flaw := fun_mk (st := s_law) llaw claw klaw
  have blaw := Flaw.binds (ps := ["script"]) fun _ _ _ _ _ _ us hl => match us, hl with | [_], _ => rfl
  have tc := TC cL PL tlaw
  refine ⟨[(cL, PL)], fun p hp => by rw [List.mem_singleton.mp hp]; exact tc.2, fun p hp => by rw [List.mem_singleton.mp hp]; exact nlaw, fun p hp => by rw [List.mem_singleton.mp hp]; exact tc.1, PySem.W.fnOf "law" "law" (defArgs s_law) (defBody s_law) (defScope s_law) .none kV27 dc27 pm27 an27 (.ref cL) ct27, spLaw00 K PL, fun s u => .of_eq rfl,
    fun H a ns hl _ ht hS => ⟨a, ns, rfl, hS, hl, ht (cL, PL) (List.mem_singleton.mpr rfl), fun _ => rfl⟩, fun base _ _ TB => ?_⟩
  have Gis_kind : FnOk l.prog w K mg base CX0 1 f_is_kind _ ["value"] (spIsKind K) := ok_is_kind Fis_kind T
  have Gneed_kind : FnOk l.prog w K mg base (L2.CX l.prog w) 2 f_need_kind _ ["kind"] (spNeed K CBadKind) := ok_need_kind Fneed_kind XBadKind Gis_kind (gt gis_kind) kis_kind bis_kind
  have Garguments_of : FnOk l.prog w K mg base CX0 1 f_arguments_of _ ["kind"] (spArgsOf K) := ok_arguments_of Farguments_of T
  have Gcount_ends : FnOk l.prog w K mg base CX0 1 f_count_ends _ ["kind"] (spCount K) := ok_count_ends Fcount_ends T
  have Garguments : FnOk l.prog w K mg base (L2.CX l.prog w) 3 f_arguments _ ["kind"] (spTell CBadKind K (gArgs K)) := ok_arguments Farguments Gneed_kind (gt gneed_kind) kneed_kind bneed_kind Garguments_of (gt garguments_of) karguments_of barguments_of
  have Gends_in : FnOk l.prog w K mg base (L2.CX l.prog w) 3 f_ends_in _ ["kind"] (spTell CBadKind K (gNum Kd.ends)) := ok_ends_in Fends_in Gneed_kind (gt gneed_kind) kneed_kind bneed_kind Gcount_ends (gt gcount_ends) kcount_ends bcount_ends
  have Gord : FnOk l.prog w K mg base CX0 61 f_ord _ ["kind"] (spOrd K 60) := ok_ord Ford T (gn zmax) (gt gord) kord bord Garguments_of (gt garguments_of) karguments_of barguments_of 60
  have Gorder : FnOk l.prog w K mg base (L2.CX l.prog w) 62 f_order _ ["kind"] (spTell CBadKind K (gNum ordK)) := ok_order Forder Gneed_kind (gt gneed_kind) kneed_kind bneed_kind Gord (gt gord) kord bord
  have Gkind_from : FnOk l.prog w K mg base (L2.CX l.prog w) 2 f_kind_from _ ["arguments"] (spKFrom CBadKind CBadKinds K) := ok_kind_from Fkind_from T XBadKind XBadKinds (gn zlist) (gn zall) (gn zsum) (gn zreversed) Gis_kind (gt gis_kind) kis_kind bis_kind Gcount_ends (gt gcount_ends) kcount_ends bcount_ends
  have Gbegun : FnOk l.prog w K mg base CX0 1 f_begun _ ["script"] (spBegun K) := ok_begun Fbegun (gn zabs)
  have Gblended : FnOk l.prog w K mg base CX0 1 f_blended _ ["state"] spBlended := ok_blended Fblended (gn zint)
  have Gdraw : FnOk l.prog w K mg base CX0 2 f_draw _ ["state", "room"] spDraw := ok_draw Fdraw (gn zint) Gblended (gt gblended) kblended bblended
  have Gpick : FnOk l.prog w K mg base CX0 3 f_pick _ ["state", "some"] (spPick K) := ok_pick Fpick (gn zlen) Gdraw (gt gdraw) kdraw bdraw
  have Gis_truth : FnOk l.prog w K mg base CX0 1 f_is_truth _ ["found", "due"] spTruth := ok_is_truth Fis_truth
  have Goh_wanted : FnOk l.prog w K mg base CX0 1 f_oh_wanted _ ["kind"] (spWanted K) := ok_oh_wanted Foh_wanted
  have Goh_ends : FnOk l.prog w K mg base CX0 64 f_oh_ends _ ["kind"] (spSize K 64) := ok_oh_ends Foh_ends (gt goh_ends) koh_ends boh_ends 64
  have Goh_at : FnOk l.prog w K mg base CX0 1 f_oh_at _ ["thing", "path"] (spAt K) := ok_oh_at Foh_at
  have Goh_put : FnOk l.prog w K mg base CX0 66 f_oh_put _ ["thing", "path", "part"] (spPut K 66) := ok_oh_put Foh_put (gt goh_put) koh_put boh_put 66
  have Goh_spots : FnOk l.prog w K mg base CX0 66 f_oh_spots _ ["thing", "path"] (spSpots K 66) := ok_oh_spots Foh_spots (gn zrange) (gn zisinstance) (gn ztuple) (gn zlen) (gt goh_spots) koh_spots boh_spots 66
  have Goh_bent : FnOk l.prog w K mg base CX0 67 f_oh_bent _ ["state", "thing"] (spBent K) := ok_oh_bent Foh_bent (gn zisinstance) (gn zint) (gn zstr) (gn ztuple) (gn zlist) Goh_spots (gt goh_spots) koh_spots boh_spots Gpick (gt gpick) kpick bpick Goh_at (gt goh_at) koh_at boh_at Goh_put (gt goh_put) koh_put boh_put
  have Goh_bad_kind : FnOk l.prog w K mg base CX0 4 f_oh_bad_kind _ ["state"] (spBadK K) := ok_oh_bad_kind Foh_bad_kind (gn zrange) Gpick (gt gpick) kpick bpick
  have Goh_counted : FnOk l.prog w K mg base CX0 1 f_oh_counted _ ["thing", "room"] (spCounted K) := ok_counted Foh_counted (gn zisinstance) (gn ztuple) (gn zstr) (gn zlen)
  have Goh_is_kind : FnOk l.prog w K mg base CX0 2 f_oh_is_kind _ ["thing"] (spIsKind K) := ok_is_kd Foh_is_kind Goh_counted (gt goh_counted) koh_counted boh_counted
  have Gany_kind : FnOk l.prog w K mg base CX0 64 f_any_kind _ ["state", "ends"] (spAnyK K 62) := ok_any_kind Fany_kind (gt gany_kind) kany_kind bany_kind Gdraw (gt gdraw) kdraw bdraw 62
  have Glorder : FnOk l.prog w K mg base CX0 65 f_lorder _ ["kind"] (spOrd K 64) := ok_lorder Florder (gn zmax) (gt glorder) klorder blorder Goh_wanted (gt goh_wanted) koh_wanted boh_wanted 64
  have Goh : FnG l.prog w K mg base CX0 1 f_oh_same _ ["found", "due"] (spSame K) := ok_oh_same Foh_same (gn zrepr)
  exact ok_law00 llaw claw (TB (cL, PL) (List.mem_singleton.mpr rfl)) (gn zrange) (gn zmin) (gn zlen) (gn zisinstance) (gn ztuple) XBadKind XBadKinds eBadKind.kit eBadKinds.kit (gt aH) ⟨Gbegun, gt gbegun, kbegun, bbegun⟩ ⟨Gpick, gt gpick, kpick, bpick⟩ ⟨Gdraw, gt gdraw, kdraw, bdraw⟩ ⟨Gany_kind, gt gany_kind, kany_kind, bany_kind⟩ ⟨Goh_bent, gt goh_bent, koh_bent, boh_bent⟩ ⟨Goh_bad_kind, gt goh_bad_kind, koh_bad_kind, boh_bad_kind⟩ ⟨Gis_truth, gt gis_truth, kis_truth, bis_truth⟩ ⟨Goh_is_kind, gt goh_is_kind, koh_is_kind, boh_is_kind⟩ ⟨Goh_wanted, gt goh_wanted, koh_wanted, boh_wanted⟩ ⟨Goh_ends, gt goh_ends, koh_ends, boh_ends⟩ ⟨Glorder, gt glorder, klorder, blorder⟩ Goh (gt goh_same) koh_same boh_same Fcaught (gt gcaught) kcaught bcaught ⟨Garguments, gt garguments, karguments, barguments⟩ (fun s ws _ hl => match ws, hl with | [_], _ => .of_eq rfl) ⟨Gends_in, gt gends_in, kends_in, bends_in⟩ (fun s ws _ hl => match ws, hl with | [_], _ => .of_eq rfl) ⟨Gorder, gt gorder, korder, border⟩ (fun s ws _ hl => match ws, hl with | [_], _ => .of_eq rfl) ⟨Gkind_from, gt gkind_from, kkind_from, bkind_from⟩ (fun s ws _ hl => match ws, hl with | [_], _ => .of_eq rfl) ⟨Gis_kind, gt gis_kind, kis_kind, bis_kind⟩ (fun s ws _ hl => match ws, hl with | [_], _ => .of_eq rfl)
end My
open PySem PySem.W PyProof.Rows
set_option maxRecDepth 100000 in
set_option maxHeartbeats 0 in
theorem PySem.Challenge.cw_oneuseheads_k00_kinds_holds : PySem.Challenge.rw_oneuseheads_k00_kinds.Holds := by
  w_on; o_law; k_head; (case hw => w_witness2)
  k_fill
  refine L2.walk_T (l := PySem.Challenge.rw_oneuseheads_k00_kinds) (n := 63) (k := 72) (x := "script") rfl (by decide) rfl ⟨rfl, by decide, by decide⟩ (fun w h Y => PySem.W.km_in_of Y) ?F
  case F =>
    intro w mg fa h KX G hmg TC
    refine' My.all_mk KX G hmg (fun c P e => TC "law" _ c P rfl e) ?aH ?aBadKind ?bBadKind ?aBadKinds ?bBadKinds ?aT ?lT ?aM ?gis_kind ?lis_kind ?cis_kind ?kis_kind ?gneed_kind ?lneed_kind ?cneed_kind ?kneed_kind ?garguments ?larguments ?carguments ?karguments ?garguments_of ?larguments_of ?carguments_of ?karguments_of ?gkind_from ?lkind_from ?ckind_from ?kkind_from ?gends_in ?lends_in ?cends_in ?kends_in ?gcount_ends ?lcount_ends ?ccount_ends ?kcount_ends ?gorder ?lorder ?corder ?korder ?gord ?lord ?cord ?kord ?gbegun ?lbegun ?cbegun ?kbegun ?gblended ?lblended ?cblended ?kblended ?gdraw ?ldraw ?cdraw ?kdraw ?gpick ?lpick ?cpick ?kpick ?gcaught ?lcaught ?ccaught ?kcaught ?gis_truth ?lis_truth ?cis_truth ?kis_truth ?goh_same ?loh_same ?coh_same ?koh_same ?goh_wanted ?loh_wanted ?coh_wanted ?koh_wanted ?goh_ends ?loh_ends ?coh_ends ?koh_ends ?goh_at ?loh_at ?coh_at ?koh_at ?goh_put ?loh_put ?coh_put ?koh_put ?goh_bent ?loh_bent ?coh_bent ?koh_bent ?goh_spots ?loh_spots ?coh_spots ?koh_spots ?goh_bad_kind ?loh_bad_kind ?coh_bad_kind ?koh_bad_kind ?goh_counted ?loh_counted ?coh_counted ?koh_counted ?goh_is_kind ?loh_is_kind ?coh_is_kind ?koh_is_kind ?gany_kind ?lany_kind ?cany_kind ?kany_kind ?glorder ?llorder ?clorder ?klorder ?glaw ?llaw ?claw ?klaw ?qlaw ?plaw ?tlaw ?nlaw ?zabs ?zint ?zlen ?zisinstance ?ztuple ?zlist ?zrange ?zmin ?zrepr ?zmax ?zall ?zsum ?zreversed ?zstr
    (case aH => k_is)
    (case aBadKind => k_is)
    (case bBadKind => kernel_rfl)
    (case aBadKinds => k_is)
    (case bBadKinds => kernel_rfl)
    (case aT => k_is)
    (case lT => k_is)
    (case aM => k_is)
    (case gis_kind => k_is)
    (case lis_kind => k_is)
    (case cis_kind => k_is)
    (case kis_kind => k_is)
    (case gneed_kind => k_is)
    (case lneed_kind => k_is)
    (case cneed_kind => k_is)
    (case kneed_kind => k_is)
    (case garguments => k_is)
    (case larguments => k_is)
    (case carguments => k_is)
    (case karguments => k_is)
    (case garguments_of => k_is)
    (case larguments_of => k_is)
    (case carguments_of => k_is)
    (case karguments_of => k_is)
    (case gkind_from => k_is)
    (case lkind_from => k_is)
    (case ckind_from => k_is)
    (case kkind_from => k_is)
    (case gends_in => k_is)
    (case lends_in => k_is)
    (case cends_in => k_is)
    (case kends_in => k_is)
    (case gcount_ends => k_is)
    (case lcount_ends => k_is)
    (case ccount_ends => k_is)
    (case kcount_ends => k_is)
    (case gorder => k_is)
    (case lorder => k_is)
    (case corder => k_is)
    (case korder => k_is)
    (case gord => k_is)
    (case lord => k_is)
    (case cord => k_is)
    (case kord => k_is)
    (case gbegun => k_is)
    (case lbegun => k_is)
    (case cbegun => k_is)
    (case kbegun => k_is)
    (case gblended => k_is)
    (case lblended => k_is)
    (case cblended => k_is)
    (case kblended => k_is)
    (case gdraw => k_is)
    (case ldraw => k_is)
    (case cdraw => k_is)
    (case kdraw => k_is)
    (case gpick => k_is)
    (case lpick => k_is)
    (case cpick => k_is)
    (case kpick => k_is)
    (case gcaught => k_is)
    (case lcaught => k_is)
    (case ccaught => k_is)
    (case kcaught => k_is)
    (case gis_truth => k_is)
    (case lis_truth => k_is)
    (case cis_truth => k_is)
    (case kis_truth => k_is)
    (case goh_same => k_is)
    (case loh_same => k_is)
    (case coh_same => k_is)
    (case koh_same => k_is)
    (case goh_wanted => k_is)
    (case loh_wanted => k_is)
    (case coh_wanted => k_is)
    (case koh_wanted => k_is)
    (case goh_ends => k_is)
    (case loh_ends => k_is)
    (case coh_ends => k_is)
    (case koh_ends => k_is)
    (case goh_at => k_is)
    (case loh_at => k_is)
    (case coh_at => k_is)
    (case koh_at => k_is)
    (case goh_put => k_is)
    (case loh_put => k_is)
    (case coh_put => k_is)
    (case koh_put => k_is)
    (case goh_bent => k_is)
    (case loh_bent => k_is)
    (case coh_bent => k_is)
    (case koh_bent => k_is)
    (case goh_spots => k_is)
    (case loh_spots => k_is)
    (case coh_spots => k_is)
    (case koh_spots => k_is)
    (case goh_bad_kind => k_is)
    (case loh_bad_kind => k_is)
    (case coh_bad_kind => k_is)
    (case koh_bad_kind => k_is)
    (case goh_counted => k_is)
    (case loh_counted => k_is)
    (case coh_counted => k_is)
    (case koh_counted => k_is)
    (case goh_is_kind => k_is)
    (case loh_is_kind => k_is)
    (case coh_is_kind => k_is)
    (case koh_is_kind => k_is)
    (case gany_kind => k_is)
    (case lany_kind => k_is)
    (case cany_kind => k_is)
    (case kany_kind => k_is)
    (case glorder => k_is)
    (case llorder => k_is)
    (case clorder => k_is)
    (case klorder => k_is)
    (case glaw => k_is)
    (case llaw => k_is)
    (case claw => k_is)
    (case klaw => k_is)
    (case qlaw => k_is)
    (case plaw => rfl)
    (case tlaw => kernel_rfl)
    (case nlaw => kernel_rfl)
    (case zabs => k_is)
    (case zint => k_is)
    (case zlen => k_is)
    (case zisinstance => k_is)
    (case ztuple => k_is)
    (case zlist => k_is)
    (case zrange => k_is)
    (case zmin => k_is)
    (case zrepr => k_is)
    (case zmax => k_is)
    (case zall => k_is)
    (case zsum => k_is)
    (case zreversed => k_is)
    (case zstr => k_is)
#print axioms PySem.Challenge.cw_oneuseheads_k00_kinds_holds
