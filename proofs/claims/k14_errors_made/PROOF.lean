import PyProof.Rows.All
import Wide.All
import OpenK.AllK
import Wide.FinOn
import HandS.ForMost
import HandS.Exc
import HandS.ExcOwn
import HandS.ExcInit
import HandS.ExcIs
import HandS.ExcValue
import HandS.FStr
import HandS.IsInst
import HandS.Defaults
import HandS.ExcField
import PyProof.FString2
import PySem.Challenge.RW_oneuseheads_k14_errors_made
set_option Elab.async false
set_option linter.all false
set_option maxRecDepth 100000
set_option maxHeartbeats 4000000
namespace MyX
open PySem PySem.W PySem.HandSPX
section
variable {M : Model} {A : Around} {E : Value → Shared → Prop} {h : Heap} {g : Array GenState} {d : Drawn} {t : Nat} {os : OsState} {prog : Program} {w : World} {R : Result → Shared → Prop}
  {nm q : Str} {C N : Addr} {bs bm bmB : List Value} {hdct : Bool} {sn : List Str} {sub : List Value} {ab : Bool} {col : Option Bool} {dd : Option Addr} {k0 k1 k2 k3 k5 : Option Value} {B newId initId : String}
  {kw : List (Str × Value)}
theorem chk_new (F : ExcBaseFacts B newId initId bmB) (hT : ∀ X : String, bm.contains (.type X) = bmB.contains (.type X)) {Q : Unit → Shared → Prop}
    (hC : h.get? C = some (excClassObj nm q C N bs bm hdct sn sub ab col dd k0 k1 k2 k3 k5 newId)) (hq : Q () ⟨h, g, d, t, os⟩) :
    wpAny M A (checkBuiltinCall newId ⟨[.ref C], kw⟩) Q E ⟨h, g, d, t, os⟩ := by
  have c1 : (Value.ref C :: bm).contains (.type B) = true := by rw [List.contains_cons, hT, F.hasB, Bool.or_true]
  have c2 := F.noStar
  simp only [checkBuiltinCall, F.newKind, F.newSplit, F.newRow]
  repeat (first
    | refine wpAny_loadPart_at hC ?_
    | (refine wpAny_isSubtype_exc hC ?_; rw [c1])
    | refine wpAny_staticBase_exc hC ?_
    | refine wpAny_madeBy_exc hC ?_
    | simp only [bne_self_eq_false, Bool.false_eq_true, if_false]
    | wp_step)
  exact hq

theorem run_new (F : ExcBaseFacts B newId initId bmB) (hT : ∀ X : String, bm.contains (.type X) = bmB.contains (.type X))
    (hC : h.get? C = some (excClassObj nm q C N bs bm hdct sn sub ab col dd k0 k1 k2 k3 k5 newId))
    (hq : R (.ok (.ret (.ref (h.objs.size + 1)))) ⟨(h.push (W.kdv_tup [])).push (excO C h.objs.size), g, d, t, os⟩) :
    codeAny (model prog w) A (.builtin newId ⟨[.ref C], kw⟩) R ⟨h, g, d, t, os⟩ := by
  have z1 := F.ends
  have c1 : (Value.ref C :: bm).contains (.type B) = true := by rw [List.contains_cons, hT, F.hasB, Bool.or_true]
  have c2 : (Value.ref C :: bm).contains (.type "AttributeError") = false := by
    rw [List.contains_cons, hT, F.noAttr]
    rfl
  have c3 : (Value.ref C :: bm).contains (.type "NameError") = false := by
    rw [List.contains_cons, hT, F.noName]
    rfl
  have hrest : ([] : List Value).length ≤ sizeLine := Nat.zero_le _
  refine codeAny_builtinAt F.entry ?_
  unfold Builtin.«BaseException.__new__»
  refine wpAt_bind ?_
  show wpAt _ _ _ (stack >>= _) _ _ _
  refine wpAt_bind (wpAt_stack fun p below => wpAt_of_wpAny ?_)
  wp_walk
  refine wpAt_of_wpAny ?_
  rw [F.owner]
  repeat (first
    | with_reducible refine wpAny_madeHere_exc F.canon hC ?_
    | with_reducible refine wpAny_loadPart_at hC ?_
    | (with_reducible refine wpAny_isSubtype_exc hC ?_; first | rw [c1] | rw [c2] | rw [c3])
    | wp_step)
  show R _ _
  rw [Heap.size_push]
  exact hq
theorem run_type_call (F : ExcBaseFacts B newId initId bmB) (hT : ∀ X : String, bm.contains (.type X) = bmB.contains (.type X)) {fI : Addr} {Q : Fin → Shared → Prop}
    (hC : h.get? C = some (excClassObj nm q C N bs bm hdct sn sub ab col dd k0 k1 k2 k3 k5 newId))
    (hi : W.Looks (model prog w) h (typeLookup (.ref C) "__init__") (some (.ref fI))) (hb : ∀ self, W.Looks (model prog w) h (bindSpecial (.ref fI) self) (.ref fI, [self]))
    (hq : codeAny (model prog w) A (.call (.ref fI) ⟨[.ref (h.objs.size + 1)], kw⟩)
      (fun r s' => match r with | .ok (.ret v) => v = .none ∧ Q (.done (.ret (.ref (h.objs.size + 1)))) s' | .ok _ => False | .error e => E e s')
      ⟨(h.push (W.kdv_tup [])).push (excO C h.objs.size), g, d, t, os⟩) :
    wpAny (model prog w) A (Builtin.«type.__call__» ⟨[.ref C], kw⟩) Q E ⟨h, g, d, t, os⟩ := by
  repeat (first | with_reducible refine wpAny_loadPart_at hC ?_ | with_reducible refine wpAny_madeBy_exc hC ?_ | wp_step)
  refine codeAny_call_builtin_code (Code.quiet_builtin _ F.quiet) (chk_new F hT hC ?_)
  refine run_new F hT hC ?_
  show wpAny _ _ _ _ _ _
  have kp : ∀ b o, h.get? b = some o → ((h.push (W.kdv_tup [])).push (excO C h.objs.size)).get? b = some o := fun b o e =>
    Heap.get?_push_of_some _ (Heap.get?_push_of_some _ e)
  have z1 := kp _ _ hC
  have z2 : ((h.push (W.kdv_tup [])).push (excO C h.objs.size)).get? (h.objs.size + 1) = some (excO C h.objs.size) := by heap_get
  have z3 : (Value.ref C :: bm).contains (.ref C) = true := by simp
  have z4 := hi.keeps kp
  have z5 := (hb (.ref (h.objs.size + 1))).keeps kp
  unfold isInstance
  repeat (first | with_reducible refine wpAny_loadPart_at z2 ?_ | (with_reducible refine wpAny_isSubtype_exc z1 ?_; rw [z3]) | wp_step)
  show wpAny _ _ (typeLookup (.ref C) _) _ _ _
  refine z4.at ?_
  refine wpAny_holding (wpAny_bind (z5.at ?_))
  refine wpAny_bind (wpAny_call (codeAny_mono hq fun r s' z => ?_))
  rcases r with e | (v | _ | _ | _) <;> first | exact z | exact z.elim | skip
  obtain ⟨rfl, z⟩ := z
  first
    | exact wpAny_pure (wpAny_pure z)
    | (wp_walk; exact z)
theorem chk_tc {Q : Unit → Shared → Prop} (hC : h.get? C = some (excClassObj nm q C N bs bm hdct sn sub ab col dd k0 k1 k2 k3 k5 newId)) (hq : Q () ⟨h, g, d, t, os⟩) :
    wpAny M A (checkBuiltinCall "type.__call__" ⟨[.ref C], kw⟩) Q E ⟨h, g, d, t, os⟩ := by
  have z1 := tc_sub
  have z2 : (⟨h, g, d, t, os⟩ : Shared).TypeIs (.ref C) "type" := ⟨_, hC, rfl⟩
  simp only [checkBuiltinCall, tc_kind, tc_split]
  repeat (any_goals (first | assumption | with_reducible refine wpAny_loadPart_at hC ?_ | with_reducible refine wpAny_onRaise ?_ | with_reducible refine wpAny_map ?_ | wp_step))
theorem call_kw (F : ExcBaseFacts B newId initId bmB) (hT : ∀ X : String, bm.contains (.type X) = bmB.contains (.type X)) {fI : Addr}
    (hC : h.get? C = some (excClassObj nm q C N bs bm hdct sn sub ab col dd k0 k1 k2 k3 k5 newId))
    (hi : W.Looks (model prog w) h (typeLookup (.ref C) "__init__") (some (.ref fI))) (hb : ∀ self, W.Looks (model prog w) h (bindSpecial (.ref fI) self) (.ref fI, [self]))
    (hq : codeAny (model prog w) (A.under (.builtin "type.__call__" ⟨[.ref C], kw⟩)) (.call (.ref fI) ⟨[.ref (h.objs.size + 1)], kw⟩) (W.InitBack (h.objs.size + 1) R)
      ⟨(h.push (W.kdv_tup [])).push (excO C h.objs.size), g, d, t, os⟩) :
    codeAny (model prog w) A (.call (.ref C) ⟨[], kw⟩) R ⟨h, g, d, t, os⟩ := by
  have f1 := tc_lookup
  have f2 := tc_bind (.ref C)
  have f3 : (⟨h, g, d, t, os⟩ : Shared).TypeIs (.ref C) "type" := ⟨_, hC, rfl⟩
  refine codeAny_of_tree ?_
  show wpAny _ _ (callAny (.ref C) _) _ _ _
  repeat (any_goals (first | assumption | with_reducible refine wpAny_loadPart_at hC ?_ | wp_step))
  refine ⟨rfl, ?_⟩
  refine codeAny_call_builtin_at (Code.quiet_builtin _ (by decide +kernel)) entry_typeCall (chk_tc hC (run_type_call F hT hC hi hb ?_))
  refine codeAny_mono hq fun r s' z => ?_
  rcases r with e | (v | _ | _ | _) <;> exact z
end
end MyX
namespace L2
open PySem PySem.Spec PyProof.Rows

/-! ### an own exception class with an __init__ of its own: C(e), C(k = e) as values -/
/-- C(e, ..) as a value: __init__ keeps sp at the new exception a, and leaves it as it leaves it -/
def tExcV (C : Addr) (sp : Sp) (ta : TA) : TE := fun σ H Q => ta σ H fun vs H1 => vs.length ≤ 1000 ∧ ∀ a, H1 a = none → sp (.ref a :: vs) (upd H1 a (exo a C none)) (fun v H2 => v = .non ∧ Q (.ref a) H2) fun _ _ _ => False
def tExcK (C : Addr) (m : Nat) (sp : Sp) (gV : List V → List V) (tk : TA) : TE := fun σ H Q => tk σ H fun zs H1 => zs.length = m ∧ ∀ a, H1 a = none → sp (.ref a :: gV zs) (upd H1 a (exo a C none)) (fun v H2 => v = .non ∧ Q (.ref a) H2) fun _ _ _ => False
section
variable {X : Cx} {CX : CXT} {x : Str} {C fI : Addr} {k : Nat} {fd : FuncData} {ps : List Str} {sp : Sp} {ta : TA} {p pos : Pos} {e : Expr} {es : List Expr}
theorem run_excV {pins : List (Addr × Obj)} {σ : St} {H : Hp} {s : Shared} {Q : VK} {us : List Value} {vs : List V} {kw : List (Str × Value)} {us' : List Value} (T : OexC X.K C) (iC : PySem.W.findIn X.K (.ref C) "__init__" = some (some (.ref fI)))
    (tI : PySem.W.typeIn X.K (.ref fI) = some (.type "function")) (F1 : FnOk X.prog X.w X.K X.mg X.base CX k fI fd ps sp) (hr : Room (k + 1) X.A) (hx : Passes CX X (fun _ _ _ => False))
    (I : Inv X pins σ H s) (hk : kw = [] ∨ us = []) (hus : us.length ≤ sizeLine)
    (hbind : ∀ s' : Shared, X.K.In s'.heap → ∀ a : Addr, BindsTo s' fd ⟨.ref a :: us, kw⟩ (ps.zip (.ref a :: us'))) (r : Vals vs us')
    (q1 : ∀ a, H a = none → sp (.ref a :: vs) (upd H a (exo a C none)) (fun v H2 => v = .non ∧ Q (.ref a) H2) fun _ _ _ => False) :
    wpAny (model X.prog X.w) X.A (call (.ref C) us kw) (EP X pins σ Q) X.xe s := by
  obtain ⟨nm, q, N, bs, bm, sn, sub, ab, col, dd, k0, k1, k2, k3, k5, hC, hbm⟩ := T.cls
  obtain ⟨hp, g, dr, tk, os⟩ := s
  have z1 : hp.objs.size ≤ hp.objs.size + 1 := Nat.le_succ _
  have z2 : H (hp.objs.size + 1) = none := I.hok.fresh z1
  have hq := q1 (hp.objs.size + 1) z2
  have z3 : ((hp.push (PySem.W.kdv_tup us)).push (PySem.HandSPX.excO C hp.objs.size)).get? (hp.objs.size + 1) = some (PySem.HandSPX.excO C hp.objs.size) := by heap_get
  have I2 : Inv X pins σ (upd H (hp.objs.size + 1) (exo (hp.objs.size + 1) C none)) ⟨(hp.push (PySem.W.kdv_tup us)).push (PySem.HandSPX.excO C hp.objs.size), g, dr, tk, os⟩ :=
    I.laid (t' := tk) (fun b o e => Heap.get?_push_of_some _ (Heap.get?_push_of_some _ e)) z1 (exo_ok z3)
  have z4 : Vals (V.ref (hp.objs.size + 1) :: vs) (Value.ref (hp.objs.size + 1) :: us') := .cons rfl r
  have kp : ∀ b o, hp.get? b = some o → _ := fun b o e => Heap.get?_push_of_some (PySem.HandSPX.excO C hp.objs.size) (Heap.get?_push_of_some (PySem.W.kdv_tup us) e)
  have back : ∀ (r : Result) (s' : Shared), CR CX X.stack X.prog X.w (upd H (hp.objs.size + 1) (exo (hp.objs.size + 1) C none)) ⟨(hp.push (PySem.W.kdv_tup us)).push (PySem.HandSPX.excO C hp.objs.size), g, dr, tk, os⟩
      (fun v H2 => v = .non ∧ Q (.ref (hp.objs.size + 1)) H2) (fun _ _ _ => False) r s' →
      PySem.W.InitBack (hp.objs.size + 1) (fun r s' => match r with | .ok (.ret v) => EP X pins σ Q v s' | .ok _ => False | .error e => X.xe e s') r s' := by
    intro r s' hq'
    cases r with
    | error e => exact hx pins σ _ _ e s' I2 hq'
    | ok fl =>
      cases fl with
      | ret u =>
        obtain ⟨v, H', I3, rv, ev, q3⟩ := I2.after hq'
        subst ev
        exact ⟨rv, V.ref (hp.objs.size + 1), H', I3, rfl, q3⟩
      | next => exact False.elim hq'
      | brk => exact False.elim hq'
      | cont => exact False.elim hq'
  have run1 := F1.run (X.A.under (.builtin "type.__call__" ⟨.ref C :: us, kw⟩)) X.stack ⟨(hp.push (PySem.W.kdv_tup us)).push (PySem.HandSPX.excO C hp.objs.size), g, dr, tk, os⟩ _ ⟨.ref (hp.objs.size + 1) :: us, kw⟩ _ _ _ _ (hr.make C us kw) (I2.env0.make C us kw)
    (hbind _ I2.kIn _) z4 hq
  rcases hk with rfl | rfl
  · exact wpAny_call (PySem.HandSPX.call_own F.excBase_ValueError (fun Y => PySem.HandSPX.refsVE_contains Y bm hbm) (I.kIn _ _ hC) (PySem.W.looks_findIn I.kIn iC) (fun self => PySem.W.bind_fn I.kIn self tI) hus (codeAny_mono run1 back))
  · exact wpAny_call (MyX.call_kw F.excBase_ValueError (fun Y => PySem.HandSPX.refsVE_contains Y bm hbm) (I.kIn _ _ hC) (PySem.W.looks_findIn I.kIn iC) (fun self => PySem.W.bind_fn I.kIn self tI) (codeAny_mono run1 back))
end
end L2

set_option Elab.async false
set_option linter.all false
set_option maxRecDepth 100000
set_option maxHeartbeats 4000000
namespace L2
open PySem PySem.Spec PyProof.Rows
section
variable {X : Cx} {CX : CXT} {x : Str} {C fI : Addr} {k : Nat} {fd : FuncData} {ps : List Str} {sp : Sp} {ta tk : TA} {p pos : Pos} {e : Expr} {es : List Expr}
theorem pe_excV (T : OexC X.K C) (iC : PySem.W.findIn X.K (.ref C) "__init__" = some (some (.ref fI))) (tI : PySem.W.typeIn X.K (.ref fI) = some (.type "function"))
    (F1 : FnOk X.prog X.w X.K X.mg X.base CX k fI fd ps sp) (hr : Room (k + 1) X.A) (hb : Binds X.K fd ps []) (hx : Passes CX X (fun _ _ _ => False)) (hg : Gl X x) (hm : X.mg x = some (.ref C)) (ha : PA X (e :: es) ta)
    (hdb : (x == ("__debug__" : Str)) = false := by decide) (he : starEach (e :: es) X.env = (false, eval e X.env) :: starEach es X.env := by rfl) (hpl : (backTo pos (starEach es X.env)).any (·.1) = false := by rfl) :
    PE X (.Call (.Name x p) (e :: es) [] pos) (tExcV C sp ta) := by
  refine ⟨fun pins s σ H Q I h => wpAny_Call_Name_kw (ld_glob I hg hm ?_ hdb)⟩
  refine PySem.W.callWith_K (h₀ := X.base) I.ok.mod.kin T.kC (thn (ha.run pos pins s σ H _ I h) fun us s1 ⟨vs, H1, I1, r1, hz, q1⟩ => ⟨I1.kIn, ?_⟩) he hpl
  have hl : (V.ref 0 :: vs).length = ps.length := by
    have := F1.len _ _ _ _ (q1 s1.heap.objs.size (I1.hok.fresh (Nat.le_refl _)))
    simpa using this
  refine run_excV (kw := []) T iC tI F1 hr hx I1 (.inl rfl) ?_ (fun s' X' a => ?_) r1 q1
  · show us.length ≤ sizeLine
    rw [← r1.length, sizeLine_eq]
    omega
  · have b := hb s' (.ref a :: us) X' (by
      rw [List.append_nil, List.length_cons, ← r1.length, ← hl, List.length_cons])
    rw [List.append_nil] at b
    exact b
theorem pe_excK {ks : List Str} {kws : List Keyword} {g : List Value → List Value} {gV : List V → List V} (T : OexC X.K C) (iC : PySem.W.findIn X.K (.ref C) "__init__" = some (some (.ref fI))) (tI : PySem.W.typeIn X.K (.ref fI) = some (.type "function"))
    (F1 : FnOk X.prog X.w X.K X.mg X.base CX k fI fd ps sp) (hr : Room (k + 1) X.A) (hx : Passes CX X (fun _ _ _ => False)) (hg : Gl X x) (hm : X.mg x = some (.ref C)) (hkw : PK X kws tk)
    (hb : ∀ (s : Shared) (a : Addr) (ws : List Value), X.K.In s.heap → ws.length = ks.length → BindsTo s fd ⟨[.ref a], ks.zip ws⟩ (ps.zip (.ref a :: g ws))) (hrel : ∀ {zs : List V} {ws : List Value}, Vals zs ws → Vals (gV zs) (g ws))
    (hall : (backToKw pos (keywordEach kws X.env)).all (·.1.isSome) = true := by rfl) (hks : (backToKw pos (keywordEach kws X.env)).filterMap (·.1) = ks := by rfl) (hdb : (x == ("__debug__" : Str)) = false := by decide)
    (hpl : ((backTo pos (starEach [] X.env)).any (·.1) || (backToKw pos (keywordEach kws X.env)).any (·.1.isNone)) = false := by rfl) :
    PE X (.Call (.Name x p) [] kws pos) (tExcK C ks.length sp gV tk) := by
  refine ⟨fun pins s σ H Q I h => wpAny_Call_Name_kw (ld_glob I hg hm ?_ hdb)⟩
  refine PySem.W.callWith_KW0 (h₀ := X.base) I.ok.mod.kin T.kC hall ?_ hpl
  refine thn (hkw.run pos pins s σ H _ I h) fun ws s2 ⟨zs, H2, I2, rz, l2, q2⟩ => ⟨I2.kIn, ?_⟩
  rw [hks]
  exact run_excV (us := []) (us' := g ws) T iC tI F1 hr hx I2 (.inr rfl) (Nat.zero_le _) (fun s' X' a => hb s' a ws X' (rz.length.symm.trans l2)) (hrel rz) q2
end

/-- a class, or a def, by its name, as a value -/
theorem pe_cls {X : Cx} {x : Str} {C : Addr} {pos : Pos} (hm : X.mg x = some (.ref C)) (hg : Gl X x := by rfl) (hd : (x == ("__debug__" : Str)) = false := by decide) :
    PE X (.Name x pos) (tC (.ref C)) := pe_glob (v := .ref C) hg hm rfl hd

/-! ### HeadError.__init__(self, e): the base's own -/
/-- what the written part says of a base class at D, so that D.__init__ is ValueError's -/
structure BasC (K : PySem.W.Frag) (D : Addr) : Prop where
  kD : PySem.W.keepIn K (.ref D) = true
  sg : PySem.W.specialIn K (.ref D) "__getattribute__" = some (some (.builtin "type.__getattribute__"))
  rd : PySem.W.readsIn K D (.type "type") = true
  fi : PySem.W.findCls K (.ref D) (.type "type") "__init__" = some (.val (.builtin "ValueError.__init__"))
section
variable {X : Cx} {x : Str} {D : Addr} {ta : TA} {p1 p2 pos : Pos} {e : Expr} {es : List Expr}
theorem pe_clsinit {pl : Sem Bool} (B : BasC X.K D) (hg : Gl X x) (hm : X.mg x = some (.ref D)) (ha : PA X (e :: es) ta)
    (hc : eval (.Call (.Attribute (.Name x p1) "__init__" p2) (e :: es) [] pos) X.env = (do
      let ov ← eval (.Name x p1) X.env
      standAt p2.atName
      let (f, first) ← holding [ov] (getMethod ov "__init__" pl)
      callWith pos f first (backTo pos (starEach (e :: es) X.env)) (backToKw pos (keywordEach [] X.env))) := by rfl)
    (hdb : (x == ("__debug__" : Str)) = false := by decide)
    (he : starEach (e :: es) X.env = (false, eval e X.env) :: starEach es X.env := by rfl) (hpl : (backTo pos (starEach es X.env)).any (·.1) = false := by rfl) :
    PE X (.Call (.Attribute (.Name x p1) "__init__" p2) (e :: es) [] pos) (tVeI X.K ta) := by
  refine ⟨fun pins s σ H Q I h => PySem.W.methodCall_KW (ld_glob I hg hm ?_ hdb) hc⟩
  refine PySem.W.method_cls I.kIn B.sg (PySem.W.cls_value I.kIn B.rd B.fi (by decide +kernel) ?_)
  show wpAny _ _ (callWith pos (Value.builtin "ValueError.__init__") [] (backTo pos (starEach (e :: es) X.env)) []) _ _ _
  refine PyProof.Rows.callWith_method1 (thn (ha.run pos pins _ σ H _ (I.tok _) h) fun us s1 hh => ?_) he hpl
  obtain ⟨vs, H1, I1, r1, a, C, ws, ev, hl, T, ea, q⟩ := hh
  subst ev
  cases r1 with
  | @cons _ u0 _ ur ra rw' =>
    obtain rfl : u0 = Value.ref a := ra
    refine oinit_ok T I1 ea ?_ fun s' J => ⟨.non, H1, J, rfl, q⟩
    rw [← Paired.length rw', sizeLine_eq]
    omega
end

/-! ### e.f, e an exception that stands as a value -/
def tXfV (K : PySem.W.Frag) (n : Str) (te : TE) : TE := fun σ H Q => te σ H fun x H1 => ∃ (a C dd : Addr) (fs : List (Str × V)) (v : V), x = .ref a ∧ XfC K C ∧ PySem.W.findIn K (.ref C) n = some none ∧
  H1 a = some (exo a C (some dd)) ∧ H1 dd = some (exd dd fs) ∧ fs.lookup n = some v ∧ Q v H1
theorem exo_inst {X : Cx} {pins : List (Addr × Obj)} {σ : St} {H : Hp} {s : Shared} {a C dd : Addr} {fs : List (Str × V)} (I : Inv X pins σ H s) (e1 : H a = some (exo a C (some dd))) (e2 : H dd = some (exd dd fs)) :
    ∃ (oe od : Obj) (mA : Str → Option Value), PySem.W.InstAt s.heap a oe C (some od) ∧ (∀ n, PySem.W.lookIn n od = some (mA n)) ∧ ∀ f, RelO (fs.lookup f) (mA f) := by
  obtain ⟨t1, ho⟩ := exo_at I.hok e1
  obtain ⟨mA, hns, rel⟩ := exd_at I.hok e2
  obtain ⟨od, hod, hl⟩ := lookIn_ns hns
  exact ⟨_, od, mA, ⟨ho, rfl, rfl, hod⟩, hl, rel⟩
theorem pe_xfV {X : Cx} {te : TE} {e : Expr} {n : Str} {pos : Pos} (he : PE X e te) (hb : attributeBase e n X.env (eval e X.env) = eval e X.env := by rfl) : PE X (.Attribute e n pos) (tXfV X.K n te) := by
  refine ⟨fun pins s σ H Q I h => attr_of hb (thn (he.run pins s σ H _ I h) fun u s1 hh => ?_)⟩
  obtain ⟨x, H1, I1, rx, a, C, dd, fs, v, ex, T, hno, ea, ed, l, q⟩ := hh
  subst ex
  obtain rfl : u = Value.ref a := rx
  obtain ⟨oe, od, mA, J, hl, hr⟩ := exo_inst I1 ea ed
  obtain ⟨u, hu, ru⟩ := RelO.some_of (v := v) (o := mA n) (by rw [← l]; exact hr n)
  exact HandSPX.exc_get I1.kIn J T.ga T.gg T.exC (PySem.W.findObj_own T.hdC hno rfl (by rw [hl, hu])) (handed_of ru) ⟨v, H1, I1.tok _, ru, q⟩
end L2
namespace MyX
open PySem PySem.W PySem.Calls PyProof.Rows
section
variable {prog : Program} {w : World} {A : Around} {E : Value → Shared → Prop} {s : Shared} {K : Frag} {x D : Addr} {ox : Obj} {od : Option Obj}
theorem findObj_dat {C : Addr} {name : Str} {a g : Value} (hc : (clsIn K C).isSome = true) (ha : findIn K (.ref C) name = some (some a)) (hg : specialIn K a "__get__" = some (some g)) (ht : takesIn K a = some true) :
    findObj K C od name = some (.bind g a) := by
  obtain ⟨cd, hc⟩ := Option.isSome_iff_exists.mp hc
  unfold findObj
  rw [hc, Option.bind_some, ha, Option.bind_some]
  simp [hg, ht]
theorem own_class {Q : Option Value → Shared → Prop} (C : L2.ExcC K D) (X : K.In s.heap) (I : InstAt s.heap x ox D od) (h : Q (some (.ref D)) { s with toks := s.toks + 1 }) :
    wpAny (model prog w) A (getAttr? (.ref x) "__class__") Q E s := by
  have z0 : findObj K D od "__class__" = some (.bind (.builtin "getset_descriptor.__get__") (.builtin "object.__class__")) :=
    findObj_dat (by obtain ⟨cd, hc, _⟩ := any_some C.hd; rw [hc]; rfl) C.ha C.hn C.ht
  obtain ⟨hp, g, d, t, os⟩ := s
  have b0 := I.type (M := model prog w)
  have b1 := looks_findIn (M := model prog w) X C.hg
  have b2 := looks_findIn (M := model prog w) X C.hk
  have b3 := looks_find (M := model prog w) X I z0
  have b4 : Looks (model prog w) hp (isInstance (.ref x) (.type "BaseException")) true := b0.andThen (looks_subIn X C.hs)
  have c0 : (false && onTheHeap (Value.builtin "BaseException.__getattribute__")) = false := rfl
  have c1 : (Value.builtin "BaseException.__getattribute__" == Value.builtin "object.__getattribute__") = false := by decide +kernel
  have c2 : (onTheHeap (Value.ref D) && Value.builtin "BaseException.__getattribute__" == Value.builtin "object.__getattribute__") = false := by
    rw [c1]
    rfl
  unfold getAttr? getAttrBy? getAttrBy
  refine wpAny_bind (wpAny_mkText (wpAny_bind (wpAny_attempt (wpAny_holding (wpAny_bind (b0.at (wpAny_bind (b1.at ?_))))))))
  show wpAny _ _ (if (onTheHeap (Value.ref D) && Value.builtin "BaseException.__getattribute__" == Value.builtin "object.__getattribute__") = true then _ else _) _ _ _
  rw [c2, if_neg Bool.false_ne_true]
  unfold getAttrByItsOwn hookBefore
  refine wpAny_bind ?_
  rw [if_pos (show onTheHeap (Value.ref D) = true from rfl)]
  refine b2.at (wpAny_bind (wpAny_attempt (wpAny_holding ?_)))
  unfold callGetattribute
  rw [c0, if_neg Bool.false_ne_true]
  unfold boundAndCalled
  rw [PySem.F.excAttr_ValueError.ga.bind (.ref x)]
  refine wpAny_bind (wpAny_pure ?_)
  show wpAny _ _ (call (.builtin "BaseException.__getattribute__") [.ref x, .str "__class__" t]) _ _ _
  refine wpAny_call (codeAny_call_builtin PySem.F.excAttr_ValueError.ga.plain PySem.F.entry_bexc_ga (@check_slot (model prog w) _ _ ⟨hp, g, d, t + 1, os⟩ "BaseException.__getattribute__" "BaseException" "__getattribute__" (.ref x)
    [.str "__class__" t] [] _ (by decide +kernel) (by decide +kernel) b4 (PySem.F.args_bexc_ga (.ref x) (.str "__class__" t)) ?_))
  unfold Builtin.«object.__getattribute__»
  refine wpAny_bind (wpAny_of_eq (a := ((Value.ref x : Value), [Value.str "__class__" t])) (by first | rfl | (simp only [slotArgs]; rfl)) ?_)
  refine wpAny_bind (wpAny_pure (wpAny_bind (b0.at (wpAny_bind (b3.at ?_)))))
  show wpAny _ _ (holding [Value.builtin "object.__class__"] (call (.builtin "getset_descriptor.__get__") [.builtin "object.__class__", .ref x, .ref D]) >>= ret) _ _ _
  refine wpAny_bind (wpAny_holding (wpAny_call (class_get (s := ⟨hp, g, d, t + 1, os⟩) (ox := ox) (od := od) X I C.hm (wpAny_pure ?_))))
  show wpAny _ _ (handedOut (.ref D)) _ _ _
  rw [handedOut_of (v := .ref D) rfl]
  first
    | exact wpAny_pure (wpAny_pure h)
    | exact wpAny_pure h
    | exact wpAny_pure (wpAny_bind (wpAny_pure (wpAny_pure h)))
theorem cls_there (C : L2.ExcC K D) : ∃ oc od cd osl, K.lookup D = some ⟨oc, od, .cls cd, osl⟩ := by
  obtain ⟨cdD, hcD, _⟩ := any_some C.hd
  unfold clsIn at hcD
  split at hcD
  · rename_i c' d' cd' sl' ho
    exact ⟨_, _, _, _, ho⟩
  · cases hcD
theorem kitx_own (C : L2.ExcC K D) : KitX K (.ref x) (.ref D) (fun h => ∃ ox od, InstAt h x ox D od) where
  ty := fun _ _ _ ⟨_, _, I⟩ => I.type
  it := fun _ _ X _ => by
    obtain ⟨oc, od, cd, osl, ho⟩ := cls_there C
    intro A' Q' E' s' kq q
    unfold isType loadHead
    exact wpAny_bind (wpAny_loadPart (kq _ _ (X _ _ ho)) (wpAny_pure q))
  ne := fun h tp dd its n sl X htp => by
    obtain ⟨oc, od, cd, osl, ho⟩ := cls_there C
    refine Bool.eq_false_iff.mpr fun q => ?_
    have e : D = tp := Value.ref.inj (beq_iff_eq.mp q)
    subst e
    cases (X _ _ ho).symm.trans htp
  ca := fun X ⟨_, _, I⟩ k => own_class C X I k
end
end MyX
namespace L2
open PySem PySem.Spec PyProof.Rows
/-- at a stands an exception of the class at D, made and not raised -/
def ExcAt (H : Hp) (a D : Addr) : Prop := H a = some (ExO (.ref D) a) ∨ ∃ (dd : Addr) (fs : List (Str × V)), H a = some (exo a D (some dd)) ∧ H dd = some (exd dd fs)
theorem ExcAt.same {H H' : Hp} {a D : Addr} (h : ExcAt H a D) (k : ∀ b o, H b = some o → (∀ kv, o ≠ .dK kv) → (∀ xs, o ≠ .lst xs) → H' b = some o) : ExcAt H' a D := by
  have nd : ∀ (φ : Heap → Prop) kv, HO.ext φ ≠ .dK kv := fun _ _ z => HO.noConfusion z
  have nl : ∀ (φ : Heap → Prop) xs, HO.ext φ ≠ .lst xs := fun _ _ z => HO.noConfusion z
  rcases h with h | ⟨dd, fs, h1, h2⟩
  · exact .inl (k _ _ h (nd _) (nl _))
  · exact .inr ⟨dd, fs, k _ _ h1 (nd _) (nl _), k _ _ h2 (nd _) (nl _)⟩
/-- isinstance(e, c), e such an exception -/
def rIsV (K : PySem.W.Frag) : List V → Hp → VK → Prop := fun xs H Q => ∃ (a D : Addr) (c : V) (cv : Value) (b : Bool), xs = [.ref a, c] ∧ ExcAt H a D ∧ ExcC K D ∧ (∀ u, RelV c u → u = cv) ∧ PySem.W.kitOne K (.ref D) cv = some b ∧ Q (.bl b) H
theorem call_isV {X : Cx} : CallR X (.builtin "isinstance") (rIsV X.K) := by
  intro pins s σ H xs us Q I r h
  obtain ⟨a, D, c, cv, b, rfl, hA, C, hcv, e, q⟩ := h
  obtain ⟨u1, u2, rfl, r1, r2⟩ := vals2 r
  cases (show u1 = Value.ref a from r1)
  have ec := hcv _ r2
  subst ec
  have J : ∃ ox od, PySem.W.InstAt s.heap a ox D od := by
    rcases hA with hA | ⟨dd, fs, h1, h2⟩
    · obtain ⟨⟨oe, vs, ho, hz, hd, _⟩, _, _⟩ := I.hok a _ hA
      obtain ⟨oc, odd, oda, osl⟩ := oe
      obtain ⟨e1, e2⟩ := hz
      dsimp only at e1 e2 hd
      subst e1 e2 hd
      exact ⟨_, none, ho, rfl, rfl, trivial⟩
    · obtain ⟨oe, od, mA, J, _⟩ := exo_inst I h1 h2
      exact ⟨oe, some od, J⟩
  exact PySem.W.kia_one (MyX.kitx_own C) I.kIn J e (fun z => nomatch z) fun tk => ⟨.bl b, H, I.kept (t' := tk) fun _ _ z => z, rfl, q⟩

/-! ### {x} in an f-string, x a text, an int, None -/
def tFmtN (te : TE) : TE := fun σ H Q => te σ H fun x H1 =>
    (∃ y : Str, x = .str y ∧ y.length ≤ sizeLine ∧ Q (.str y) H1) ∨ (∃ i : Int, x = .int i ∧ i.natAbs.log2 < 1920 ∧ Q (.str (toString i)) H1) ∨ (x = .non ∧ Q (.str "None") H1)
theorem pe_fmtN {X : Cx} {e : Expr} {te : TE} {pos : Pos} (he : PE X e te) : PE X (.FormattedValue e (-1) none pos) (tFmtN te) := by
  refine ⟨fun pins s σ H Q I h => wpAny_FormattedValue_plain (thn (he.run pins s σ H _ I h) fun v s1 hv => ?_)⟩
  obtain ⟨x, H1, I1, r1, q⟩ := hv
  rcases q with ⟨y, rfl, hz, q⟩ | ⟨i, rfl, hz, q⟩ | ⟨rfl, q⟩
  · obtain ⟨t, rfl⟩ := r1
    exact wpAny_formatField_str ⟨.str y, H1, I1, ⟨t, rfl⟩, q⟩ ⟨.str y, H1, I1.tok _, ⟨_, rfl⟩, q⟩ hz
  · obtain ⟨t, rfl⟩ := r1
    exact wpAny_formatField_int hz ⟨.str (toString i), H1, I1.tok _, ⟨_, rfl⟩, q⟩
  · cases r1
    exact wpAny_formatField_none ⟨.str "None", H1, I1.tok _, ⟨_, rfl⟩, q⟩
end L2

set_option Elab.async false
set_option linter.all false
set_option maxRecDepth 100000
namespace My
open PySem L2
def top (i : Nat) : Stmt := PySem.Challenge.pw_oneuseheads_k14_errors_made.main.body.getD i (.Pass ⟨0, 0, 0, 0⟩)
abbrev sBegun : Stmt := top 33
abbrev sBlended : Stmt := top 34
abbrev sDraw : Stmt := top 35
abbrev sPick : Stmt := top 36

/-- the pairs of a drawing state -/
def kvD (g c : Addr) (r t : Int) : List (Key × V) := [(Sum.inr "great", .ref g), (Sum.inr "cells", .ref c), (Sum.inr "rest", .int r), (Sum.inr "turn", .int t)]
/-- a drawing state stands at d, its lists at g and c; at most m turns have been made -/
def DrawSt (H : Hp) (d g c : Addr) (m : Nat) : Prop := ∃ (gs cs : List Int) (r t : Int), H d = some (.dK (kvD g c r t)) ∧ H g = some (.lst (gs.map V.int)) ∧ H c = some (.lst (cs.map V.int)) ∧ 0 ≤ t ∧ t ≤ m ∧ gs.length ≤ 63 ∧ g ≠ c

def spBegun (K : PySem.W.Frag) : Sp := fun vs H Q _ => ∃ (a : Addr) (ns : List Int), vs = [.ref a] ∧ SqL K H a (ns.map V.int) ∧ ns.length ≤ 63 ∧
  ∀ (H' : Hp) (d g c : Addr), Same H H' → H d = none → H g = none → H c = none → DrawSt H' d g c 0 → Q (.ref d) H'

theorem same_new {H : Hp} {D : Addr} {o : HO} (hD : H D = none) : Same H (upd H D o) := fun b u e => by
  rw [upd_ne (ne_of_none e hD)]
  exact e
theorem int_at {ns : List Int} {i : Nat} {x : V} (h : (ns.map V.int)[i]? = some x) : ∃ z, ns[i]? = some z ∧ x = V.int z := by
  rw [List.getElem?_map] at h
  cases e : ns[i]? with
  | none => rw [e] at h; cases h
  | some z => rw [e] at h; exact ⟨z, rfl, (Option.some.inj h).symm⟩
section
variable {P : Program} {w : World} {K : PySem.W.Frag} {mg : Str → Option Value} {base : Heap}
theorem scB : FnScope ["script", "great", "cell"] ["script"] (defScope sBegun) := ⟨rfl, rfl, rfl, by decide +kernel, rfl, by decide +kernel, by decide +kernel⟩
theorem ok_begun {f : Addr} {fd : FuncData} (F : Fun K "_law_begun" "_law_begun" sBegun f fd) (zabs : mg "abs" = none) : FnOk P w K mg base CX0 1 f fd ["script"] (spBegun K) := by
  refine F.ok scB (fun vs H Q E h => ?_) (fun cdv A outer s H vs Q E hr h => ?_)
  · obtain ⟨a, ns, rfl, _⟩ := h
    rfl
  · obtain ⟨a, ns, rfl, hS, hlen, k⟩ := h
    refine ⟨_, pss_cons (ps_setLc (i := 1) (own := [("cell", 2)]) (g := gName 2) rfl scB.nd rfl rfl (sw_true rfl rfl rfl (by decide +kernel)) (pi_list (pv 0)) (blkOk_by (own := [("cell", 2)]) (N := ["script", "great", "cell"]) (sc := defScope sBegun) (by decide +kernel))
        (fun _ _ _ _ _ => pg_name (i := 2) scB.nd rfl (Or.inl rfl))
        (fun _ _ _ _ _ => by exact pts_one (pt_cmpR op_ge (pe_callB call_abs (by rfl) zabs (by decide +kernel) (pa_cons (pv 2) pa_nil)) (pe_op op_pow pe_int pe_int) (nomark _)))
        (fun _ _ _ _ _ => by exact pe_op op_sub (pe_callB call_abs (by rfl) zabs (by decide +kernel) (pa_cons (pv 2) pa_nil)) (pe_op op_pow pe_int pe_int)))
      (pss_one (ps_ret (pe_disp (pps_cons pe_str (pv 1) (pps_cons pe_str
        (pe_lc (own := [("cell", 2)]) (g := gName 2) (by rfl) scB.nd (pi_list (pv 0)) (blkOk_by (own := [("cell", 2)]) (N := ["script", "great", "cell"]) (sc := defScope sBegun) (by decide +kernel))
          (fun _ _ _ _ _ => pg_name (i := 2) scB.nd rfl (Or.inl rfl)) (fun _ _ _ _ _ => pts_nil) (fun _ _ _ _ _ => by exact pe_callB call_abs (by rfl) zabs (by decide +kernel) (pa_cons (pv 2) pa_nil)))
        (pps_cons pe_str pe_int (pps_cons pe_str pe_int pps_nil)))) (by rfl) (by rfl) (fun z => by cases z) (by decide)))), ?_⟩
    refine ⟨_, rfl, a, rfl, ⟨_, hS⟩, fun D hD => lc_list (K := K) (a := a) (xs := ns.map V.int) (fun i H' => ∃ gs : List Int, gs.length ≤ i ∧ H' = upd H D (.lst (gs.map V.int)))
      ⟨[], Nat.le_refl _, rfl⟩ (fun i H' _ ⟨gs, _, e⟩ => by subst e; exact (same_new hD).seq hS) ?_ ?_⟩
    · rintro i x H' hx ⟨gs, hg, rfl⟩
      have hi : i < ns.length := by
        have := (List.getElem?_eq_some_iff.mp hx).1
        simpa using this
      obtain ⟨z, hz, rfl⟩ := int_at hx
      refine ⟨rfl, _, rfl, z, rfl, _, _, rfl, rfl, ⟨by decide, by decide, by decide⟩, _, _, rfl, rfl, _, rfl, ?_⟩
      have hadd : ∀ y : Int, upd (upd H D (.lst (gs.map V.int))) D (.lst (gs.map V.int ++ [V.int y])) = upd H D (.lst ((gs ++ [y]).map V.int)) := fun y => by
        rw [upd_upd, List.map_append]
        all_goals rfl
      refine ite2 (fun _ => ?_) (fun _ => ?_)
      · refine ⟨_, rfl, z, rfl, _, _, rfl, rfl, ⟨by decide, by decide, by decide⟩, _, _, rfl, rfl, _, upd_same, ?_, gs ++ [(if z < 0 then -z else z) - 10 ^ (18 : Int).toNat], ?_, hadd _⟩
        · rw [List.length_map]
          exact small1000 (by omega)
        · rw [List.length_append]
          show gs.length + 1 ≤ i + 1
          omega
      · exact ⟨gs, by omega, rfl⟩
    · rintro H' ⟨gs, hg, rfl⟩
      rw [List.length_map] at hg
      refine fun p hp => ?_
      have npD : D ≠ p := ne_of_none (upd_same (H := H) (a := D)) hp
      have hpH : H p = none := by
        rw [← hp, upd_ne npD.symm]
      have S1 : Same H (upd (upd H D (.lst (gs.map V.int))) p (.dK [])) := Same.trans (same_new hD) (same_new hp)
      refine ⟨_, rfl, _, rfl, a, rfl, ⟨_, S1.seq hS⟩, fun C hC => lc_list (K := K) (a := a) (xs := ns.map V.int)
        (fun i H' => ∃ cs : List Int, cs.length ≤ i ∧ H' = upd (upd (upd H D (.lst (gs.map V.int))) p (.dK [])) C (.lst (cs.map V.int))) ⟨[], Nat.le_refl _, rfl⟩ (fun i H' _ ⟨cs, _, e⟩ => by subst e; exact (Same.trans S1 (same_new hC)).seq hS) ?_ ?_⟩
      · rintro i x H' hx ⟨cs, hc, rfl⟩
        have hi : i < ns.length := by
          have := (List.getElem?_eq_some_iff.mp hx).1
          simpa using this
        obtain ⟨z, hz, rfl⟩ := int_at hx
        refine ⟨rfl, ?_⟩
        dsimp only [tYes]
        refine iteT ?_
        refine ⟨_, rfl, z, rfl, _, upd_same, ?_, cs ++ [if z < 0 then -z else z], ?_, ?_⟩
        · rw [List.length_map]
          exact small1000 (by omega)
        · rw [List.length_append]
          show cs.length + 1 ≤ i + 1
          omega
        · rw [upd_upd, List.map_append]
          all_goals rfl
      · rintro H' ⟨cs, hc, rfl⟩
        have npC : p ≠ C := ne_of_none (upd_same (H := upd H D (.lst (gs.map V.int))) (a := p)) hC
        have nDC : D ≠ C := ne_of_none (o := .lst (gs.map V.int)) (by rw [upd_ne npD, upd_same]) hC
        have hCH : H C = none := by rw [← hC, upd_ne npC.symm, upd_ne nDC.symm]
        refine ⟨by rw [upd_ne npC, upd_same], kvD D C 0 0, rfl, (by show 4 ≤ 15; decide), ?_⟩
        have em : mergeK [] (kvD D C 0 0) = kvD D C 0 0 := by rfl
        rw [em]
        refine k _ p D C (fun b o e => ?_) hpH hD hCH ⟨gs, cs, 0, 0, upd_same, ?_, ?_, Int.le_refl _, Int.le_refl _, by omega, nDC⟩
        · rw [upd_ne (ne_of_none e hpH), upd_ne (ne_of_none e hCH), upd_ne (ne_of_none e hpH), upd_ne (ne_of_none e hD)]
          exact e
        · rw [upd_ne npD, upd_ne nDC, upd_ne npD, upd_same]
        · rw [upd_ne npC.symm, upd_same]

theorem DrawSt.same {H H' : Hp} {d g c : Addr} {m : Nat} (h : DrawSt H d g c m) (k : Same H H') : DrawSt H' d g c m := by
  obtain ⟨gs, cs, r, t, h1, h2, h3, h4⟩ := h
  exact ⟨gs, cs, r, t, k _ _ h1, k _ _ h2, k _ _ h3, h4⟩
theorem DrawSt.more {H : Hp} {d g c : Addr} {m n : Nat} (h : DrawSt H d g c m) (k : m ≤ n) : DrawSt H d g c n := by
  obtain ⟨gs, cs, r, t, h1, h2, h3, h4, h5, h6⟩ := h
  exact ⟨gs, cs, r, t, h1, h2, h3, h4, by omega, h6⟩
/-- what is not there is none of its three -/
theorem DrawSt.ne {H : Hp} {d g c l : Addr} {m : Nat} (h : DrawSt H d g c m) (n : H l = none) : l ≠ d ∧ l ≠ g ∧ l ≠ c := by
  obtain ⟨gs, cs, r, t, h1, h2, h3, _⟩ := h
  exact ⟨(ne_of_none h1 n).symm, (ne_of_none h2 n).symm, (ne_of_none h3 n).symm⟩

/-! ### the state's pairs -/
theorem kvD_great (g c : Addr) (r t : Int) : valV (kvD g c r t) (Sum.inr "great" : Key) = some (.ref g) := by rfl
theorem kvD_cells (g c : Addr) (r t : Int) : valV (kvD g c r t) (Sum.inr "cells" : Key) = some (.ref c) := by rfl
theorem kvD_rest (g c : Addr) (r t : Int) : valV (kvD g c r t) (Sum.inr "rest" : Key) = some (.int r) := by rfl
theorem kvD_turn (g c : Addr) (r t : Int) : valV (kvD g c r t) (Sum.inr "turn" : Key) = some (.int t) := by rfl
theorem putD_rest (g c : Addr) (r t z : Int) : putK (kvD g c r t) (Sum.inr "rest" : Key) (.int z) = kvD g c z t := by rfl
theorem putD_turn (g c : Addr) (r t z : Int) : putK (kvD g c r t) (Sum.inr "turn" : Key) (.int z) = kvD g c r z := by rfl
theorem getD_of {H : Hp} {d : Addr} {kvs : List (Key × V)} (h : H d = some (.dK kvs)) (x : Str) {v : V} (e : valV kvs (Sum.inr x : Key) = some v) : DGet H d (.str x) (some v) := by
  rw [← e]
  exact DGet.k (k := Sum.inr x) h
theorem putD_of {H : Hp} {d : Addr} {kvs kvs' : List (Key × V)} (h : H d = some (.dK kvs)) (x : Str) {v : V} (hl : kvs.length ≤ 1000) (e : putK kvs (Sum.inr x : Key) v = kvs') : DPut H d (.str x) v (upd H d (.dK kvs')) := by
  rw [← e]
  exact DPut.k (k := Sum.inr x) h (small1000 hl)

/-! ### _law_blended -/
def spBlended : Sp := fun vs H Q _ => ∃ (d g c : Addr) (m : Nat), vs = [.ref d] ∧ DrawSt H d g c m ∧ m ≤ 2 ^ 40 ∧
  ∀ (H' : Hp) (n : Int), DrawSt H' d g c (m + 1) → (∀ b o, H b = some o → b ≠ d → H' b = some o) → Q (.int n) H'
def primes : List V := [.int 2147483579, .int 2147483629, .int 2147483563]
theorem primes_at {i : Nat} {x : V} (h : primes[i]? = some x) : ∃ z : Int, x = .int z ∧ 2147483563 ≤ z ∧ z ≤ 2147483629 := by
  unfold primes at h
  match i, h with
  | 0, h => exact ⟨2147483579, (Option.some.inj h).symm, by decide, by decide⟩
  | 1, h => exact ⟨2147483629, (Option.some.inj h).symm, by decide, by decide⟩
  | 2, h => exact ⟨2147483563, (Option.some.inj h).symm, by decide, by decide⟩
  | (n + 3), h => simp at h
theorem scBl : FnScope ["state", "turn", "found", "prime", "blend", "cell"] ["state"] (defScope sBlended) := ⟨rfl, rfl, rfl, by decide +kernel, rfl, by decide +kernel, by decide +kernel⟩
theorem ok_blended {f : Addr} {fd : FuncData} (F : Fun K "_law_blended" "_law_blended" sBlended f fd) (zint : mg "int" = none) : FnOk P w K mg base CX0 1 f fd ["state"] spBlended := by
  refine F.ok scBl (fun vs H Q E h => ?_) (fun cdv A outer s H vs Q E hr h => ?_)
  · obtain ⟨d, g, c, m, rfl, _⟩ := h
    rfl
  · obtain ⟨d, g, c, m, rfl, ⟨gs, cs, r, t, hd, hg, hc, t0, tm, gl, gc⟩, hm, k⟩ := h
    have hu := hu_of hr
    refine ⟨_, pss_cons (ps_par (i := 1) (j := 2) rfl scBl.nd rfl rfl (by decide) rfl rfl (pa_cons (pe_op op_add (pe_dget hu (pv 0) pe_str (fun _ _ => rfl)) pe_int) (pa_cons pe_int pa_nil)) (by rfl))
      (pss_cons (ps_dput hu (pv 0) pe_str (pv 1) rfl)
      (pss_cons (ps_for PassesOwn.never rfl (pi_list (pe_lst (pa_cons pe_int (pa_cons pe_int (pa_cons pe_int pa_nil))))) (pg_name (i := 3) scBl.nd rfl (Or.inl rfl))
        (pss_cons (ps_set (i := 4) scBl.nd rfl (Or.inl rfl) (pe_op op_add (pe_op op_mul pe_int (pv 1)) (pe_op op_fdiv (pv 3) pe_int)))
        (pss_cons (ps_for PassesOwn.never rfl (pi_list (pe_dget hu (pv 0) pe_str (fun _ _ => rfl))) (pg_name (i := 5) scBl.nd rfl (Or.inl rfl))
          (pss_one (ps_set (i := 4) scBl.nd rfl (Or.inl rfl) (by exact (pe_op op_modN (pe_callTy call_int1 (by rfl) zint (by decide +kernel) (pa_cons (pe_op op_add (pe_op op_add (pe_op op_mul (pv 4) pe_int) (pv 5)) (pv 1)) pa_nil)) (pv 3))))))
        (pss_one (ps_set (i := 2) scBl.nd rfl (Or.inl rfl) (by exact (pe_op op_add (pe_op op_mul (pv 2) pe_int) (pe_op op_modN (pe_callTy call_int1 (by rfl) zint (by decide +kernel) (pa_cons (pe_op op_pow (pv 4) pe_int) pa_nil)) (pv 3)))))))))
      (pss_one (ps_ret (pv 2))))), ?_⟩
    refine ⟨_, rfl, d, _, rfl, getD_of hd "turn" (kvD_turn g c r t), _, _, rfl, rfl, _, _, rfl, ?_⟩
    refine ⟨_, rfl, _, rfl, d, _, rfl, putD_of hd "turn" (by show 4 ≤ 1000; decide) (putD_turn g c r t (t + 1)), ?_⟩
    have hgd : g ≠ d := ne_of hg hd (by intro z; cases z)
    have hcd : c ≠ d := ne_of hc hd (by intro z; cases z)
    refine ⟨by show 3 ≤ sizeLine; decide, fun p hp => ?_⟩
    have npd : d ≠ p := ne_of_none upd_same hp
    have nph : H p = none := by rw [← hp, upd_ne npd.symm]
    have npg : g ≠ p := ne_of_none hg nph
    have npc : c ≠ p := ne_of_none hc nph
    generalize hH3 : upd (upd H d (.dK (kvD g c r (t + 1)))) p (.lst primes) = H3
    have e3d : H3 d = some (.dK (kvD g c r (t + 1))) := by rw [← hH3, upd_ne npd, upd_same]
    have e3g : H3 g = some (.lst (gs.map V.int)) := by rw [← hH3, upd_ne npg, upd_ne hgd]; exact hg
    have e3c : H3 c = some (.lst (cs.map V.int)) := by rw [← hH3, upd_ne npc, upd_ne hcd]; exact hc
    have e3p : H3 p = some (.lst primes) := by rw [← hH3, upd_same]
    have keep : ∀ b o, H b = some o → b ≠ d → H3 b = some o := fun b o e n => by
      rw [← hH3, upd_ne (ne_of_none e nph), upd_ne n]
      exact e
    refine ⟨p, rfl, ⟨primes, .inl (.inl upd_same)⟩, ?_⟩
    show ∃ W, _
    rw [show (upd (upd H d (.dK (kvD g c r (t + 1)))) p (.lst [V.int 2147483579, V.int 2147483629, V.int 2147483563])) = H3 from hH3]
    refine for_list (K := K) (a := p) (xs := primes) (fun i σ H' => H3 = H' ∧ ∃ (n : Int) (v3 v4 v5 : Option V), σ = [some (.ref d), some (.int (t + 1)), some (.int n), v3, v4, v5])
      ⟨rfl, 0, none, none, none, rfl⟩ (fun i σ H' _ ⟨e, _⟩ => by subst e; exact .inl (.inl e3p)) ?_ ?_
    · rintro i x σ H' hx ⟨rfl, n, v3, v4, v5, rfl⟩
      obtain ⟨z, rfl, z1, z2⟩ := primes_at hx
      refine ⟨_, rfl, _, _, rfl, rfl, .inl ⟨by decide, by decide⟩, _, rfl, _, _, rfl, rfl, ⟨by decide, by decide⟩, _, _, rfl, rfl, ?_⟩
      -- for cell in state['cells']
      have q0 : 0 ≤ 48271 * (t + 1) + z / 53 ∧ 48271 * (t + 1) + z / 53 < 2 ^ 60 := by
        omega
      refine ⟨_, rfl, d, _, rfl, getD_of e3d "cells" (kvD_cells g c r (t + 1)), c, rfl, ⟨_, .inl (.inl e3c)⟩, ?_⟩
      refine for_list (K := K) (a := c) (xs := cs.map V.int) (fun i σ H' => H3 = H' ∧ ∃ (b : Int) (v5 : Option V), 0 ≤ b ∧ b < 2 ^ 60 ∧ σ = [some (.ref d), some (.int (t + 1)), some (.int n), some (.int z), some (.int b), v5])
        ⟨rfl, _, v5, q0.1, q0.2, rfl⟩ (fun i σ H' _ ⟨e, _⟩ => by subst e; exact .inl (.inl e3c)) ?_ ?_
      · rintro i x σ H' hx ⟨rfl, b, v5, b0, b1, rfl⟩
        obtain ⟨y, hy, rfl⟩ := int_at hx
        refine ⟨_, rfl, _, _, rfl, rfl, .inr ⟨by decide, by decide⟩, _, rfl, _, _, rfl, rfl, _, rfl, _, _, rfl, rfl, .inl ⟨_, rfl, ?_⟩⟩
        refine ⟨_, rfl, _, _, rfl, rfl, by omega, rfl, _, _, ?_, ?_, rfl⟩
        · rw [Int.fmod_eq_emod_of_nonneg _ (by omega)]
          exact Int.emod_nonneg _ (by omega)
        · rw [Int.fmod_eq_emod_of_nonneg _ (by omega)]
          have := Int.emod_lt_of_pos (b * 69621 + y + (t + 1)) (show 0 < z by omega)
          omega
      · rintro σ H' ⟨rfl, b, v5, b0, b1, rfl⟩
        refine ⟨_, rfl, _, _, rfl, rfl, .inr ⟨by decide, by decide⟩, _, rfl, _, _, rfl, rfl, ⟨by decide, by decide, by omega⟩, .inl ⟨_, rfl, _, rfl, _, _, rfl, rfl, by omega, _, _, rfl, rfl, rfl, _, _, _, _, rfl⟩⟩
    · rintro σ H' ⟨rfl, n, v3, v4, v5, rfl⟩
      exact ⟨_, rfl, k _ n ⟨gs, cs, r, t + 1, e3d, e3g, e3c, by omega, by omega, gl, gc⟩ keep⟩

/-! ### _law_draw -/
theorem seqIdx0 (n : Nat) : seqIndex? 0 (n + 1) = some 0 := by
  unfold seqIndex?
  simp
  try omega

def spDraw : Sp := fun vs H Q _ => ∃ (d g c : Addr) (m : Nat) (room : Int), vs = [.ref d, .int room] ∧ DrawSt H d g c m ∧ m ≤ 2 ^ 40 ∧ 0 < room ∧ room < 1073741824 ∧
  ∀ (H' : Hp) (n : Int), 0 ≤ n → n < room → DrawSt H' d g c (m + 1) → (∀ b o, H b = some o → b ≠ d → b ≠ g → H' b = some o) → Q (.int n) H'
theorem dpInts (K : PySem.W.Frag) (H : Hp) : ∀ gs : List Int, DpAll K H (gs.map V.int) (gs.map PyData.int)
  | [] => .nil
  | z :: r => .cons (.int z) (dpInts K H r)
theorem ints_lay : ∀ gs : List Int, PyData.canLayAll0 (gs.map PyData.int) = true
  | [] => by simp only [List.map_nil, PyData.canLayAll0]
  | z :: r => by simp only [List.map_cons, PyData.canLayAll0, PyData.canLay0, ints_lay r, Bool.and_self]
theorem ints_depth : ∀ gs : List Int, PyData.depthAll (gs.map PyData.int) ≤ 1
  | [] => by simp only [List.map_nil, PyData.depthAll]; omega
  | z :: r => by
    have := ints_depth r
    simp only [List.map_cons, PyData.depthAll, PyData.depth]
    omega
theorem shaped_ints (gs : List Int) : SeqAt.shaped (.list (gs.map PyData.int)) = true := by
  unfold SeqAt.shaped
  rw [Bool.and_eq_true]
  refine ⟨?_, decide_eq_true ?_⟩
  · simp only [PyData.canLay0]
    exact ints_lay gs
  · have := ints_depth gs
    simp only [PyData.depth]
    omega
theorem eqv_nil (gs : List Int) : PyData.eqv (.list (gs.map PyData.int)) (.list []) = gs.isEmpty := by
  cases gs with
  | nil => decide +kernel
  | cons z r => simp [PyData.eqv, PyData.eqvAll]
theorem scD : FnScope ["state", "room", "found"] ["state", "room"] (defScope sDraw) := ⟨rfl, rfl, rfl, by decide +kernel, rfl, by decide +kernel, by decide +kernel⟩
theorem ok_draw {f fB : Addr} {fd fdB : FuncData} (F : Fun K "_law_draw" "_law_draw" sDraw f fd) (zint : mg "int" = none) (G : FnOk P w K mg base CX0 1 fB fdB ["state"] spBlended) (mgB : mg "_law_blended" = some (.ref fB)) (kB : PySem.W.keepIn K (.ref fB) = true) (bB : Binds K fdB ["state"] []) :
    FnOk P w K mg base CX0 2 f fd ["state", "room"] spDraw := by
  refine F.ok scD (fun vs H Q E h => ?_) (fun cdv A outer s H vs Q E hr h => ?_)
  · obtain ⟨d, g, c, m, room, rfl, _⟩ := h
    rfl
  · obtain ⟨d, g, c, m, room, rfl, ⟨gs, cs, r, t, hd, hg, hc, t0, tm, gl, gc⟩, hm, r0, r1, k⟩ := h
    have hu := hu_of hr
    refine ⟨_, pss_cons (ps_if (pt_cmpR op_eq (pe_dget hu (pv 0) pe_str (fun _ _ => rfl)) pe_int (nomark _))
        (pss_one (ps_dput hu (pv 0) pe_str (by exact (pe_ifExp (pt_cmpR (op_neD hr.units) (pe_dget hu (pv 0) pe_str (fun _ _ => rfl)) (pe_lst pa_nil) (nomark _))
          (pe_bm PySem.F.plainAttrs_list PySem.F.slot_list_pop PySem.F.type_list_pop mt_popAt (pe_dget hu (pv 0) pe_str (fun _ _ => rfl)) (pa_cons pe_int pa_nil))
          (pe_call G hr rfl mgB kB bB .nil pass0 (pa_cons (pv 0) pa_nil)))) rfl)) pss_nil)
      (pss_cons (ps_set (i := 2) scD.nd rfl (Or.inl rfl) (pe_op op_modN (pe_callTy call_int1 (by rfl) zint (by decide +kernel) (pa_cons (pe_dget hu (pv 0) pe_str (fun _ _ => rfl)) pa_nil)) (pv 1)))
      (pss_cons (ps_dput hu (pv 0) pe_str (pe_op op_fdivN (pe_dget hu (pv 0) pe_str (fun _ _ => rfl)) (pv 1)) rfl)
      (pss_one (ps_ret (pv 2))))), ?_⟩
    have rest : ∀ (H2 : Hp) (cs gs2 : List Int) (r2 t2 : Int), H2 d = some (.dK (kvD g c r2 t2)) → H2 g = some (.lst (gs2.map V.int)) → H2 c = some (.lst (cs.map V.int)) → 0 ≤ t2 → t2 ≤ (m : Int) + 1 → gs2.length ≤ 63 → (∀ b o, H b = some o → b ≠ d → b ≠ g → H2 b = some o) →
        tSeq (tAsg (tOp (rI (fun x j => j ≠ 0) fun i j => V.int (i.fmod j)) (tCB (fun xs H Q => (∃ i, xs = [V.int i] ∧ Q (V.int i) H) ∨ ∃ k, xs = [V.bl k] ∧ Q (V.int (if k = true then 1 else 0)) H) (tCons (tDGet (tVar 0) (tC (V.str "rest"))) tNil)) (tVar 1)) (gName 2))
          (tSeq (sDPut (tVar 0) (tC (V.str "rest")) (tOp (rI CDivN fun i j => V.int (i.fdiv j)) (tDGet (tVar 0) (tC (V.str "rest"))) (tVar 1))) (tRet (tVar 2)))
          { nx := fun x H' => Q V.non H', rt := Q } (L2.start ["state", "room", "found"] [V.ref d, V.int room]) H2 := by
      intro H2 cs gs2 r2 t2 hd2 hg2 hc2 z0 z1 gl2 kp
      have hgd : g ≠ d := ne_of hg2 hd2 (by intro z; cases z)
      have hcd : c ≠ d := ne_of hc2 hd2 (by intro z; cases z)
      refine ⟨_, rfl, d, _, rfl, getD_of hd2 "rest" (kvD_rest g c r2 t2), .inl ⟨_, rfl, _, rfl, _, _, rfl, rfl, by omega, ?_⟩⟩
      refine ⟨_, rfl, d, _, rfl, getD_of hd2 "rest" (kvD_rest g c r2 t2), _, rfl, _, _, rfl, rfl, ⟨by omega, by omega⟩, _, rfl, d, _, rfl, putD_of hd2 "rest" (by show 4 ≤ 1000; decide) (putD_rest g c r2 t2 _), _, rfl, ?_⟩
      show Q (V.int (r2.fmod room)) _
      rw [Int.fmod_eq_emod_of_nonneg _ (by omega)]
      refine k _ _ (Int.emod_nonneg _ (by omega)) (Int.emod_lt_of_pos _ r0) ⟨gs2, cs, _, t2, upd_same, by rw [upd_ne hgd]; exact hg2, by rw [upd_ne hcd]; exact hc2, z0, by omega, gl2, gc⟩ fun b o e n1 n2 => ?_
      rw [upd_ne n1]
      exact kp b o e n1 n2
    refine ⟨_, rfl, d, _, rfl, getD_of hd "rest" (kvD_rest g c r t), rfl, _, rfl, ?_⟩
    refine ite2 (fun _ => ?_) (fun _ => rest H cs gs r t hd hg hc t0 (by omega) gl fun b o e _ _ => e)
    refine ⟨_, rfl, d, _, rfl, getD_of hd "great" (kvD_great g c r t), by show 0 ≤ sizeLine; decide, fun p hp => ?_⟩
    have npd : d ≠ p := ne_of_none hd hp
    have npg : g ≠ p := ne_of_none hg hp
    have npc : c ≠ p := ne_of_none hc hp
    have hgd : g ≠ d := ne_of hg hd (by intro z; cases z)
    have hcd : c ≠ d := ne_of hc hd (by intro z; cases z)
    have e1d : (upd H p (.lst [])) d = some (.dK (kvD g c r t)) := by rw [upd_ne npd]; exact hd
    have e1g : (upd H p (.lst [])) g = some (.lst (gs.map V.int)) := by rw [upd_ne npg]; exact hg
    have e1c : (upd H p (.lst [])) c = some (.lst (cs.map V.int)) := by rw [upd_ne npc]; exact hc
    refine ⟨.list (gs.map PyData.int), .list [], .lst (.inl (.inl e1g)) (dpInts K _ gs), .lst (.inl (.inl upd_same)) .nil, shaped_ints gs, by decide +kernel, _, rfl, ?_⟩
    rw [eqv_nil]
    cases gs with
    | cons z r' =>
      refine iteT ?_
      refine ⟨_, rfl, d, _, rfl, getD_of e1d "great" (kvD_great g c r t), .inl ⟨rfl, _, SqL.of e1g⟩, g, _, 0, 0, .int z, rfl, rfl, e1g, by decide, by decide, (by rw [List.map_cons, List.length_cons]; exact seqIdx0 _), rfl, ?_⟩
      have e2d : (upd (upd H p (.lst [])) g (.lst ((List.map V.int (z :: r')).eraseIdx 0))) d = some (.dK (kvD g c r t)) := by rw [upd_ne hgd.symm]; exact e1d
      refine ⟨_, rfl, d, _, rfl, putD_of e2d "rest" (by show 4 ≤ 1000; decide) (putD_rest g c r t z), ?_⟩
      refine rest _ cs r' z t upd_same ?_ ?_ t0 (by omega) ?_ fun b o e n1 n2 => ?_
      · rw [upd_ne hgd, upd_same]
        all_goals rfl
      · rw [upd_ne hcd, upd_ne gc.symm]
        exact e1c
      · have q : r'.length + 1 ≤ 63 := gl
        omega
      · rw [upd_ne n1, upd_ne n2, upd_ne (ne_of_none e hp)]
        exact e
    | nil =>
      refine iteF ?_
      refine ⟨_, rfl, d, g, c, m, rfl, ⟨[], cs, r, t, e1d, e1g, e1c, t0, tm, gl, gc⟩, hm, ?_⟩
      rintro H2 n ⟨gs2, cs2, r2, t2, hd2, hg2, hc2, z0, z1, gl2, _⟩ kp
      refine ⟨_, rfl, d, _, rfl, putD_of hd2 "rest" (by show 4 ≤ 1000; decide) (putD_rest g c r2 t2 n), ?_⟩
      refine rest _ cs2 gs2 n t2 upd_same ?_ ?_ z0 (by omega) gl2 fun b o e n1 n2 => ?_
      · rw [upd_ne hgd]
        exact hg2
      · rw [upd_ne hcd]
        exact hc2
      · rw [upd_ne n1]
        exact kp b o (by rw [upd_ne (ne_of_none e hp)]; exact e) n1

/-! ### _law_pick -/
def spPick (K : PySem.W.Frag) : Sp := fun vs H Q _ => ∃ (d g c l : Addr) (m : Nat) (xs : List V), vs = [.ref d, .ref l] ∧ DrawSt H d g c m ∧ m ≤ 2 ^ 40 ∧ H l = some (.lst xs) ∧ l ≠ g ∧ xs ≠ [] ∧ xs.length < 1073741824 ∧
  ∀ (H' : Hp) (n : Nat) (v : V), xs[n]? = some v → DrawSt H' d g c (m + 1) → (∀ b o, H b = some o → b ≠ d → b ≠ g → H' b = some o) → Q v H'
theorem scP : FnScope ["state", "some"] ["state", "some"] (defScope sPick) := ⟨rfl, rfl, rfl, by decide +kernel, rfl, by decide +kernel, by decide +kernel⟩
theorem ok_pick {f fB : Addr} {fd fdB : FuncData} (F : Fun K "_law_pick" "_law_pick" sPick f fd) (zlen : mg "len" = none) (G : FnOk P w K mg base CX0 2 fB fdB ["state", "room"] spDraw) (mgB : mg "_law_draw" = some (.ref fB)) (kB : PySem.W.keepIn K (.ref fB) = true) (bB : Binds K fdB ["state", "room"] []) :
    FnOk P w K mg base CX0 3 f fd ["state", "some"] (spPick K) := by
  refine F.ok scP (fun vs H Q E h => ?_) (fun cdv A outer s H vs Q E hr h => ?_)
  · obtain ⟨d, g, c, l, m, xs, rfl, _⟩ := h
    rfl
  · obtain ⟨d, g, c, l, m, xs, rfl, D, hm, hl, hlg, hne, hsz, k⟩ := h
    have hld : l ≠ d := by
      obtain ⟨_, _, _, _, hd, _⟩ := D
      exact ne_of hl hd (by intro z; cases z)
    refine ⟨_, pss_one (ps_ret (pe_ix ix_list (pv 1) (by exact (pe_call G hr rfl mgB kB bB .nil pass0 (pa_cons (pv 0) (pa_cons (pe_callB call_len (by rfl) zlen (by decide +kernel) (pa_cons (pv 1) pa_nil)) pa_nil)))) (fun _ _ => rfl))), ?_⟩
    have hlen : 0 < xs.length := List.length_pos_iff.mpr hne
    refine ⟨_, rfl, _, rfl, _, rfl, _, xs.length, rfl, .inl ⟨xs, SqL.of hl, rfl⟩, d, g, c, m, _, rfl, D, hm, by omega, by omega, ?_⟩
    intro H' n n0 n1 D' kp
    have hn : n.toNat < xs.length := by omega
    have el : xs[n.toNat]? = some xs[n.toNat] := List.getElem?_eq_getElem hn
    exact ⟨l, xs, n, xs[n.toNat], rfl, rfl, SqL.of (kp l _ hl hld hlg), at_of (by omega) el, k H' _ _ el D' kp⟩
end
end My

set_option Elab.async false
set_option linter.all false
set_option maxRecDepth 100000
set_option maxHeartbeats 4000000
namespace My
open PySem L2
/-! ### the classes without fields -/
def bmVE : List Value := [.type "ValueError", .type "Exception", .type "BaseException", .type "object"]
/-- the class called x stands at C, as an own exception class without __init__; HE: HeadError, TM: TooMany -/
structure PlC (K : PySem.W.Frag) (mg : Str → Option Value) (HE TM : Addr) (x : Str) (C : Addr) : Prop where
  gC : mg x = some (.ref C)
  kC : PySem.W.keepIn K (.ref C) = true
  q : PySem.W.excIn K C bmVE "ValueError.__new__" = true
  ec : ExcC K C
  v1 : PySem.W.kitOne K (.ref C) (.type "ValueError") = some true
  v2 : PySem.W.kitOne K (.ref C) (.ref HE) = some true
  v3 : PySem.W.kitOne K (.ref C) (.ref TM) = some false
def plain : List Str := ["BadBare", "BadBoxes", "BadEnd", "BadHead", "BadJournal", "BadKind", "BadKinds", "BadLetter", "BadLine", "BadMachine", "BadMany", "BadName", "BadNames", "BadNumber", "BadPath", "BadPattern", "BadProgram", "BadShape", "BadSurroundings", "BadTable", "BadTerm", "BadText", "BadWhich", "BadWord", "BadWords", "NoProgram", "OtherLetters"]
def pairs : List (Str × Str) := [("BadKinds", "BadKind"), ("BadKind", "BadKinds"), ("BadNames", "BadName"), ("BadName", "BadNames"), ("BadWords", "BadWord"), ("BadWord", "BadWords"), ("BadHead", "BadProgram"), ("BadProgram", "BadHead"), ("BadMany", "BadNumber"), ("BadNumber", "BadMany"), ("NoProgram", "BadProgram"), ("BadText", "BadSigns")]
/-- a class with a field of its own, its __init__ at fI -/
structure FlC (K : PySem.W.Frag) (mg : Str → Option Value) (x fld : Str) (C fI : Addr) : Prop where
  gC : mg x = some (.ref C)
  ox : OexC K C
  iC : PySem.W.findIn K (.ref C) "__init__" = some (some (.ref fI))
  tI : PySem.W.typeIn K (.ref fI) = some (.type "function")
  ec : ExcC K C
  xf : XfC K C
  no : PySem.W.findIn K (.ref C) fld = some none
structure Txt (K : PySem.W.Frag) (mg : Str → Option Value) (HE TM BS UN fT fB fU : Addr) : Prop where
  pl : ∀ x ∈ plain, ∃ C, PlC K mg HE TM x C
  pr : ∀ p ∈ pairs, ∀ C D, mg p.1 = some (.ref C) → mg p.2 = some (.ref D) → PySem.W.kitOne K (.ref C) (.ref D) = some false
  gH : mg "HeadError" = some (.ref HE)
  bH : BasC K HE
  tm : FlC K mg "TooMany" "most" TM fT
  bs : FlC K mg "BadSigns" "at" BS fB
  un : FlC K mg "Unread" "letter" UN fU
  w1 : PySem.W.kitOne K (.ref TM) (.ref BS) = some false
  w2 : PySem.W.kitOne K (.ref TM) (.ref HE) = some true
  w3 : PySem.W.kitOne K (.ref BS) (.ref HE) = some true
  w4 : PySem.W.kitOne K (.ref UN) (.ref HE) = some true
  w5 : PySem.W.kitOne K (.ref UN) (.ref TM) = some false
  isi : mg "isinstance" = none
  ve : mg "ValueError" = none


/-! ### _law_plain -/
def tEx (C : Addr) : TE := fun σ H Q => tVar 0 σ H fun _ H1 => ∀ a, H1 a = none → Q (.ref a) (upd H1 a (ExO (.ref C) a))
def exTA : List Addr → TA
  | [] => tNil
  | C :: r => tCons (tEx C) (exTA r)
/-- exceptions of good classes stand at these addresses -/
def Excs (G : Addr → Prop) (H : Hp) (as : List Addr) : Prop := ∀ a ∈ as, ∃ C, G C ∧ H a = some (ExO (.ref C) a)
theorem Excs.same {G : Addr → Prop} {H H' : Hp} {as : List Addr} (h : Excs G H as) (k : Same H H') : Excs G H' as := fun a ha => by
  obtain ⟨C, g, e⟩ := h a ha
  exact ⟨C, g, k _ _ e⟩
theorem Excs.app {G : Addr → Prop} {H : Hp} {as bs : List Addr} (h : Excs G H as) (h' : Excs G H bs) : Excs G H (as ++ bs) := fun a ha =>
  (List.mem_append.mp ha).elim (h a) (h' a)
theorem read_excs {G : Addr → Prop} {σ : St} {v : V} (hv : σ[0]? = some (some v)) : ∀ (Cs : List Addr), (∀ C ∈ Cs, G C) → ∀ (H : Hp) (Q : List V → Hp → Prop),
    (∀ (as : List Addr) (H' : Hp), as.length = Cs.length → Same H H' → Excs G H' as → Q (as.map V.ref) H') → exTA Cs σ H Q
  | [], _, H, Q, k => k [] H rfl (Same.refl H) fun a ha => nomatch ha
  | C :: r, g, H, Q, k => ⟨v, hv, fun a ha => read_excs hv r (fun D hD => g D (List.mem_cons_of_mem _ hD)) _ _ fun as H' hl s e => by
      refine k (a :: as) H' (by rw [List.length_cons, List.length_cons, hl]) ((same_new ha).trans s) fun b hb => ?_
      rcases List.mem_cons.mp hb with rfl | hb
      · exact ⟨C, g C List.mem_cons_self, s _ _ upd_same⟩
      · exact e b hb⟩
abbrev sPlain : Stmt := top 37
/-- what a good class is -/
def Good (K : PySem.W.Frag) (HE TM C : Addr) : Prop := ExcC K C ∧ PySem.W.kitOne K (.ref C) (.type "ValueError") = some true ∧ PySem.W.kitOne K (.ref C) (.ref HE) = some true ∧ PySem.W.kitOne K (.ref C) (.ref TM) = some false
theorem PlC.good {K : PySem.W.Frag} {mg : Str → Option Value} {HE TM C : Addr} {x : Str} (P : PlC K mg HE TM x C) : Good K HE TM C := ⟨P.ec, P.v1, P.v2, P.v3⟩
def spPlain (K : PySem.W.Frag) (HE TM : Addr) : Sp := fun vs H Q _ => ∃ v : V, vs = [v] ∧ ∀ (H' : Hp) (l : Addr) (as : List Addr), Same H H' → H' l = some (.lst (as.map V.ref)) → Excs (Good K HE TM) H' as → as.length ≤ 63 → Q (.ref l) H'
section
variable {P : Program} {w : World} {K : PySem.W.Frag} {mg : Str → Option Value} {base : Heap} {HE TM BS UN fT fB fU : Addr}
theorem scPl : FnScope ["word", "some"] ["word"] (defScope sPlain) := ⟨rfl, rfl, rfl, by decide +kernel, rfl, by decide +kernel, by decide +kernel⟩
theorem ok_plain {f : Addr} {fd : FuncData} (F : Fun K "_law_plain" "_law_plain" sPlain f fd) (T : Txt K mg HE TM BS UN fT fB fU) : FnOk P w K mg base CX0 1 f fd ["word"] (spPlain K HE TM) := by
  refine F.ok scPl (fun vs H Q E h => ?_) (fun cdv A outer s H vs Q E hr h => ?_)
  · obtain ⟨v, rfl, _⟩ := h
    rfl
  · obtain ⟨v, rfl, k⟩ := h
    obtain ⟨CBadBare, PBadBare⟩ := T.pl "BadBare" (by decide +kernel)
    obtain ⟨CBadBoxes, PBadBoxes⟩ := T.pl "BadBoxes" (by decide +kernel)
    obtain ⟨CBadEnd, PBadEnd⟩ := T.pl "BadEnd" (by decide +kernel)
    obtain ⟨CBadHead, PBadHead⟩ := T.pl "BadHead" (by decide +kernel)
    obtain ⟨CBadJournal, PBadJournal⟩ := T.pl "BadJournal" (by decide +kernel)
    obtain ⟨CBadKind, PBadKind⟩ := T.pl "BadKind" (by decide +kernel)
    obtain ⟨CBadKinds, PBadKinds⟩ := T.pl "BadKinds" (by decide +kernel)
    obtain ⟨CBadLetter, PBadLetter⟩ := T.pl "BadLetter" (by decide +kernel)
    obtain ⟨CBadLine, PBadLine⟩ := T.pl "BadLine" (by decide +kernel)
    obtain ⟨CBadMachine, PBadMachine⟩ := T.pl "BadMachine" (by decide +kernel)
    obtain ⟨CBadMany, PBadMany⟩ := T.pl "BadMany" (by decide +kernel)
    obtain ⟨CBadName, PBadName⟩ := T.pl "BadName" (by decide +kernel)
    obtain ⟨CBadNames, PBadNames⟩ := T.pl "BadNames" (by decide +kernel)
    obtain ⟨CBadNumber, PBadNumber⟩ := T.pl "BadNumber" (by decide +kernel)
    obtain ⟨CBadPath, PBadPath⟩ := T.pl "BadPath" (by decide +kernel)
    obtain ⟨CBadPattern, PBadPattern⟩ := T.pl "BadPattern" (by decide +kernel)
    obtain ⟨CBadProgram, PBadProgram⟩ := T.pl "BadProgram" (by decide +kernel)
    obtain ⟨CBadShape, PBadShape⟩ := T.pl "BadShape" (by decide +kernel)
    obtain ⟨CBadSurroundings, PBadSurroundings⟩ := T.pl "BadSurroundings" (by decide +kernel)
    obtain ⟨CBadTable, PBadTable⟩ := T.pl "BadTable" (by decide +kernel)
    obtain ⟨CBadTerm, PBadTerm⟩ := T.pl "BadTerm" (by decide +kernel)
    obtain ⟨CBadText, PBadText⟩ := T.pl "BadText" (by decide +kernel)
    obtain ⟨CBadWhich, PBadWhich⟩ := T.pl "BadWhich" (by decide +kernel)
    obtain ⟨CBadWord, PBadWord⟩ := T.pl "BadWord" (by decide +kernel)
    obtain ⟨CBadWords, PBadWords⟩ := T.pl "BadWords" (by decide +kernel)
    obtain ⟨CNoProgram, PNoProgram⟩ := T.pl "NoProgram" (by decide +kernel)
    obtain ⟨COtherLetters, POtherLetters⟩ := T.pl "OtherLetters" (by decide +kernel)
    refine ⟨_, pss_cons (ps_set (i := 1) scPl.nd rfl (Or.inl rfl) (pe_lst (pa_cons (pe_exc1 PySem.F.excBase_ValueError PBadBare.q PBadBare.gC PBadBare.kC rfl (pv 0)) (pa_cons (pe_exc1 PySem.F.excBase_ValueError PBadBoxes.q PBadBoxes.gC PBadBoxes.kC rfl (pv 0)) (pa_cons (pe_exc1 PySem.F.excBase_ValueError PBadEnd.q PBadEnd.gC PBadEnd.kC rfl (pv 0)) (pa_cons (pe_exc1 PySem.F.excBase_ValueError PBadHead.q PBadHead.gC PBadHead.kC rfl (pv 0)) (pa_cons (pe_exc1 PySem.F.excBase_ValueError PBadJournal.q PBadJournal.gC PBadJournal.kC rfl (pv 0)) (pa_cons (pe_exc1 PySem.F.excBase_ValueError PBadKind.q PBadKind.gC PBadKind.kC rfl (pv 0)) pa_nil))))))))
      (pss_cons (ps_set (i := 1) scPl.nd rfl (Or.inl rfl) (pe_op op_cat (pv 1) (pe_lst (pa_cons (pe_exc1 PySem.F.excBase_ValueError PBadKinds.q PBadKinds.gC PBadKinds.kC rfl (pv 0)) (pa_cons (pe_exc1 PySem.F.excBase_ValueError PBadLetter.q PBadLetter.gC PBadLetter.kC rfl (pv 0)) (pa_cons (pe_exc1 PySem.F.excBase_ValueError PBadLine.q PBadLine.gC PBadLine.kC rfl (pv 0)) (pa_cons (pe_exc1 PySem.F.excBase_ValueError PBadMachine.q PBadMachine.gC PBadMachine.kC rfl (pv 0)) (pa_cons (pe_exc1 PySem.F.excBase_ValueError PBadMany.q PBadMany.gC PBadMany.kC rfl (pv 0)) (pa_cons (pe_exc1 PySem.F.excBase_ValueError PBadName.q PBadName.gC PBadName.kC rfl (pv 0)) pa_nil)))))))))
      (pss_cons (ps_set (i := 1) scPl.nd rfl (Or.inl rfl) (pe_op op_cat (pv 1) (pe_lst (pa_cons (pe_exc1 PySem.F.excBase_ValueError PBadNames.q PBadNames.gC PBadNames.kC rfl (pv 0)) (pa_cons (pe_exc1 PySem.F.excBase_ValueError PBadNumber.q PBadNumber.gC PBadNumber.kC rfl (pv 0)) (pa_cons (pe_exc1 PySem.F.excBase_ValueError PBadPath.q PBadPath.gC PBadPath.kC rfl (pv 0)) (pa_cons (pe_exc1 PySem.F.excBase_ValueError PBadPattern.q PBadPattern.gC PBadPattern.kC rfl (pv 0)) (pa_cons (pe_exc1 PySem.F.excBase_ValueError PBadProgram.q PBadProgram.gC PBadProgram.kC rfl (pv 0)) (pa_cons (pe_exc1 PySem.F.excBase_ValueError PBadShape.q PBadShape.gC PBadShape.kC rfl (pv 0)) pa_nil)))))))))
      (pss_cons (ps_set (i := 1) scPl.nd rfl (Or.inl rfl) (pe_op op_cat (pv 1) (pe_lst (pa_cons (pe_exc1 PySem.F.excBase_ValueError PBadSurroundings.q PBadSurroundings.gC PBadSurroundings.kC rfl (pv 0)) (pa_cons (pe_exc1 PySem.F.excBase_ValueError PBadTable.q PBadTable.gC PBadTable.kC rfl (pv 0)) (pa_cons (pe_exc1 PySem.F.excBase_ValueError PBadTerm.q PBadTerm.gC PBadTerm.kC rfl (pv 0)) (pa_cons (pe_exc1 PySem.F.excBase_ValueError PBadText.q PBadText.gC PBadText.kC rfl (pv 0)) (pa_cons (pe_exc1 PySem.F.excBase_ValueError PBadWhich.q PBadWhich.gC PBadWhich.kC rfl (pv 0)) (pa_cons (pe_exc1 PySem.F.excBase_ValueError PBadWord.q PBadWord.gC PBadWord.kC rfl (pv 0)) pa_nil)))))))))
      (pss_one (ps_ret (pe_op op_cat (pv 1) (pe_lst (pa_cons (pe_exc1 PySem.F.excBase_ValueError PBadWords.q PBadWords.gC PBadWords.kC rfl (pv 0)) (pa_cons (pe_exc1 PySem.F.excBase_ValueError PNoProgram.q PNoProgram.gC PNoProgram.kC rfl (pv 0)) (pa_cons (pe_exc1 PySem.F.excBase_ValueError POtherLetters.q POtherLetters.gC POtherLetters.kC rfl (pv 0)) pa_nil)))))))))), ?_⟩
    dsimp only [tSeq, tAsg, tLst]
    refine read_excs (G := Good K HE TM) rfl [CBadBare, CBadBoxes, CBadEnd, CBadHead, CBadJournal, CBadKind] (fun C hC => by simp only [List.mem_cons, List.not_mem_nil, or_false] at hC; rcases hC with rfl | rfl | rfl | rfl | rfl | rfl; all_goals (first | exact PBadBare.good | exact PBadBoxes.good | exact PBadEnd.good | exact PBadHead.good | exact PBadJournal.good | exact PBadKind.good)) H _ fun a1 H1 l1 s1 e1 => ?_
    refine ⟨?_, fun p1 n1 => ?_⟩
    · rw [List.length_map, l1]
      show 6 ≤ sizeLine
      decide
    have S1 : Same H (upd H1 p1 (.lst (a1.map V.ref))) := s1.trans (same_new n1)
    have E1 : Excs (Good K HE TM) (upd H1 p1 (.lst (a1.map V.ref))) a1 := e1.same (same_new n1)
    have L1 : (upd H1 p1 (.lst (a1.map V.ref))) p1 = some (.lst (a1.map V.ref)) := upd_same
    have Z1 : a1.length = 6 := l1
    revert S1 E1 L1
    generalize upd H1 p1 (.lst (a1.map V.ref)) = J1
    intro S1 E1 L1
    refine ⟨_, rfl, ?_⟩
    dsimp only [tSeq, tAsg, tLst]
    refine read_excs (G := Good K HE TM) rfl [CBadKinds, CBadLetter, CBadLine, CBadMachine, CBadMany, CBadName] (fun C hC => by simp only [List.mem_cons, List.not_mem_nil, or_false] at hC; rcases hC with rfl | rfl | rfl | rfl | rfl | rfl; all_goals (first | exact PBadKinds.good | exact PBadLetter.good | exact PBadLine.good | exact PBadMachine.good | exact PBadMany.good | exact PBadName.good)) J1 _ fun a2 H2 l2 s2 e2 => ?_
    refine ⟨by rw [List.length_map, l2]; show 6 ≤ sizeLine; decide, fun q2 m2 => ?_⟩
    refine ⟨_, _, _, _, rfl, rfl, (s2.trans (same_new m2)) _ _ L1, upd_same, ?_, fun p2 n2 => ?_⟩
    · rw [List.length_map, List.length_map, Z1, l2]
      show 12 ≤ sizeLine
      decide
    have S2 : Same H (upd (upd H2 q2 (.lst (a2.map V.ref))) p2 (.lst (a1.map V.ref ++ a2.map V.ref))) := S1.trans (s2.trans ((same_new m2).trans (same_new n2)))
    have E2 : Excs (Good K HE TM) (upd (upd H2 q2 (.lst (a2.map V.ref))) p2 (.lst (a1.map V.ref ++ a2.map V.ref))) (a1 ++ a2) := (E1.same (s2.trans ((same_new m2).trans (same_new n2)))).app (e2.same ((same_new m2).trans (same_new n2)))
    have L2 : (upd (upd H2 q2 (.lst (a2.map V.ref))) p2 (.lst (a1.map V.ref ++ a2.map V.ref))) p2 = some (.lst ((a1 ++ a2).map V.ref)) := by rw [upd_same, List.map_append]
    have Z2 : (a1 ++ a2).length = 12 := by rw [List.length_append, Z1, l2]; rfl
    revert S2 E2 L2 Z2
    generalize (upd (upd H2 q2 (.lst (a2.map V.ref))) p2 (.lst (a1.map V.ref ++ a2.map V.ref))) = J2
    generalize a1 ++ a2 = B2
    intro S2 E2 L2 Z2
    refine ⟨_, rfl, ?_⟩
    dsimp only [tSeq, tAsg, tLst]
    refine read_excs (G := Good K HE TM) rfl [CBadNames, CBadNumber, CBadPath, CBadPattern, CBadProgram, CBadShape] (fun C hC => by simp only [List.mem_cons, List.not_mem_nil, or_false] at hC; rcases hC with rfl | rfl | rfl | rfl | rfl | rfl; all_goals (first | exact PBadNames.good | exact PBadNumber.good | exact PBadPath.good | exact PBadPattern.good | exact PBadProgram.good | exact PBadShape.good)) J2 _ fun a3 H3 l3 s3 e3 => ?_
    refine ⟨by rw [List.length_map, l3]; show 6 ≤ sizeLine; decide, fun q3 m3 => ?_⟩
    refine ⟨_, _, _, _, rfl, rfl, (s3.trans (same_new m3)) _ _ L2, upd_same, ?_, fun p3 n3 => ?_⟩
    · rw [List.length_map, List.length_map, Z2, l3]
      show 18 ≤ sizeLine
      decide
    have S3 : Same H (upd (upd H3 q3 (.lst (a3.map V.ref))) p3 (.lst (B2.map V.ref ++ a3.map V.ref))) := S2.trans (s3.trans ((same_new m3).trans (same_new n3)))
    have E3 : Excs (Good K HE TM) (upd (upd H3 q3 (.lst (a3.map V.ref))) p3 (.lst (B2.map V.ref ++ a3.map V.ref))) (B2 ++ a3) := (E2.same (s3.trans ((same_new m3).trans (same_new n3)))).app (e3.same ((same_new m3).trans (same_new n3)))
    have L3 : (upd (upd H3 q3 (.lst (a3.map V.ref))) p3 (.lst (B2.map V.ref ++ a3.map V.ref))) p3 = some (.lst ((B2 ++ a3).map V.ref)) := by rw [upd_same, List.map_append]
    have Z3 : (B2 ++ a3).length = 18 := by rw [List.length_append, Z2, l3]; rfl
    revert S3 E3 L3 Z3
    generalize (upd (upd H3 q3 (.lst (a3.map V.ref))) p3 (.lst (B2.map V.ref ++ a3.map V.ref))) = J3
    generalize B2 ++ a3 = B3
    intro S3 E3 L3 Z3
    refine ⟨_, rfl, ?_⟩
    dsimp only [tSeq, tAsg, tLst]
    refine read_excs (G := Good K HE TM) rfl [CBadSurroundings, CBadTable, CBadTerm, CBadText, CBadWhich, CBadWord] (fun C hC => by simp only [List.mem_cons, List.not_mem_nil, or_false] at hC; rcases hC with rfl | rfl | rfl | rfl | rfl | rfl; all_goals (first | exact PBadSurroundings.good | exact PBadTable.good | exact PBadTerm.good | exact PBadText.good | exact PBadWhich.good | exact PBadWord.good)) J3 _ fun a4 H4 l4 s4 e4 => ?_
    refine ⟨by rw [List.length_map, l4]; show 6 ≤ sizeLine; decide, fun q4 m4 => ?_⟩
    refine ⟨_, _, _, _, rfl, rfl, (s4.trans (same_new m4)) _ _ L3, upd_same, ?_, fun p4 n4 => ?_⟩
    · rw [List.length_map, List.length_map, Z3, l4]
      show 24 ≤ sizeLine
      decide
    have S4 : Same H (upd (upd H4 q4 (.lst (a4.map V.ref))) p4 (.lst (B3.map V.ref ++ a4.map V.ref))) := S3.trans (s4.trans ((same_new m4).trans (same_new n4)))
    have E4 : Excs (Good K HE TM) (upd (upd H4 q4 (.lst (a4.map V.ref))) p4 (.lst (B3.map V.ref ++ a4.map V.ref))) (B3 ++ a4) := (E3.same (s4.trans ((same_new m4).trans (same_new n4)))).app (e4.same ((same_new m4).trans (same_new n4)))
    have L4 : (upd (upd H4 q4 (.lst (a4.map V.ref))) p4 (.lst (B3.map V.ref ++ a4.map V.ref))) p4 = some (.lst ((B3 ++ a4).map V.ref)) := by rw [upd_same, List.map_append]
    have Z4 : (B3 ++ a4).length = 24 := by rw [List.length_append, Z3, l4]; rfl
    revert S4 E4 L4 Z4
    generalize (upd (upd H4 q4 (.lst (a4.map V.ref))) p4 (.lst (B3.map V.ref ++ a4.map V.ref))) = J4
    generalize B3 ++ a4 = B4
    intro S4 E4 L4 Z4
    refine ⟨_, rfl, ?_⟩
    dsimp only [tSeq, tAsg, tLst]
    refine read_excs (G := Good K HE TM) rfl [CBadWords, CNoProgram, COtherLetters] (fun C hC => by simp only [List.mem_cons, List.not_mem_nil, or_false] at hC; rcases hC with rfl | rfl | rfl; all_goals (first | exact PBadWords.good | exact PNoProgram.good | exact POtherLetters.good)) J4 _ fun a5 H5 l5 s5 e5 => ?_
    refine ⟨by rw [List.length_map, l5]; show 3 ≤ sizeLine; decide, fun q5 m5 => ?_⟩
    refine ⟨_, _, _, _, rfl, rfl, (s5.trans (same_new m5)) _ _ L4, upd_same, ?_, fun p5 n5 => ?_⟩
    · rw [List.length_map, List.length_map, Z4, l5]
      show 27 ≤ sizeLine
      decide
    have S5 : Same H (upd (upd H5 q5 (.lst (a5.map V.ref))) p5 (.lst (B4.map V.ref ++ a5.map V.ref))) := S4.trans (s5.trans ((same_new m5).trans (same_new n5)))
    have E5 : Excs (Good K HE TM) (upd (upd H5 q5 (.lst (a5.map V.ref))) p5 (.lst (B4.map V.ref ++ a5.map V.ref))) (B4 ++ a5) := (E4.same (s5.trans ((same_new m5).trans (same_new n5)))).app (e5.same ((same_new m5).trans (same_new n5)))
    have L5 : (upd (upd H5 q5 (.lst (a5.map V.ref))) p5 (.lst (B4.map V.ref ++ a5.map V.ref))) p5 = some (.lst ((B4 ++ a5).map V.ref)) := by rw [upd_same, List.map_append]
    have Z5 : (B4 ++ a5).length = 27 := by rw [List.length_append, Z4, l5]; rfl
    revert S5 E5 L5 Z5
    generalize (upd (upd H5 q5 (.lst (a5.map V.ref))) p5 (.lst (B4.map V.ref ++ a5.map V.ref))) = J5
    generalize B4 ++ a5 = B5
    intro S5 E5 L5 Z5
    exact k J5 p5 B5 S5 L5 E5 (by omega)
end

/-! ### _law_beneath -/
abbrev sBeneath : Stmt := top 38
def spBeneath : Sp := fun vs H Q _ => ∃ v : V, vs = [v] ∧ ∀ (H' : Hp) (l : Addr) (n : Nat), Same H H' → H' l = some (.lst (List.replicate n (.bl false))) → n ≤ 63 → Q (.ref l) H'
section
variable {P : Program} {w : World} {K : PySem.W.Frag} {mg : Str → Option Value} {base : Heap} {HE TM BS UN fT fB fU : Addr}
theorem scBe : FnScope ["word", "some"] ["word"] (defScope sBeneath) := ⟨rfl, rfl, rfl, by decide +kernel, rfl, by decide +kernel, by decide +kernel⟩
theorem ok_beneath {f : Addr} {fd : FuncData} (F : Fun K "_law_beneath" "_law_beneath" sBeneath f fd) (T : Txt K mg HE TM BS UN fT fB fU) : FnOk P w K mg base CX0 1 f fd ["word"] spBeneath := by
  refine F.ok scBe (fun vs H Q E h => ?_) (fun cdv A outer s H vs Q E hr h => ?_)
  · obtain ⟨v, rfl, _⟩ := h
    rfl
  · obtain ⟨v, rfl, k⟩ := h
    obtain ⟨CBadKinds, PBadKinds⟩ := T.pl "BadKinds" (by decide +kernel)
    obtain ⟨CBadKind, PBadKind⟩ := T.pl "BadKind" (by decide +kernel)
    obtain ⟨CBadNames, PBadNames⟩ := T.pl "BadNames" (by decide +kernel)
    obtain ⟨CBadName, PBadName⟩ := T.pl "BadName" (by decide +kernel)
    obtain ⟨CBadWords, PBadWords⟩ := T.pl "BadWords" (by decide +kernel)
    obtain ⟨CBadWord, PBadWord⟩ := T.pl "BadWord" (by decide +kernel)
    obtain ⟨CBadHead, PBadHead⟩ := T.pl "BadHead" (by decide +kernel)
    obtain ⟨CBadProgram, PBadProgram⟩ := T.pl "BadProgram" (by decide +kernel)
    obtain ⟨CBadMany, PBadMany⟩ := T.pl "BadMany" (by decide +kernel)
    obtain ⟨CBadNumber, PBadNumber⟩ := T.pl "BadNumber" (by decide +kernel)
    obtain ⟨CNoProgram, PNoProgram⟩ := T.pl "NoProgram" (by decide +kernel)
    obtain ⟨CBadText, PBadText⟩ := T.pl "BadText" (by decide +kernel)
    have r0 : PySem.W.kitOne K (.ref CBadKinds) (.ref CBadKind) = some false := T.pr ("BadKinds", "BadKind") (by decide +kernel) _ _ PBadKinds.gC PBadKind.gC
    have r1 : PySem.W.kitOne K (.ref CBadKind) (.ref CBadKinds) = some false := T.pr ("BadKind", "BadKinds") (by decide +kernel) _ _ PBadKind.gC PBadKinds.gC
    have r2 : PySem.W.kitOne K (.ref CBadNames) (.ref CBadName) = some false := T.pr ("BadNames", "BadName") (by decide +kernel) _ _ PBadNames.gC PBadName.gC
    have r3 : PySem.W.kitOne K (.ref CBadName) (.ref CBadNames) = some false := T.pr ("BadName", "BadNames") (by decide +kernel) _ _ PBadName.gC PBadNames.gC
    have r4 : PySem.W.kitOne K (.ref CBadWords) (.ref CBadWord) = some false := T.pr ("BadWords", "BadWord") (by decide +kernel) _ _ PBadWords.gC PBadWord.gC
    have r5 : PySem.W.kitOne K (.ref CBadWord) (.ref CBadWords) = some false := T.pr ("BadWord", "BadWords") (by decide +kernel) _ _ PBadWord.gC PBadWords.gC
    have r6 : PySem.W.kitOne K (.ref CBadHead) (.ref CBadProgram) = some false := T.pr ("BadHead", "BadProgram") (by decide +kernel) _ _ PBadHead.gC PBadProgram.gC
    have r7 : PySem.W.kitOne K (.ref CBadProgram) (.ref CBadHead) = some false := T.pr ("BadProgram", "BadHead") (by decide +kernel) _ _ PBadProgram.gC PBadHead.gC
    have r8 : PySem.W.kitOne K (.ref CBadMany) (.ref CBadNumber) = some false := T.pr ("BadMany", "BadNumber") (by decide +kernel) _ _ PBadMany.gC PBadNumber.gC
    have r9 : PySem.W.kitOne K (.ref CBadNumber) (.ref CBadMany) = some false := T.pr ("BadNumber", "BadMany") (by decide +kernel) _ _ PBadNumber.gC PBadMany.gC
    have r10 : PySem.W.kitOne K (.ref CNoProgram) (.ref CBadProgram) = some false := T.pr ("NoProgram", "BadProgram") (by decide +kernel) _ _ PNoProgram.gC PBadProgram.gC
    have r11 : PySem.W.kitOne K (.ref CBadText) (.ref BS) = some false := T.pr ("BadText", "BadSigns") (by decide +kernel) _ _ PBadText.gC T.bs.gC
    refine ⟨_, pss_cons (ps_set (i := 1) scBe.nd rfl (Or.inl rfl) (pe_lst (pa_cons (pe_callB call_isV (by rfl) T.isi (by decide +kernel) (pa_cons (pe_exc1 PySem.F.excBase_ValueError PBadKinds.q PBadKinds.gC PBadKinds.kC rfl (pv 0)) (pa_cons (pe_cls PBadKind.gC) pa_nil))) (pa_cons (pe_callB call_isV (by rfl) T.isi (by decide +kernel) (pa_cons (pe_exc1 PySem.F.excBase_ValueError PBadKind.q PBadKind.gC PBadKind.kC rfl (pv 0)) (pa_cons (pe_cls PBadKinds.gC) pa_nil))) pa_nil))))
      (pss_cons (ps_set (i := 1) scBe.nd rfl (Or.inl rfl) (pe_op op_cat (pv 1) (pe_lst (pa_cons (pe_callB call_isV (by rfl) T.isi (by decide +kernel) (pa_cons (pe_exc1 PySem.F.excBase_ValueError PBadNames.q PBadNames.gC PBadNames.kC rfl (pv 0)) (pa_cons (pe_cls PBadName.gC) pa_nil))) (pa_cons (pe_callB call_isV (by rfl) T.isi (by decide +kernel) (pa_cons (pe_exc1 PySem.F.excBase_ValueError PBadName.q PBadName.gC PBadName.kC rfl (pv 0)) (pa_cons (pe_cls PBadNames.gC) pa_nil))) pa_nil)))))
      (pss_cons (ps_set (i := 1) scBe.nd rfl (Or.inl rfl) (pe_op op_cat (pv 1) (pe_lst (pa_cons (pe_callB call_isV (by rfl) T.isi (by decide +kernel) (pa_cons (pe_exc1 PySem.F.excBase_ValueError PBadWords.q PBadWords.gC PBadWords.kC rfl (pv 0)) (pa_cons (pe_cls PBadWord.gC) pa_nil))) (pa_cons (pe_callB call_isV (by rfl) T.isi (by decide +kernel) (pa_cons (pe_exc1 PySem.F.excBase_ValueError PBadWord.q PBadWord.gC PBadWord.kC rfl (pv 0)) (pa_cons (pe_cls PBadWords.gC) pa_nil))) pa_nil)))))
      (pss_cons (ps_set (i := 1) scBe.nd rfl (Or.inl rfl) (pe_op op_cat (pv 1) (pe_lst (pa_cons (pe_callB call_isV (by rfl) T.isi (by decide +kernel) (pa_cons (pe_exc1 PySem.F.excBase_ValueError PBadHead.q PBadHead.gC PBadHead.kC rfl (pv 0)) (pa_cons (pe_cls PBadProgram.gC) pa_nil))) (pa_cons (pe_callB call_isV (by rfl) T.isi (by decide +kernel) (pa_cons (pe_exc1 PySem.F.excBase_ValueError PBadProgram.q PBadProgram.gC PBadProgram.kC rfl (pv 0)) (pa_cons (pe_cls PBadHead.gC) pa_nil))) pa_nil)))))
      (pss_cons (ps_set (i := 1) scBe.nd rfl (Or.inl rfl) (pe_op op_cat (pv 1) (pe_lst (pa_cons (pe_callB call_isV (by rfl) T.isi (by decide +kernel) (pa_cons (pe_exc1 PySem.F.excBase_ValueError PBadMany.q PBadMany.gC PBadMany.kC rfl (pv 0)) (pa_cons (pe_cls PBadNumber.gC) pa_nil))) (pa_cons (pe_callB call_isV (by rfl) T.isi (by decide +kernel) (pa_cons (pe_exc1 PySem.F.excBase_ValueError PBadNumber.q PBadNumber.gC PBadNumber.kC rfl (pv 0)) (pa_cons (pe_cls PBadMany.gC) pa_nil))) pa_nil)))))
      (pss_one (ps_ret (pe_op op_cat (pv 1) (pe_lst (pa_cons (pe_callB call_isV (by rfl) T.isi (by decide +kernel) (pa_cons (pe_exc1 PySem.F.excBase_ValueError PNoProgram.q PNoProgram.gC PNoProgram.kC rfl (pv 0)) (pa_cons (pe_cls PBadProgram.gC) pa_nil))) (pa_cons (pe_callB call_isV (by rfl) T.isi (by decide +kernel) (pa_cons (pe_exc1 PySem.F.excBase_ValueError PBadText.q PBadText.gC PBadText.kC rfl (pv 0)) (pa_cons (pe_cls T.bs.gC) pa_nil))) pa_nil)))))))))), ?_⟩
    refine ⟨_, rfl, fun x1 nx1 => ⟨x1, CBadKinds, .ref CBadKind, .ref CBadKind, false, rfl, .inl upd_same, PBadKinds.ec, (fun _ z => z), r0, _, rfl, fun y1 ny1 => ⟨y1, CBadKind, .ref CBadKinds, .ref CBadKinds, false, rfl, .inl upd_same, PBadKind.ec, (fun _ z => z), r1, by show 2 ≤ sizeLine; decide, fun p1 np1 => ?_⟩⟩⟩
    have S1 : Same H (upd (upd (upd H x1 (ExO (.ref CBadKinds) x1)) y1 (ExO (.ref CBadKind) y1)) p1 (.lst [.bl false, .bl false])) := (same_new nx1).trans ((same_new ny1).trans (same_new np1))
    have L1 : (upd (upd (upd H x1 (ExO (.ref CBadKinds) x1)) y1 (ExO (.ref CBadKind) y1)) p1 (.lst [.bl false, .bl false])) p1 = some (.lst (List.replicate 2 (.bl false))) := upd_same
    revert S1 L1
    generalize (upd (upd (upd H x1 (ExO (.ref CBadKinds) x1)) y1 (ExO (.ref CBadKind) y1)) p1 (.lst [.bl false, .bl false])) = J1
    intro S1 L1
    refine ⟨_, rfl, _, rfl, fun x2 nx2 => ⟨x2, CBadNames, .ref CBadName, .ref CBadName, false, rfl, .inl upd_same, PBadNames.ec, (fun _ z => z), r2, _, rfl, fun y2 ny2 => ⟨y2, CBadName, .ref CBadNames, .ref CBadNames, false, rfl, .inl upd_same, PBadName.ec, (fun _ z => z), r3, by show 2 ≤ sizeLine; decide, fun q2 nq2 => ⟨_, _, _, _, rfl, rfl, ((same_new nx2).trans ((same_new ny2).trans (same_new nq2))) _ _ L1, upd_same, ?_, fun p2 np2 => ?_⟩⟩⟩⟩
    · rw [List.length_replicate]
      show 4 ≤ sizeLine
      decide
    have S2 : Same H (upd (upd (upd (upd J1 x2 (ExO (.ref CBadNames) x2)) y2 (ExO (.ref CBadName) y2)) q2 (.lst [.bl false, .bl false])) p2 (.lst (List.replicate 2 (.bl false) ++ [.bl false, .bl false]))) := S1.trans ((same_new nx2).trans ((same_new ny2).trans ((same_new nq2).trans (same_new np2))))
    have L2 : (upd (upd (upd (upd J1 x2 (ExO (.ref CBadNames) x2)) y2 (ExO (.ref CBadName) y2)) q2 (.lst [.bl false, .bl false])) p2 (.lst (List.replicate 2 (.bl false) ++ [.bl false, .bl false]))) p2 = some (.lst (List.replicate 4 (.bl false))) := upd_same
    revert S2 L2
    generalize (upd (upd (upd (upd J1 x2 (ExO (.ref CBadNames) x2)) y2 (ExO (.ref CBadName) y2)) q2 (.lst [.bl false, .bl false])) p2 (.lst (List.replicate 2 (.bl false) ++ [.bl false, .bl false]))) = J2
    intro S2 L2
    refine ⟨_, rfl, _, rfl, fun x3 nx3 => ⟨x3, CBadWords, .ref CBadWord, .ref CBadWord, false, rfl, .inl upd_same, PBadWords.ec, (fun _ z => z), r4, _, rfl, fun y3 ny3 => ⟨y3, CBadWord, .ref CBadWords, .ref CBadWords, false, rfl, .inl upd_same, PBadWord.ec, (fun _ z => z), r5, by show 2 ≤ sizeLine; decide, fun q3 nq3 => ⟨_, _, _, _, rfl, rfl, ((same_new nx3).trans ((same_new ny3).trans (same_new nq3))) _ _ L2, upd_same, ?_, fun p3 np3 => ?_⟩⟩⟩⟩
    · rw [List.length_replicate]
      show 6 ≤ sizeLine
      decide
    have S3 : Same H (upd (upd (upd (upd J2 x3 (ExO (.ref CBadWords) x3)) y3 (ExO (.ref CBadWord) y3)) q3 (.lst [.bl false, .bl false])) p3 (.lst (List.replicate 4 (.bl false) ++ [.bl false, .bl false]))) := S2.trans ((same_new nx3).trans ((same_new ny3).trans ((same_new nq3).trans (same_new np3))))
    have L3 : (upd (upd (upd (upd J2 x3 (ExO (.ref CBadWords) x3)) y3 (ExO (.ref CBadWord) y3)) q3 (.lst [.bl false, .bl false])) p3 (.lst (List.replicate 4 (.bl false) ++ [.bl false, .bl false]))) p3 = some (.lst (List.replicate 6 (.bl false))) := upd_same
    revert S3 L3
    generalize (upd (upd (upd (upd J2 x3 (ExO (.ref CBadWords) x3)) y3 (ExO (.ref CBadWord) y3)) q3 (.lst [.bl false, .bl false])) p3 (.lst (List.replicate 4 (.bl false) ++ [.bl false, .bl false]))) = J3
    intro S3 L3
    refine ⟨_, rfl, _, rfl, fun x4 nx4 => ⟨x4, CBadHead, .ref CBadProgram, .ref CBadProgram, false, rfl, .inl upd_same, PBadHead.ec, (fun _ z => z), r6, _, rfl, fun y4 ny4 => ⟨y4, CBadProgram, .ref CBadHead, .ref CBadHead, false, rfl, .inl upd_same, PBadProgram.ec, (fun _ z => z), r7, by show 2 ≤ sizeLine; decide, fun q4 nq4 => ⟨_, _, _, _, rfl, rfl, ((same_new nx4).trans ((same_new ny4).trans (same_new nq4))) _ _ L3, upd_same, ?_, fun p4 np4 => ?_⟩⟩⟩⟩
    · rw [List.length_replicate]
      show 8 ≤ sizeLine
      decide
    have S4 : Same H (upd (upd (upd (upd J3 x4 (ExO (.ref CBadHead) x4)) y4 (ExO (.ref CBadProgram) y4)) q4 (.lst [.bl false, .bl false])) p4 (.lst (List.replicate 6 (.bl false) ++ [.bl false, .bl false]))) := S3.trans ((same_new nx4).trans ((same_new ny4).trans ((same_new nq4).trans (same_new np4))))
    have L4 : (upd (upd (upd (upd J3 x4 (ExO (.ref CBadHead) x4)) y4 (ExO (.ref CBadProgram) y4)) q4 (.lst [.bl false, .bl false])) p4 (.lst (List.replicate 6 (.bl false) ++ [.bl false, .bl false]))) p4 = some (.lst (List.replicate 8 (.bl false))) := upd_same
    revert S4 L4
    generalize (upd (upd (upd (upd J3 x4 (ExO (.ref CBadHead) x4)) y4 (ExO (.ref CBadProgram) y4)) q4 (.lst [.bl false, .bl false])) p4 (.lst (List.replicate 6 (.bl false) ++ [.bl false, .bl false]))) = J4
    intro S4 L4
    refine ⟨_, rfl, _, rfl, fun x5 nx5 => ⟨x5, CBadMany, .ref CBadNumber, .ref CBadNumber, false, rfl, .inl upd_same, PBadMany.ec, (fun _ z => z), r8, _, rfl, fun y5 ny5 => ⟨y5, CBadNumber, .ref CBadMany, .ref CBadMany, false, rfl, .inl upd_same, PBadNumber.ec, (fun _ z => z), r9, by show 2 ≤ sizeLine; decide, fun q5 nq5 => ⟨_, _, _, _, rfl, rfl, ((same_new nx5).trans ((same_new ny5).trans (same_new nq5))) _ _ L4, upd_same, ?_, fun p5 np5 => ?_⟩⟩⟩⟩
    · rw [List.length_replicate]
      show 10 ≤ sizeLine
      decide
    have S5 : Same H (upd (upd (upd (upd J4 x5 (ExO (.ref CBadMany) x5)) y5 (ExO (.ref CBadNumber) y5)) q5 (.lst [.bl false, .bl false])) p5 (.lst (List.replicate 8 (.bl false) ++ [.bl false, .bl false]))) := S4.trans ((same_new nx5).trans ((same_new ny5).trans ((same_new nq5).trans (same_new np5))))
    have L5 : (upd (upd (upd (upd J4 x5 (ExO (.ref CBadMany) x5)) y5 (ExO (.ref CBadNumber) y5)) q5 (.lst [.bl false, .bl false])) p5 (.lst (List.replicate 8 (.bl false) ++ [.bl false, .bl false]))) p5 = some (.lst (List.replicate 10 (.bl false))) := upd_same
    revert S5 L5
    generalize (upd (upd (upd (upd J4 x5 (ExO (.ref CBadMany) x5)) y5 (ExO (.ref CBadNumber) y5)) q5 (.lst [.bl false, .bl false])) p5 (.lst (List.replicate 8 (.bl false) ++ [.bl false, .bl false]))) = J5
    intro S5 L5
    refine ⟨_, rfl, _, rfl, fun x6 nx6 => ⟨x6, CNoProgram, .ref CBadProgram, .ref CBadProgram, false, rfl, .inl upd_same, PNoProgram.ec, (fun _ z => z), r10, _, rfl, fun y6 ny6 => ⟨y6, CBadText, .ref BS, .ref BS, false, rfl, .inl upd_same, PBadText.ec, (fun _ z => z), r11, by show 2 ≤ sizeLine; decide, fun q6 nq6 => ⟨_, _, _, _, rfl, rfl, ((same_new nx6).trans ((same_new ny6).trans (same_new nq6))) _ _ L5, upd_same, ?_, fun p6 np6 => ?_⟩⟩⟩⟩
    · rw [List.length_replicate]
      show 12 ≤ sizeLine
      decide
    have S6 : Same H (upd (upd (upd (upd J5 x6 (ExO (.ref CNoProgram) x6)) y6 (ExO (.ref CBadText) y6)) q6 (.lst [.bl false, .bl false])) p6 (.lst (List.replicate 10 (.bl false) ++ [.bl false, .bl false]))) := S5.trans ((same_new nx6).trans ((same_new ny6).trans ((same_new nq6).trans (same_new np6))))
    have L6 : (upd (upd (upd (upd J5 x6 (ExO (.ref CNoProgram) x6)) y6 (ExO (.ref CBadText) y6)) q6 (.lst [.bl false, .bl false])) p6 (.lst (List.replicate 10 (.bl false) ++ [.bl false, .bl false]))) p6 = some (.lst (List.replicate 12 (.bl false))) := upd_same
    revert S6 L6
    generalize (upd (upd (upd (upd J5 x6 (ExO (.ref CNoProgram) x6)) y6 (ExO (.ref CBadText) y6)) q6 (.lst [.bl false, .bl false])) p6 (.lst (List.replicate 10 (.bl false) ++ [.bl false, .bl false]))) = J6
    intro S6 L6
    exact k J6 p6 12 S6 L6 (by decide)
end

/-! ### the three __init__ -/
/-- a value that an error is told with -/
def Fit : V → Prop
  | .str y => y.length ≤ 1000 ∧ PyData.canLay0 (.str y) = true
  | .int i => 0 ≤ i ∧ i ≤ 400
  | .non => True
  | _ => False
def spInit (C : Addr) (fld : Str) : Sp := fun vs H Q _ => ∃ (a : Addr) (v : V), vs = [.ref a, v] ∧ Fit v ∧ H a = some (exo a C none) ∧
  ∀ (dx : Addr), H dx = none → dx ≠ a → Q .non (upd (upd H dx (exd dx [(fld, v)])) a (exo a C (some dx)))
/-- what {v} gives of such a value -/
def shownV : V → Str
  | .str y => y
  | .int i => toString i
  | _ => "None"
theorem log2_small {i : Int} (h0 : 0 ≤ i) (h1 : i ≤ 400) : i.natAbs.log2 < 1920 := by
  have h2 : i.natAbs < 2 ^ 9 := by omega
  by_cases z : i.natAbs = 0
  · rw [z]
    decide
  · have := (Nat.log2_lt z).mpr h2
    omega
theorem digits_small {i : Int} (h0 : 0 ≤ i) (h1 : i ≤ 400) : (toString i : Str).length ≤ 1000 := by
  have q : ∀ n : Nat, n ≤ 400 → (toString (n : Int) : Str).length ≤ 1000 := by
    decide +kernel
  have := q i.toNat (by omega)
  rw [Int.toNat_of_nonneg h0] at this
  exact this
theorem fit_read {v : V} {i : Nat} {σ : St} {H : Hp} {Q : V → Hp → Prop} (hv : σ[i]? = some (some v)) (h : Fit v) (q : (shownV v).length ≤ 1000 → Q (.str (shownV v)) H) : tFmtN (tVar i) σ H Q := by
  refine ⟨v, hv, ?_⟩
  cases v with
  | str y =>
    have h' : y.length ≤ 1000 := h.1
    exact .inl ⟨y, rfl, by rw [sizeLine_eq]; omega, q h'⟩
  | int i =>
    obtain ⟨h0, h1⟩ : 0 ≤ i ∧ i ≤ 400 := h
    exact .inr (.inl ⟨i, rfl, log2_small h0 h1, q (digits_small h0 h1)⟩)
  | non => exact .inr (.inr ⟨rfl, q (by decide +kernel)⟩)
  | bl _ => exact h.elim
  | byt _ => exact h.elim
  | flt _ => exact h.elim
  | ref _ => exact h.elim
  | ty _ => exact h.elim
theorem str_app_len (x y : Str) : (x ++ y).length = x.length + y.length := by
  exact PySem.strLen_append x y
abbrev sInitB : Stmt := inClass (top 20) 0
abbrev sInitT : Stmt := inClass (top 30) 0
abbrev sInitU : Stmt := inClass (top 31) 0
section
variable {P : Program} {w : World} {K : PySem.W.Frag} {mg : Str → Option Value} {base : Heap} {HE TM BS UN fT fB fU : Addr}
theorem scIB : FnScope ["self", "at"] ["self", "at"] (defScope sInitB) := ⟨rfl, rfl, rfl, by decide +kernel, rfl, by decide +kernel, by decide +kernel⟩
theorem scIT : FnScope ["self", "most"] ["self", "most"] (defScope sInitT) := ⟨rfl, rfl, rfl, by decide +kernel, rfl, by decide +kernel, by decide +kernel⟩
theorem scIU : FnScope ["self", "letter"] ["self", "letter"] (defScope sInitU) := ⟨rfl, rfl, rfl, by decide +kernel, rfl, by decide +kernel, by decide +kernel⟩
theorem ok_initB {f : Addr} {fd : FuncData} (F : Fun K "__init__" "BadSigns.__init__" sInitB f fd) (gH : mg "HeadError" = some (.ref HE)) (bH : BasC K HE) (C : FlC K mg "BadSigns" "at" BS fB) : FnOk P w K mg base CX0 1 f fd ["self", "at"] (spInit BS "at") := by
  refine F.ok scIB (fun vs H Q E h => ?_) (fun cdv A outer s H vs Q E hr h => ?_)
  · obtain ⟨a, v, rfl, _⟩ := h
    rfl
  · obtain ⟨a, v, rfl, fit, ha, k⟩ := h
    refine ⟨_, pss_cons (ps_expr (pe_clsinit bH rfl gH (by exact (pa_cons (pv 0) (pa_cons (pe_joined (.cons pe_str (.cons (pe_fmtN (pv 1)) (.cons pe_str .nil)))) pa_nil)))))
      (pss_one (ps_ost (pv 0) (pv 1))), ?_⟩
    refine ⟨_, rfl, _, rfl, by decide +kernel, fit_read rfl fit fun hz => ⟨_, rfl, ?_, _, rfl, ?_, ?_⟩⟩
    · rw [str_app_len, sizeLine_eq]
      have : (Str.empty ++ Str.ofString "no right wording from the sign ").length ≤ 100 := by decide +kernel
      omega
    · rw [str_app_len, str_app_len, sizeLine_eq]
      have : (Str.empty ++ Str.ofString "no right wording from the sign ").length ≤ 100 := by decide +kernel
      have : (Str.ofString " on").length ≤ 100 := by decide +kernel
      omega
    · refine ⟨a, BS, _, rfl, by show 1 ≤ 1000; decide, C.ox, ha, ?_⟩
      exact ⟨_, rfl, _, rfl, a, BS, rfl, C.ox, C.no, .inl ⟨ha, fun dx h1 h2 => k dx h1 h2⟩⟩
theorem ok_initT {f : Addr} {fd : FuncData} (F : Fun K "__init__" "TooMany.__init__" sInitT f fd) (gH : mg "HeadError" = some (.ref HE)) (bH : BasC K HE) (C : FlC K mg "TooMany" "most" TM fT) : FnOk P w K mg base CX0 1 f fd ["self", "most"] (spInit TM "most") := by
  refine F.ok scIT (fun vs H Q E h => ?_) (fun cdv A outer s H vs Q E hr h => ?_)
  · obtain ⟨a, v, rfl, _⟩ := h
    rfl
  · obtain ⟨a, v, rfl, fit, ha, k⟩ := h
    refine ⟨_, pss_cons (ps_expr (pe_clsinit bH rfl gH (by exact (pa_cons (pv 0) (pa_cons (pe_joined (.cons pe_str (.cons (pe_fmtN (pv 1)) .nil))) pa_nil)))))
      (pss_one (ps_ost (pv 0) (pv 1))), ?_⟩
    refine ⟨_, rfl, _, rfl, by decide +kernel, fit_read rfl fit fun hz => ⟨_, rfl, ?_, ?_⟩⟩
    · rw [str_app_len, sizeLine_eq]
      have : (Str.empty ++ Str.ofString "more than ").length ≤ 100 := by decide +kernel
      omega
    · refine ⟨a, TM, _, rfl, by show 1 ≤ 1000; decide, C.ox, ha, ?_⟩
      exact ⟨_, rfl, _, rfl, a, TM, rfl, C.ox, C.no, .inl ⟨ha, fun dx h1 h2 => k dx h1 h2⟩⟩
theorem ok_initU {f : Addr} {fd : FuncData} (F : Fun K "__init__" "Unread.__init__" sInitU f fd) (gH : mg "HeadError" = some (.ref HE)) (bH : BasC K HE) (C : FlC K mg "Unread" "letter" UN fU) : FnOk P w K mg base CX0 1 f fd ["self", "letter"] (spInit UN "letter") := by
  refine F.ok scIU (fun vs H Q E h => ?_) (fun cdv A outer s H vs Q E hr h => ?_)
  · obtain ⟨a, v, rfl, _⟩ := h
    rfl
  · obtain ⟨a, v, rfl, fit, ha, k⟩ := h
    refine ⟨_, pss_cons (ps_expr (pe_clsinit bH rfl gH (by exact (pa_cons (pv 0) (pa_cons (pe_joined (.cons pe_str (.cons (pe_fmtN (pv 1)) (.cons pe_str .nil)))) pa_nil)))))
      (pss_one (ps_ost (pv 0) (pv 1))), ?_⟩
    refine ⟨_, rfl, _, rfl, by decide +kernel, fit_read rfl fit fun hz => ⟨_, rfl, ?_, _, rfl, ?_, ?_⟩⟩
    · rw [str_app_len, sizeLine_eq]
      have : (Str.empty ++ Str.ofString "the letter ").length ≤ 100 := by decide +kernel
      omega
    · rw [str_app_len, str_app_len, sizeLine_eq]
      have : (Str.empty ++ Str.ofString "the letter ").length ≤ 100 := by decide +kernel
      have : (Str.ofString " is not read").length ≤ 100 := by decide +kernel
      omega
    · refine ⟨a, UN, _, rfl, by show 1 ≤ 1000; decide, C.ox, ha, ?_⟩
      exact ⟨_, rfl, _, rfl, a, UN, rfl, C.ox, C.no, .inl ⟨ha, fun dx h1 h2 => k dx h1 h2⟩⟩

/-! ### the law -/
abbrev sLaw : Stmt := top 39
def spLaw (K : PySem.W.Frag) : Sp := fun vs H Q _ => ∃ (a : Addr) (ns : List Int), vs = [.ref a] ∧ SqL K H a (ns.map V.int) ∧ ns.length ≤ 63 ∧ ∀ H', Q (.bl true) H'
theorem scL : FnScope ["script", "state", "word", "error", "n"] ["script"] (defScope sLaw) := ⟨rfl, rfl, rfl, by decide +kernel, rfl, by decide +kernel, by decide +kernel⟩
/-- what is known of a def of the top -/
structure Def (P : Program) (w : World) (K : PySem.W.Frag) (mg : Str → Option Value) (base : Heap) (k : Nat) (x : Str) (ps : List Str) (sp : Sp) (f : Addr) (fd : FuncData) : Prop where
  ok : FnOk P w K mg base CX0 k f fd ps sp
  gf : mg x = some (.ref f)
  kf : PySem.W.keepIn K (.ref f) = true
  bf : Binds K fd ps []
theorem word_at {i : Nat} {v : V} (h : ([V.str "no", V.str "why", V.str "x y", V.str ""] : List V)[i]? = some v) : Fit v := by
  match i, h with
  | 0, h => cases h; exact ⟨by decide +kernel, by decide +kernel⟩
  | 1, h => cases h; exact ⟨by decide +kernel, by decide +kernel⟩
  | 2, h => cases h; exact ⟨by decide +kernel, by decide +kernel⟩
  | 3, h => cases h; exact ⟨by decide +kernel, by decide +kernel⟩
  | n + 4, h => simp at h
theorem num_at {i : Nat} {v : V} (h : ([V.int 0, V.int 1, V.int 7, V.int 400, V.non] : List V)[i]? = some v) : Fit v := by
  match i, h with
  | 0, h => cases h; exact ⟨by decide, by decide⟩
  | 1, h => cases h; exact ⟨by decide, by decide⟩
  | 2, h => cases h; exact ⟨by decide, by decide⟩
  | 3, h => cases h; exact ⟨by decide, by decide⟩
  | 4, h => cases h; exact trivial
  | n + 5, h => simp at h
theorem exc_facts {C : Addr} {fld : Str} {v : V} {H : Hp} {a dx : Addr} (ha : H a = none) (h1 : (upd H a (exo a C none)) dx = none) (h2 : dx ≠ a) :
    Same H (upd (upd (upd H a (exo a C none)) dx (exd dx [(fld, v)])) a (exo a C (some dx))) ∧
    (upd (upd (upd H a (exo a C none)) dx (exd dx [(fld, v)])) a (exo a C (some dx))) a = some (exo a C (some dx)) ∧
    (upd (upd (upd H a (exo a C none)) dx (exd dx [(fld, v)])) a (exo a C (some dx))) dx = some (exd dx [(fld, v)]) := by
  refine ⟨fun b o e => ?_, upd_same, by rw [upd_ne h2, upd_same]⟩
  have hb : b ≠ a := ne_of_none e ha
  have hx : H dx = none := by rw [← h1, upd_ne h2]
  rw [upd_ne hb, upd_ne (ne_of_none e hx), upd_ne hb]
  exact e
theorem look1 (fld : Str) (v : V) : ([(fld, v)] : List (Str × V)).lookup fld = some v := by simp [List.lookup]
theorem not_in_false (n : Nat) : inV (.bl true) (List.replicate n (.bl false)) = false := by
  unfold inV
  rw [List.any_eq_false]
  intro x hx
  rw [List.eq_of_mem_replicate hx]
  decide
theorem flats (n : Nat) : (List.replicate n (V.bl false)).all flatV = true := by
  rw [List.all_eq_true]
  intro x hx
  rw [List.eq_of_mem_replicate hx]
  rfl
theorem Fit.data {v : V} (h : Fit v) (K : PySem.W.Frag) : ∃ d, (∀ H, Dp K H v d) ∧ SeqAt.shaped d = true ∧ PyData.eqv d d = true := by
  cases v with
  | str y =>
    refine ⟨_, fun _ => .str y, ?_, SeqAt.eqv_refl _ h.2⟩
    unfold SeqAt.shaped
    rw [h.2]
    simp only [PyData.depth]
    rfl
  | int i => exact ⟨_, fun _ => .int i, by unfold SeqAt.shaped; simp only [PyData.depth, PyData.canLay0]; rfl, by simp [PyData.eqv]⟩
  | non => exact ⟨_, fun _ => .non, by decide +kernel, by decide +kernel⟩
  | bl _ => exact h.elim
  | byt _ => exact h.elim
  | flt _ => exact h.elim
  | ref _ => exact h.elim
  | ty _ => exact h.elim
theorem ok_law {f f1 f2 f3 f4 : Addr} {fd fd1 fd2 fd3 fd4 fdT fdB fdU : FuncData} (F : Fun K "law" "law" sLaw f fd) (T : Txt K mg HE TM BS UN fT fB fU)
    (D1 : Def P w K mg base 1 "_law_begun" ["script"] (spBegun K) f1 fd1) (D2 : Def P w K mg base 3 "_law_pick" ["state", "some"] (spPick K) f2 fd2) (D3 : Def P w K mg base 1 "_law_plain" ["word"] (spPlain K HE TM) f3 fd3)
    (D4 : Def P w K mg base 1 "_law_beneath" ["word"] spBeneath f4 fd4) (IT : FnOk P w K mg base CX0 1 fT fdT ["self", "most"] (spInit TM "most")) (bT : Binds K fdT ["self", "most"] []) (IB : FnOk P w K mg base CX0 1 fB fdB ["self", "at"] (spInit BS "at")) (bB : Binds K fdB ["self", "at"] [])
    (IU : FnOk P w K mg base CX0 1 fU fdU ["self", "letter"] (spInit UN "letter")) (bU : Binds K fdU ["self", "letter"] [])
    (kT : ∀ (s : Shared) (a : Addr) (ws : List Value), K.In s.heap → ws.length = 1 → BindsTo s fdT ⟨[.ref a], (["most"] : List Str).zip ws⟩ ((["self", "most"] : List Str).zip (.ref a :: ws)))
    (kB : ∀ (s : Shared) (a : Addr) (ws : List Value), K.In s.heap → ws.length = 1 → BindsTo s fdB ⟨[.ref a], (["at"] : List Str).zip ws⟩ ((["self", "at"] : List Str).zip (.ref a :: ws)))
    (kU : ∀ (s : Shared) (a : Addr) (ws : List Value), K.In s.heap → ws.length = 1 → BindsTo s fdU ⟨[.ref a], (["letter"] : List Str).zip ws⟩ ((["self", "letter"] : List Str).zip (.ref a :: ws))) :
    FnOk P w K mg base CX0 5 f fd ["script"] (spLaw K) := by
  refine F.ok scL (fun vs H Q E h => ?_) (fun cdv A outer s H vs Q E hr h => ?_)
  · obtain ⟨a, ns, rfl, _⟩ := h
    rfl
  · obtain ⟨a, ns, rfl, hS, hlen, k⟩ := h
    have hr1 : Room 1 _ := hr.mono (by decide)
    have hr2 : Room 2 _ := hr.mono (by decide)
    have hr3 : Room 3 _ := hr.mono (by decide)
    have bit : ∀ {e : Expr} {te : TE} {c : Expr} {tc : TE} {X : Cx} {pos p2 : Pos} (he : PE X e te) (hc : PE X c tc), X.mg = mg → True := fun _ _ _ => trivial
    refine ⟨_, pss_cons (ps_set (i := 1) scL.nd rfl (Or.inl rfl) (pe_call D1.ok hr1 rfl D1.gf D1.kf D1.bf .nil pass0 (pa_cons (pv 0) pa_nil)))
      (pss_cons (ps_set (i := 2) scL.nd rfl (Or.inl rfl) (pe_call D2.ok hr3 rfl D2.gf D2.kf D2.bf .nil pass0 (pa_cons (pv 1) (pa_cons (pe_lst (pa_cons pe_str (pa_cons pe_str (pa_cons pe_str (pa_cons pe_str pa_nil))))) pa_nil))))
      (pss_cons (ps_for PassesOwn.never rfl (pi_list (pe_call D3.ok hr1 rfl D3.gf D3.kf D3.bf .nil pass0 (pa_cons (pv 2) pa_nil))) (pg_name (i := 3) scL.nd rfl (Or.inl rfl))
        (pss_one (ps_if (PW.pt (pw_or (pt_not (pt_val (by exact (pe_callB call_isV (by rfl) T.isi (by decide +kernel) (pa_cons (pv 3) (pa_cons (pe_bltn (v := .ty "ValueError") rfl T.ve (by decide +kernel) rfl) pa_nil))))))
          (pw_or (pt_not (pt_val (by exact (pe_callB call_isV (by rfl) T.isi (by decide +kernel) (pa_cons (pv 3) (pa_cons (pe_cls T.gH) pa_nil))))))
          (pw_or1 (pt_val (by exact (pe_callB call_isV (by rfl) T.isi (by decide +kernel) (pa_cons (pv 3) (pa_cons (pe_cls T.tm.gC) pa_nil))))))))) (pss_one (ps_ret pe_bl)) pss_nil)))
      (pss_cons (ps_if (pt_cmpR op_in_seq pe_bl (pe_call D4.ok hr1 rfl D4.gf D4.kf D4.bf .nil pass0 (pa_cons (pv 2) pa_nil)) (by rfl)) (pss_one (ps_ret pe_bl)) pss_nil)
      (pss_cons (ps_set (i := 4) scL.nd rfl (Or.inl rfl) (pe_call D2.ok hr3 rfl D2.gf D2.kf D2.bf .nil pass0 (pa_cons (pv 1) (pa_cons (pe_lst (pa_cons pe_int (pa_cons pe_int (pa_cons pe_int (pa_cons pe_int (pa_cons pe_non pa_nil)))))) pa_nil))))
      (pss_cons (ps_if (PW.pt (pw_or (pt_cmpR (op_neD hr.units) (by exact (pe_xfV (pe_excV T.bs.ox T.bs.iC T.bs.tI IB hr2 bB pass0 rfl T.bs.gC (pa_cons (pv 4) pa_nil)))) (pv 4) (nomark _))
          (pw_or (pt_cmpR (op_neD hr.units) (by exact (pe_xfV (pe_excK (ks := ["most"]) (g := fun ws => ws) (gV := fun zs => zs) T.tm.ox T.tm.iC T.tm.tI IT hr2 pass0 rfl T.tm.gC (pk_cons (pv 4) pk_nil) kT (fun r => r)))) (pv 4) (nomark _))
          (pw_or1 (pt_val (by exact (pe_callB call_isV (by rfl) T.isi (by decide +kernel) (pa_cons (pe_excV T.tm.ox T.tm.iC T.tm.tI IT hr2 bT pass0 rfl T.tm.gC (pa_cons (pv 4) pa_nil)) (pa_cons (pe_cls T.bs.gC) pa_nil))))))))) (pss_one (ps_ret pe_bl)) pss_nil)
      (pss_cons (ps_for PassesOwn.never rfl (pi_list (pe_lst (pa_cons (by exact (pe_excV T.un.ox T.un.iC T.un.tI IU hr2 bU pass0 rfl T.un.gC (pa_cons (pv 2) pa_nil))) (pa_cons (by exact (pe_excK (ks := ["letter"]) (g := fun ws => ws) (gV := fun zs => zs) T.un.ox T.un.iC T.un.tI IU hr2 pass0 rfl T.un.gC (pk_cons (pv 2) pk_nil) kU (fun r => r))) pa_nil)))) (pg_name (i := 3) scL.nd rfl (Or.inl rfl))
        (pss_one (ps_if (PW.pt (pw_or (pt_cmpR (op_neD hr.units) (by exact (pe_xfV (pv 3))) (pv 2) (nomark _))
          (pw_or (pt_not (pt_val (by exact (pe_callB call_isV (by rfl) T.isi (by decide +kernel) (pa_cons (pv 3) (pa_cons (pe_cls T.gH) pa_nil))))))
          (pw_or1 (pt_val (by exact (pe_callB call_isV (by rfl) T.isi (by decide +kernel) (pa_cons (pv 3) (pa_cons (pe_cls T.tm.gC) pa_nil))))))))) (pss_one (ps_ret pe_bl)) pss_nil)))
      (pss_one (ps_ret (pe_and (by exact (pe_callB call_isV (by rfl) T.isi (by decide +kernel) (pa_cons (pe_excV T.tm.ox T.tm.iC T.tm.tI IT hr2 bT pass0 rfl T.tm.gC (pa_cons (pv 4) pa_nil)) (pa_cons (pe_cls T.gH) pa_nil))))
        (pe_one (by exact (pe_callB call_isV (by rfl) T.isi (by decide +kernel) (pa_cons (pe_excK (ks := ["at"]) (g := fun ws => ws) (gV := fun zs => zs) T.bs.ox T.bs.iC T.bs.tI IB hr2 pass0 rfl T.bs.gC (pk_cons (pv 4) pk_nil) kB (fun r => r)) (pa_cons (pe_cls T.gH) pa_nil)))))))))))))), ?_⟩
    -- state, word
    refine ⟨_, rfl, a, ns, rfl, hS, hlen, fun H1 d g c S1 hd hg hc D0 => ?_⟩
    refine ⟨_, rfl, by show 4 ≤ sizeLine; decide, fun l0 n0 => ?_⟩
    have S2 : Same H1 (upd H1 l0 (.lst [.str "no", .str "why", .str "x y", .str ""])) := same_new n0
    have D1' : DrawSt (upd H1 l0 (.lst [.str "no", .str "why", .str "x y", .str ""])) d g c 0 := D0.same S2
    refine ⟨d, g, c, l0, 0, _, rfl, D1', by decide, upd_same, (D0.ne n0).2.1, by simp, by show 4 < 1073741824; decide, fun H2 i v hv D2' K2 => ?_⟩
    have fw := word_at hv
    have SH : Same H H1 := S1
    -- for error in _law_plain(word)
    refine ⟨_, rfl, _, rfl, fun H3 l3 as3 S3 L3 E3 z3 => ⟨l3, rfl, ⟨_, SqL.of L3⟩, ?_⟩⟩
    refine for_list (K := K) (a := l3) (xs := as3.map V.ref) (fun i σ H' => H3 = H' ∧ ∃ v3 : Option V, σ = [some (.ref a), some (.ref d), some v, v3, none]) ⟨rfl, none, rfl⟩ (fun i σ H' _ ⟨e, _⟩ => by subst e; exact SqL.of L3) ?_ ?_
    · rintro i x σ H' hx ⟨rfl, v3, rfl⟩
      obtain ⟨b, hb, rfl⟩ : ∃ b, b ∈ as3 ∧ x = V.ref b := by
        rw [List.getElem?_map] at hx
        cases q : as3[i]? with
        | none => rw [q] at hx; cases hx
        | some b => rw [q] at hx; exact ⟨b, List.mem_of_getElem? q, (Option.some.inj hx).symm⟩
      obtain ⟨C, ⟨g1, g2, g3, g4⟩, e⟩ := E3 b hb
      refine ⟨_, rfl, b, C, _, _, _, rfl, .inl e, g1, (fun _ z => z), g2, _, rfl, ?_⟩
      refine iteF ?_
      refine ⟨_, rfl, b, C, _, _, _, rfl, .inl e, g1, (fun _ z => z), g3, _, rfl, ?_⟩
      refine iteF ?_
      refine ⟨_, rfl, b, C, _, _, _, rfl, .inl e, g1, (fun _ z => z), g4, _, rfl, ?_⟩
      refine iteF ?_
      exact ⟨rfl, _, rfl⟩
    · rintro σ H' ⟨rfl, v3, rfl⟩
      -- if True in _law_beneath(word)
      refine ⟨_, rfl, _, rfl, fun H4 l4 n4 S4 L4 z4 => ⟨l4, _, rfl, .inl (SqL.of L4), rfl, flats n4, _, rfl, ?_⟩⟩
      rw [if_neg Bool.false_ne_true, not_in_false]
      refine iteF ?_
      -- n
      refine ⟨_, rfl, by show 5 ≤ sizeLine; decide, fun l5 n5 => ?_⟩
      have D4' : DrawSt H4 d g c 1 := (D2'.same S3).same S4
      refine ⟨d, g, c, l5, 1, _, rfl, D4'.same (same_new n5), by decide, upd_same, (D4'.ne n5).2.1, by simp, by show 5 < 1073741824; decide, fun H6 i6 n hn D6 K6 => ?_⟩
      have fn := num_at hn
      obtain ⟨dn, q1, q2, q3⟩ := fn.data K
      refine ⟨_, rfl, by show 1 ≤ 1000; decide, fun a1 ha1 => ⟨a1, n, rfl, fn, upd_same, fun x1 hx1 hy1 => ⟨rfl, ?_⟩⟩⟩
      obtain ⟨s1, e1, k1⟩ := exc_facts (fld := "at") (v := n) ha1 hx1 hy1
      revert s1 e1 k1
      generalize (upd (upd (upd H6 a1 (exo a1 BS none)) x1 (exd x1 [("at", n)])) a1 (exo a1 BS (some x1))) = J1
      intro s1 e1 k1
      refine ⟨a1, BS, x1, _, n, rfl, T.bs.xf, T.bs.no, e1, k1, look1 _ _, _, rfl, dn, dn, q1 _, q1 _, q2, q2, _, rfl, ?_⟩
      rw [q3]
      refine iteF ?_
      refine ⟨_, rfl, rfl, fun a2 ha2 => ⟨a2, n, rfl, fn, upd_same, fun x2 hx2 hy2 => ⟨rfl, ?_⟩⟩⟩
      obtain ⟨s2, e2, k2⟩ := exc_facts (fld := "most") (v := n) ha2 hx2 hy2
      revert s2 e2 k2
      generalize (upd (upd (upd J1 a2 (exo a2 TM none)) x2 (exd x2 [("most", n)])) a2 (exo a2 TM (some x2))) = J2
      intro s2 e2 k2
      refine ⟨a2, TM, x2, _, n, rfl, T.tm.xf, T.tm.no, e2, k2, look1 _ _, _, rfl, dn, dn, q1 _, q1 _, q2, q2, _, rfl, ?_⟩
      rw [q3]
      refine iteF ?_
      refine ⟨_, rfl, by show 1 ≤ 1000; decide, fun a3 ha3 => ⟨a3, n, rfl, fn, upd_same, fun x3 hx3 hy3 => ⟨rfl, ?_⟩⟩⟩
      obtain ⟨s3, e3, k3⟩ := exc_facts (fld := "most") (v := n) ha3 hx3 hy3
      revert s3 e3 k3
      generalize (upd (upd (upd J2 a3 (exo a3 TM none)) x3 (exd x3 [("most", n)])) a3 (exo a3 TM (some x3))) = J3
      intro s3 e3 k3
      refine ⟨a3, TM, _, _, _, rfl, .inr ⟨x3, _, e3, k3⟩, T.tm.ec, (fun _ z => z), T.w1, _, rfl, ?_⟩
      refine iteF ?_
      -- for error in [Unread(word), Unread(letter=word)]
      refine ⟨_, rfl, by show 1 ≤ 1000; decide, fun a4 ha4 => ⟨a4, v, rfl, fw, upd_same, fun x4 hx4 hy4 => ⟨rfl, ?_⟩⟩⟩
      obtain ⟨s4, e4, k4⟩ := exc_facts (fld := "letter") (v := v) ha4 hx4 hy4
      revert s4 e4 k4
      generalize (upd (upd (upd J3 a4 (exo a4 UN none)) x4 (exd x4 [("letter", v)])) a4 (exo a4 UN (some x4))) = J4
      intro s4 e4 k4
      refine ⟨_, rfl, rfl, fun a5 ha5 => ⟨a5, v, rfl, fw, upd_same, fun x5 hx5 hy5 => ⟨rfl, ?_⟩⟩⟩
      obtain ⟨s5, e5, k5⟩ := exc_facts (fld := "letter") (v := v) ha5 hx5 hy5
      revert s5 e5 k5
      generalize (upd (upd (upd J4 a5 (exo a5 UN none)) x5 (exd x5 [("letter", v)])) a5 (exo a5 UN (some x5))) = J5
      intro s5 e5 k5
      refine ⟨by show 2 ≤ sizeLine; decide, fun l6 n6 => ⟨l6, rfl, ⟨_, SqL.of upd_same⟩, ?_⟩⟩
      obtain ⟨dw, w1, w2, w3⟩ := fw.data K
      have S45 : Same J5 (upd J5 l6 (.lst [.ref a4, .ref a5])) := same_new n6
      have U4 : (upd J5 l6 (.lst [.ref a4, .ref a5])) a4 = some (exo a4 UN (some x4)) ∧ (upd J5 l6 (.lst [.ref a4, .ref a5])) x4 = some (exd x4 [("letter", v)]) := ⟨S45 _ _ (s5 _ _ e4), S45 _ _ (s5 _ _ k4)⟩
      have U5 : (upd J5 l6 (.lst [.ref a4, .ref a5])) a5 = some (exo a5 UN (some x5)) ∧ (upd J5 l6 (.lst [.ref a4, .ref a5])) x5 = some (exd x5 [("letter", v)]) := ⟨S45 _ _ e5, S45 _ _ k5⟩
      have L6 : (upd J5 l6 (.lst [.ref a4, .ref a5])) l6 = some (.lst [.ref a4, .ref a5]) := upd_same
      revert U4 U5 L6
      generalize upd J5 l6 (.lst [.ref a4, .ref a5]) = J6
      intro U4 U5 L6
      refine for_list (K := K) (a := l6) (xs := [.ref a4, .ref a5]) (fun i σ H' => J6 = H' ∧ ∃ v3 : Option V, σ = [some (.ref a), some (.ref d), some v, v3, some n]) ⟨rfl, v3, rfl⟩ (fun i σ H' _ ⟨e, _⟩ => by subst e; exact SqL.of L6) ?_ ?_
      · rintro i x σ H' hx ⟨rfl, v3, rfl⟩
        obtain ⟨b, bx, rfl, hb, hbx⟩ : ∃ b bx, x = V.ref b ∧ J6 b = some (exo b UN (some bx)) ∧ J6 bx = some (exd bx [("letter", v)]) := by
          match i, hx with
          | 0, hx => cases hx; exact ⟨a4, x4, rfl, U4.1, U4.2⟩
          | 1, hx => cases hx; exact ⟨a5, x5, rfl, U5.1, U5.2⟩
          | n + 2, hx => simp at hx
        refine ⟨_, rfl, b, UN, bx, _, v, rfl, T.un.xf, T.un.no, hb, hbx, look1 _ _, _, rfl, dw, dw, w1 _, w1 _, w2, w2, _, rfl, ?_⟩
        rw [w3]
        refine iteF ?_
        refine ⟨_, rfl, b, UN, _, _, _, rfl, .inr ⟨bx, _, hb, hbx⟩, T.un.ec, (fun _ z => z), T.w4, _, rfl, ?_⟩
        refine iteF ?_
        refine ⟨_, rfl, b, UN, _, _, _, rfl, .inr ⟨bx, _, hb, hbx⟩, T.un.ec, (fun _ z => z), T.w5, _, rfl, ?_⟩
        refine iteF ?_
        exact ⟨rfl, _, rfl⟩
      · rintro σ H' ⟨rfl, v3, rfl⟩
        refine ⟨_, rfl, by show 1 ≤ 1000; decide, fun a7 ha7 => ⟨a7, n, rfl, fn, upd_same, fun x7 hx7 hy7 => ⟨rfl, ?_⟩⟩⟩
        obtain ⟨s7, e7, k7⟩ := exc_facts (fld := "most") (v := n) ha7 hx7 hy7
        revert s7 e7 k7
        generalize (upd (upd (upd J6 a7 (exo a7 TM none)) x7 (exd x7 [("most", n)])) a7 (exo a7 TM (some x7))) = J7
        intro s7 e7 k7
        refine ⟨a7, TM, _, _, _, rfl, .inr ⟨x7, _, e7, k7⟩, T.tm.ec, (fun _ z => z), T.w2, _, rfl, ?_⟩
        refine iteT ?_
        refine ⟨_, rfl, rfl, fun a8 ha8 => ⟨a8, n, rfl, fn, upd_same, fun x8 hx8 hy8 => ⟨rfl, ?_⟩⟩⟩
        obtain ⟨s8, e8, k8⟩ := exc_facts (fld := "at") (v := n) ha8 hx8 hy8
        revert s8 e8 k8
        generalize (upd (upd (upd J7 a8 (exo a8 BS none)) x8 (exd x8 [("at", n)])) a8 (exo a8 BS (some x8))) = J8
        intro s8 e8 k8
        refine ⟨a8, BS, _, _, _, rfl, .inr ⟨x8, _, e8, k8⟩, T.bs.ec, (fun _ z => z), T.w3, ?_⟩
        exact k _
end
end My

set_option Elab.async false
set_option linter.all false
set_option maxRecDepth 100000
set_option maxHeartbeats 4000000
namespace My
open PySem L2

/-! ### the end -/
open PySem.W in
def ecB (K : Frag) (D : Addr) : Bool :=
  decide (findIn K (.ref D) "__getattribute__" = some (some (.builtin "BaseException.__getattribute__"))) && (decide (findIn K (.ref D) "__getattr__" = some none) && (decide (subIn K (.ref D) (.type "BaseException") = some true) &&
    (hasDictIn K D && (decide (findIn K (.ref D) "__class__" = some (some (.builtin "object.__class__"))) && (decide (specialIn K (.builtin "object.__class__") "__get__" = some (some (.builtin "getset_descriptor.__get__"))) &&
    (decide (takesIn K (.builtin "object.__class__") = some true) && decide (mroIn K D (.type "object") = some true)))))))
theorem ecB_ok {K : PySem.W.Frag} {D : Addr} (h : ecB K D = true) : ExcC K D := by
  unfold ecB at h
  simp only [Bool.and_eq_true, decide_eq_true_eq] at h
  obtain ⟨h1, h2, h3, h4, h5, h6, h7, h8⟩ := h
  exact ⟨h1, h2, h3, h4, h5, h6, h7, h8⟩
open PySem.W in
def plB (K : Frag) (HE TM C : Addr) : Bool :=
  keepIn K (.ref C) && (excIn K C bmVE "ValueError.__new__" && (ecB K C && (decide (kitOne K (.ref C) (.type "ValueError") = some true) && (decide (kitOne K (.ref C) (.ref HE) = some true) && decide (kitOne K (.ref C) (.ref TM) = some false)))))
theorem plB_ok {K : PySem.W.Frag} {mg : Str → Option Value} {HE TM C : Addr} {x : Str} (g : mg x = some (.ref C)) (h : plB K HE TM C = true) : PlC K mg HE TM x C := by
  unfold plB at h
  simp only [Bool.and_eq_true, decide_eq_true_eq] at h
  obtain ⟨h1, h2, h3, h4, h5, h6⟩ := h
  exact ⟨g, h1, h2, ecB_ok h3, h4, h5, h6⟩
def prB (K : PySem.W.Frag) (C D : Addr) (b : Bool) : Bool := decide (PySem.W.kitOne K (.ref C) (.ref D) = some b)
theorem prB_ok {K : PySem.W.Frag} {C D : Addr} {b : Bool} (h : prB K C D b = true) : PySem.W.kitOne K (.ref C) (.ref D) = some b := of_decide_eq_true h

theorem all_mk {l : PySem.W.OpenLaw} {w : World} {K : PySem.W.Frag} {h : Heap} {mg : Str → Option Value} {fa HE TM BS UN fT fB fU CBadBare CBadBoxes CBadEnd CBadHead CBadJournal CBadKind CBadKinds CBadLetter CBadLine CBadMachine CBadMany CBadName CBadNames CBadNumber CBadPath CBadPattern CBadProgram CBadShape CBadSurroundings CBadTable CBadTerm CBadText CBadWhich CBadWord CBadWords CNoProgram COtherLetters f_begun f_blended f_draw f_pick f_plain f_beneath f_law : Addr} (X : K.In h) (G : h.Ns mainGlobals mg) (hfa : mg "law" = some (.ref fa))
    {od0 od1 od2 od3 od4 od5 od6 od7 od8 od9 an0 an1 an2 an3 an4 an5 an6 an7 an8 an9 : Option Addr} {sl0 sl1 sl2 sl3 sl4 sl5 sl6 sl7 sl8 sl9 : Array (Option Value)} {oc0 oc1 oc2 oc3 oc4 oc5 oc6 oc7 oc8 oc9 kV0 kV1 kV2 kV3 kV4 kV5 kV6 kV7 kV8 kV9 dc0 dc1 dc2 dc3 dc4 dc5 dc6 dc7 dc8 dc9 pm0 pm1 pm2 pm3 pm4 pm5 pm6 pm7 pm8 pm9 cd0 cd1 cd2 cd3 cd4 cd5 cd6 cd7 cd8 cd9 ct0 ct1 ct2 ct3 ct4 ct5 ct6 ct7 ct8 ct9 : Value}
    {nm7 nm8 nm9 q7 q8 q9 : Str} {N7 N8 N9 : Addr} {bs7 bs8 bs9 sub7 sub8 sub9 : List Value} {sn7 sn8 sn9 : List Str} {ab7 ab8 ab9 : Bool} {col7 col8 col9 : Option Bool} {dd7 dd8 dd9 : Option Addr} {m07 m08 m09 m17 m18 m19 m27 m28 m29 m37 m38 m39 m57 m58 m59 : Option Value}
    (aBadBare : PySem.W.nsIn K mainGlobals "BadBare" = some (some (.ref CBadBare)))
    (aBadBoxes : PySem.W.nsIn K mainGlobals "BadBoxes" = some (some (.ref CBadBoxes)))
    (aBadEnd : PySem.W.nsIn K mainGlobals "BadEnd" = some (some (.ref CBadEnd)))
    (aBadHead : PySem.W.nsIn K mainGlobals "BadHead" = some (some (.ref CBadHead)))
    (aBadJournal : PySem.W.nsIn K mainGlobals "BadJournal" = some (some (.ref CBadJournal)))
    (aBadKind : PySem.W.nsIn K mainGlobals "BadKind" = some (some (.ref CBadKind)))
    (aBadKinds : PySem.W.nsIn K mainGlobals "BadKinds" = some (some (.ref CBadKinds)))
    (aBadLetter : PySem.W.nsIn K mainGlobals "BadLetter" = some (some (.ref CBadLetter)))
    (aBadLine : PySem.W.nsIn K mainGlobals "BadLine" = some (some (.ref CBadLine)))
    (aBadMachine : PySem.W.nsIn K mainGlobals "BadMachine" = some (some (.ref CBadMachine)))
    (aBadMany : PySem.W.nsIn K mainGlobals "BadMany" = some (some (.ref CBadMany)))
    (aBadName : PySem.W.nsIn K mainGlobals "BadName" = some (some (.ref CBadName)))
    (aBadNames : PySem.W.nsIn K mainGlobals "BadNames" = some (some (.ref CBadNames)))
    (aBadNumber : PySem.W.nsIn K mainGlobals "BadNumber" = some (some (.ref CBadNumber)))
    (aBadPath : PySem.W.nsIn K mainGlobals "BadPath" = some (some (.ref CBadPath)))
    (aBadPattern : PySem.W.nsIn K mainGlobals "BadPattern" = some (some (.ref CBadPattern)))
    (aBadProgram : PySem.W.nsIn K mainGlobals "BadProgram" = some (some (.ref CBadProgram)))
    (aBadShape : PySem.W.nsIn K mainGlobals "BadShape" = some (some (.ref CBadShape)))
    (aBadSurroundings : PySem.W.nsIn K mainGlobals "BadSurroundings" = some (some (.ref CBadSurroundings)))
    (aBadTable : PySem.W.nsIn K mainGlobals "BadTable" = some (some (.ref CBadTable)))
    (aBadTerm : PySem.W.nsIn K mainGlobals "BadTerm" = some (some (.ref CBadTerm)))
    (aBadText : PySem.W.nsIn K mainGlobals "BadText" = some (some (.ref CBadText)))
    (aBadWhich : PySem.W.nsIn K mainGlobals "BadWhich" = some (some (.ref CBadWhich)))
    (aBadWord : PySem.W.nsIn K mainGlobals "BadWord" = some (some (.ref CBadWord)))
    (aBadWords : PySem.W.nsIn K mainGlobals "BadWords" = some (some (.ref CBadWords)))
    (aNoProgram : PySem.W.nsIn K mainGlobals "NoProgram" = some (some (.ref CNoProgram)))
    (aOtherLetters : PySem.W.nsIn K mainGlobals "OtherLetters" = some (some (.ref COtherLetters)))
    (aH : PySem.W.nsIn K mainGlobals "HeadError" = some (some (.ref HE)))
    (aT : PySem.W.nsIn K mainGlobals "TooMany" = some (some (.ref TM)))
    (aB : PySem.W.nsIn K mainGlobals "BadSigns" = some (some (.ref BS)))
    (aU : PySem.W.nsIn K mainGlobals "Unread" = some (some (.ref UN)))
    (gbegun : PySem.W.nsIn K mainGlobals "_law_begun" = some (some (.ref f_begun)))
    (lbegun : K.lookup f_begun = some ⟨oc0, od0, .func (PySem.W.fnOf "_law_begun" "_law_begun" (defArgs sBegun) (defBody sBegun) (defScope sBegun) .none kV0 dc0 pm0 an0 cd0 ct0), sl0⟩)
    (cbegun : PySem.W.codeIn K cd0 "_law_begun" = true)
    (kbegun : PySem.W.keepIn K (.ref f_begun) = true)
    (gblended : PySem.W.nsIn K mainGlobals "_law_blended" = some (some (.ref f_blended)))
    (lblended : K.lookup f_blended = some ⟨oc1, od1, .func (PySem.W.fnOf "_law_blended" "_law_blended" (defArgs sBlended) (defBody sBlended) (defScope sBlended) .none kV1 dc1 pm1 an1 cd1 ct1), sl1⟩)
    (cblended : PySem.W.codeIn K cd1 "_law_blended" = true)
    (kblended : PySem.W.keepIn K (.ref f_blended) = true)
    (gdraw : PySem.W.nsIn K mainGlobals "_law_draw" = some (some (.ref f_draw)))
    (ldraw : K.lookup f_draw = some ⟨oc2, od2, .func (PySem.W.fnOf "_law_draw" "_law_draw" (defArgs sDraw) (defBody sDraw) (defScope sDraw) .none kV2 dc2 pm2 an2 cd2 ct2), sl2⟩)
    (cdraw : PySem.W.codeIn K cd2 "_law_draw" = true)
    (kdraw : PySem.W.keepIn K (.ref f_draw) = true)
    (gpick : PySem.W.nsIn K mainGlobals "_law_pick" = some (some (.ref f_pick)))
    (lpick : K.lookup f_pick = some ⟨oc3, od3, .func (PySem.W.fnOf "_law_pick" "_law_pick" (defArgs sPick) (defBody sPick) (defScope sPick) .none kV3 dc3 pm3 an3 cd3 ct3), sl3⟩)
    (cpick : PySem.W.codeIn K cd3 "_law_pick" = true)
    (kpick : PySem.W.keepIn K (.ref f_pick) = true)
    (gplain : PySem.W.nsIn K mainGlobals "_law_plain" = some (some (.ref f_plain)))
    (lplain : K.lookup f_plain = some ⟨oc4, od4, .func (PySem.W.fnOf "_law_plain" "_law_plain" (defArgs sPlain) (defBody sPlain) (defScope sPlain) .none kV4 dc4 pm4 an4 cd4 ct4), sl4⟩)
    (cplain : PySem.W.codeIn K cd4 "_law_plain" = true)
    (kplain : PySem.W.keepIn K (.ref f_plain) = true)
    (gbeneath : PySem.W.nsIn K mainGlobals "_law_beneath" = some (some (.ref f_beneath)))
    (lbeneath : K.lookup f_beneath = some ⟨oc5, od5, .func (PySem.W.fnOf "_law_beneath" "_law_beneath" (defArgs sBeneath) (defBody sBeneath) (defScope sBeneath) .none kV5 dc5 pm5 an5 cd5 ct5), sl5⟩)
    (cbeneath : PySem.W.codeIn K cd5 "_law_beneath" = true)
    (kbeneath : PySem.W.keepIn K (.ref f_beneath) = true)
    (glaw : PySem.W.nsIn K mainGlobals "law" = some (some (.ref f_law)))
    (llaw : K.lookup f_law = some ⟨oc6, od6, .func (PySem.W.fnOf "law" "law" (defArgs sLaw) (defBody sLaw) (defScope sLaw) .none kV6 dc6 pm6 an6 cd6 ct6), sl6⟩)
    (claw : PySem.W.codeIn K cd6 "law" = true)
    (klaw : PySem.W.keepIn K (.ref f_law) = true)
    (iT : PySem.W.findIn K (.ref TM) "__init__" = some (some (.ref fT)))
    (tT : PySem.W.typeIn K (.ref fT) = some (.type "function"))
    (lT : K.lookup fT = some ⟨oc7, od7, .func (PySem.W.fnOf "__init__" "TooMany.__init__" (defArgs sInitT) (defBody sInitT) (defScope sInitT) .none kV7 dc7 pm7 an7 cd7 ct7), sl7⟩)
    (cT : PySem.W.codeIn K cd7 "TooMany.__init__" = true)
    (kfT : PySem.W.keepIn K (.ref fT) = true)
    (xT : K.lookup TM = some (excClassObj nm7 q7 TM N7 bs7 [.ref HE, .type "ValueError", .type "Exception", .type "BaseException", .type "object"] true sn7 sub7 ab7 col7 dd7 m07 m17 m27 m37 m57 "ValueError.__new__"))
    (sT : PySem.W.findIn K (.ref TM) "__setattr__" = some (some (.builtin "object.__setattr__")))
    (eT : PySem.W.subIn K (.ref TM) (.type "BaseException") = some true)
    (yT : PySem.W.typeIn K (.ref TM) = some (.type "type"))
    (qT : PySem.W.keepIn K (.ref TM) = true)
    (nT : PySem.W.findIn K (.ref TM) "most" = some none)
    (bT : (ecB K TM && xfB K TM) = true)
    (iB : PySem.W.findIn K (.ref BS) "__init__" = some (some (.ref fB)))
    (tB : PySem.W.typeIn K (.ref fB) = some (.type "function"))
    (lB : K.lookup fB = some ⟨oc8, od8, .func (PySem.W.fnOf "__init__" "BadSigns.__init__" (defArgs sInitB) (defBody sInitB) (defScope sInitB) .none kV8 dc8 pm8 an8 cd8 ct8), sl8⟩)
    (cB : PySem.W.codeIn K cd8 "BadSigns.__init__" = true)
    (kfB : PySem.W.keepIn K (.ref fB) = true)
    (xB : K.lookup BS = some (excClassObj nm8 q8 BS N8 bs8 [.ref HE, .type "ValueError", .type "Exception", .type "BaseException", .type "object"] true sn8 sub8 ab8 col8 dd8 m08 m18 m28 m38 m58 "ValueError.__new__"))
    (sB : PySem.W.findIn K (.ref BS) "__setattr__" = some (some (.builtin "object.__setattr__")))
    (eB : PySem.W.subIn K (.ref BS) (.type "BaseException") = some true)
    (yB : PySem.W.typeIn K (.ref BS) = some (.type "type"))
    (qB : PySem.W.keepIn K (.ref BS) = true)
    (nB : PySem.W.findIn K (.ref BS) "at" = some none)
    (bB : (ecB K BS && xfB K BS) = true)
    (iU : PySem.W.findIn K (.ref UN) "__init__" = some (some (.ref fU)))
    (tU : PySem.W.typeIn K (.ref fU) = some (.type "function"))
    (lU : K.lookup fU = some ⟨oc9, od9, .func (PySem.W.fnOf "__init__" "Unread.__init__" (defArgs sInitU) (defBody sInitU) (defScope sInitU) .none kV9 dc9 pm9 an9 cd9 ct9), sl9⟩)
    (cU : PySem.W.codeIn K cd9 "Unread.__init__" = true)
    (kfU : PySem.W.keepIn K (.ref fU) = true)
    (xU : K.lookup UN = some (excClassObj nm9 q9 UN N9 bs9 [.ref HE, .type "ValueError", .type "Exception", .type "BaseException", .type "object"] true sn9 sub9 ab9 col9 dd9 m09 m19 m29 m39 m59 "ValueError.__new__"))
    (sU : PySem.W.findIn K (.ref UN) "__setattr__" = some (some (.builtin "object.__setattr__")))
    (eU : PySem.W.subIn K (.ref UN) (.type "BaseException") = some true)
    (yU : PySem.W.typeIn K (.ref UN) = some (.type "type"))
    (qU : PySem.W.keepIn K (.ref UN) = true)
    (nU : PySem.W.findIn K (.ref UN) "letter" = some none)
    (bU : (ecB K UN && xfB K UN) = true)
    (bk : PySem.W.keepIn K (.ref HE) = true)
    (bs : PySem.W.specialIn K (.ref HE) "__getattribute__" = some (some (.builtin "type.__getattribute__")))
    (br : PySem.W.readsIn K HE (.type "type") = true)
    (bf : PySem.W.findCls K (.ref HE) (.type "type") "__init__" = some (.val (.builtin "ValueError.__init__")))
    (pls : ([CBadBare, CBadBoxes, CBadEnd, CBadHead, CBadJournal, CBadKind, CBadKinds, CBadLetter, CBadLine, CBadMachine, CBadMany, CBadName, CBadNames, CBadNumber, CBadPath, CBadPattern, CBadProgram, CBadShape, CBadSurroundings, CBadTable, CBadTerm, CBadText, CBadWhich, CBadWord, CBadWords, CNoProgram, COtherLetters] : List Addr).all (plB K HE TM) = true)
    (prs : ([(CBadKinds, CBadKind), (CBadKind, CBadKinds), (CBadNames, CBadName), (CBadName, CBadNames), (CBadWords, CBadWord), (CBadWord, CBadWords), (CBadHead, CBadProgram), (CBadProgram, CBadHead), (CBadMany, CBadNumber), (CBadNumber, CBadMany), (CNoProgram, CBadProgram), (CBadText, BS)] : List (Addr × Addr)).all (fun p => prB K p.1 p.2 false) = true)
    (ws : (prB K TM BS false && (prB K TM HE true && (prB K BS HE true && (prB K UN HE true && prB K UN TM false)))) = true)
    (zabs : PySem.W.nsIn K mainGlobals "abs" = some none)
    (zint : PySem.W.nsIn K mainGlobals "int" = some none)
    (zlen : PySem.W.nsIn K mainGlobals "len" = some none)
    (zisinstance : PySem.W.nsIn K mainGlobals "isinstance" = some none)
    (zValueError : PySem.W.nsIn K mainGlobals "ValueError" = some none)
    : ∃ fd : FuncData, (∀ (s : Shared) (v : Value), BindsTo s fd ⟨[v], []⟩ [("script", v)]) ∧ ∀ base : Heap, K.In base → base.Ns mainGlobals mg → FnOk l.prog w K mg base CX0 5 fa fd ["script"] (spLaw K) := by
  have e := hfa.symm.trans (PySem.W.mg_of X G glaw)
  cases e
  have gt : ∀ {n : Str} {v : Value}, PySem.W.nsIn K mainGlobals n = some (some v) → mg n = some v := fun q => PySem.W.mg_of X G q
  have gn : ∀ {n : Str}, PySem.W.nsIn K mainGlobals n = some none → mg n = none := fun q => PySem.W.mg_none_of X G q
  have pl := List.all_eq_true.mp pls
  have pr := List.all_eq_true.mp prs
  simp only [Bool.and_eq_true] at ws
  have zT := Bool.and_eq_true_iff.mp bT
  have CT : FlC K mg "TooMany" "most" TM fT := ⟨gt aT, ⟨⟨_, _, _, _, _, _, _, _, _, _, _, _, _, _, _, xT, by first | rfl | decide +kernel⟩, sT, eT, yT, qT⟩, iT, tT, ecB_ok zT.1, xfB_ok zT.2, nT⟩
  have zB := Bool.and_eq_true_iff.mp bB
  have CB : FlC K mg "BadSigns" "at" BS fB := ⟨gt aB, ⟨⟨_, _, _, _, _, _, _, _, _, _, _, _, _, _, _, xB, by first | rfl | decide +kernel⟩, sB, eB, yB, qB⟩, iB, tB, ecB_ok zB.1, xfB_ok zB.2, nB⟩
  have zU := Bool.and_eq_true_iff.mp bU
  have CU : FlC K mg "Unread" "letter" UN fU := ⟨gt aU, ⟨⟨_, _, _, _, _, _, _, _, _, _, _, _, _, _, _, xU, by first | rfl | decide +kernel⟩, sU, eU, yU, qU⟩, iU, tU, ecB_ok zU.1, xfB_ok zU.2, nU⟩
  have T : Txt K mg HE TM BS UN fT fB fU := {
    pl := fun x hx => by
      simp only [plain, List.mem_cons, List.not_mem_nil, or_false] at hx
      rcases hx with rfl | rfl | rfl | rfl | rfl | rfl | rfl | rfl | rfl | rfl | rfl | rfl | rfl | rfl | rfl | rfl | rfl | rfl | rfl | rfl | rfl | rfl | rfl | rfl | rfl | rfl | rfl
      · exact ⟨CBadBare, plB_ok (gt aBadBare) (pl _ (by simp))⟩
      · exact ⟨CBadBoxes, plB_ok (gt aBadBoxes) (pl _ (by simp))⟩
      · exact ⟨CBadEnd, plB_ok (gt aBadEnd) (pl _ (by simp))⟩
      · exact ⟨CBadHead, plB_ok (gt aBadHead) (pl _ (by simp))⟩
      · exact ⟨CBadJournal, plB_ok (gt aBadJournal) (pl _ (by simp))⟩
      · exact ⟨CBadKind, plB_ok (gt aBadKind) (pl _ (by simp))⟩
      · exact ⟨CBadKinds, plB_ok (gt aBadKinds) (pl _ (by simp))⟩
      · exact ⟨CBadLetter, plB_ok (gt aBadLetter) (pl _ (by simp))⟩
      · exact ⟨CBadLine, plB_ok (gt aBadLine) (pl _ (by simp))⟩
      · exact ⟨CBadMachine, plB_ok (gt aBadMachine) (pl _ (by simp))⟩
      · exact ⟨CBadMany, plB_ok (gt aBadMany) (pl _ (by simp))⟩
      · exact ⟨CBadName, plB_ok (gt aBadName) (pl _ (by simp))⟩
      · exact ⟨CBadNames, plB_ok (gt aBadNames) (pl _ (by simp))⟩
      · exact ⟨CBadNumber, plB_ok (gt aBadNumber) (pl _ (by simp))⟩
      · exact ⟨CBadPath, plB_ok (gt aBadPath) (pl _ (by simp))⟩
      · exact ⟨CBadPattern, plB_ok (gt aBadPattern) (pl _ (by simp))⟩
      · exact ⟨CBadProgram, plB_ok (gt aBadProgram) (pl _ (by simp))⟩
      · exact ⟨CBadShape, plB_ok (gt aBadShape) (pl _ (by simp))⟩
      · exact ⟨CBadSurroundings, plB_ok (gt aBadSurroundings) (pl _ (by simp))⟩
      · exact ⟨CBadTable, plB_ok (gt aBadTable) (pl _ (by simp))⟩
      · exact ⟨CBadTerm, plB_ok (gt aBadTerm) (pl _ (by simp))⟩
      · exact ⟨CBadText, plB_ok (gt aBadText) (pl _ (by simp))⟩
      · exact ⟨CBadWhich, plB_ok (gt aBadWhich) (pl _ (by simp))⟩
      · exact ⟨CBadWord, plB_ok (gt aBadWord) (pl _ (by simp))⟩
      · exact ⟨CBadWords, plB_ok (gt aBadWords) (pl _ (by simp))⟩
      · exact ⟨CNoProgram, plB_ok (gt aNoProgram) (pl _ (by simp))⟩
      · exact ⟨COtherLetters, plB_ok (gt aOtherLetters) (pl _ (by simp))⟩
    pr := fun p hp => by
      simp only [pairs, List.mem_cons, List.not_mem_nil, or_false] at hp
      rcases hp with rfl | rfl | rfl | rfl | rfl | rfl | rfl | rfl | rfl | rfl | rfl | rfl
      · exact fun C D h1 h2 => by
          cases h1.symm.trans (gt aBadKinds)
          cases h2.symm.trans (gt aBadKind)
          exact prB_ok (b := false) (pr (CBadKinds, CBadKind) (by simp))
      · exact fun C D h1 h2 => by
          cases h1.symm.trans (gt aBadKind)
          cases h2.symm.trans (gt aBadKinds)
          exact prB_ok (b := false) (pr (CBadKind, CBadKinds) (by simp))
      · exact fun C D h1 h2 => by
          cases h1.symm.trans (gt aBadNames)
          cases h2.symm.trans (gt aBadName)
          exact prB_ok (b := false) (pr (CBadNames, CBadName) (by simp))
      · exact fun C D h1 h2 => by
          cases h1.symm.trans (gt aBadName)
          cases h2.symm.trans (gt aBadNames)
          exact prB_ok (b := false) (pr (CBadName, CBadNames) (by simp))
      · exact fun C D h1 h2 => by
          cases h1.symm.trans (gt aBadWords)
          cases h2.symm.trans (gt aBadWord)
          exact prB_ok (b := false) (pr (CBadWords, CBadWord) (by simp))
      · exact fun C D h1 h2 => by
          cases h1.symm.trans (gt aBadWord)
          cases h2.symm.trans (gt aBadWords)
          exact prB_ok (b := false) (pr (CBadWord, CBadWords) (by simp))
      · exact fun C D h1 h2 => by
          cases h1.symm.trans (gt aBadHead)
          cases h2.symm.trans (gt aBadProgram)
          exact prB_ok (b := false) (pr (CBadHead, CBadProgram) (by simp))
      · exact fun C D h1 h2 => by
          cases h1.symm.trans (gt aBadProgram)
          cases h2.symm.trans (gt aBadHead)
          exact prB_ok (b := false) (pr (CBadProgram, CBadHead) (by simp))
      · exact fun C D h1 h2 => by
          cases h1.symm.trans (gt aBadMany)
          cases h2.symm.trans (gt aBadNumber)
          exact prB_ok (b := false) (pr (CBadMany, CBadNumber) (by simp))
      · exact fun C D h1 h2 => by
          cases h1.symm.trans (gt aBadNumber)
          cases h2.symm.trans (gt aBadMany)
          exact prB_ok (b := false) (pr (CBadNumber, CBadMany) (by simp))
      · exact fun C D h1 h2 => by
          cases h1.symm.trans (gt aNoProgram)
          cases h2.symm.trans (gt aBadProgram)
          exact prB_ok (b := false) (pr (CNoProgram, CBadProgram) (by simp))
      · exact fun C D h1 h2 => by
          cases h1.symm.trans (gt aBadText)
          cases h2.symm.trans (gt aB)
          exact prB_ok (b := false) (pr (CBadText, BS) (by simp))
    gH := gt aH
    bH := ⟨bk, bs, br, bf⟩
    tm := CT
    bs := CB
    un := CU
    w1 := prB_ok ws.1
    w2 := prB_ok ws.2.1
    w3 := prB_ok ws.2.2.1
    w4 := prB_ok ws.2.2.2.1
    w5 := prB_ok ws.2.2.2.2
    isi := gn zisinstance
    ve := gn zValueError }
  have Fbegun := fun_mk (st := sBegun) lbegun cbegun kbegun
  have Fblended := fun_mk (st := sBlended) lblended cblended kblended
  have Fdraw := fun_mk (st := sDraw) ldraw cdraw kdraw
  have Fpick := fun_mk (st := sPick) lpick cpick kpick
  have Fplain := fun_mk (st := sPlain) lplain cplain kplain
  have Fbeneath := fun_mk (st := sBeneath) lbeneath cbeneath kbeneath
  have Flaw := fun_mk (st := sLaw) llaw claw klaw
  have FT := fun_mk (st := sInitT) lT cT kfT
  have FB := fun_mk (st := sInitB) lB cB kfB
  have FU := fun_mk (st := sInitU) lU cU kfU
  have b_begun := Fbegun.binds (ps := ["script"]) fun _ _ _ _ _ _ us hl => match us, hl with | [_], _ => rfl
  have b_blended := Fblended.binds (ps := ["state"]) fun _ _ _ _ _ _ us hl => match us, hl with | [_], _ => rfl
  have b_draw := Fdraw.binds (ps := ["state", "room"]) fun _ _ _ _ _ _ us hl => match us, hl with | [_, _], _ => rfl
  have b_pick := Fpick.binds (ps := ["state", "some"]) fun _ _ _ _ _ _ us hl => match us, hl with | [_, _], _ => rfl
  have b_plain := Fplain.binds (ps := ["word"]) fun _ _ _ _ _ _ us hl => match us, hl with | [_], _ => rfl
  have b_beneath := Fbeneath.binds (ps := ["word"]) fun _ _ _ _ _ _ us hl => match us, hl with | [_], _ => rfl
  have b_law := Flaw.binds (ps := ["script"]) fun _ _ _ _ _ _ us hl => match us, hl with | [_], _ => rfl
  have b_T := FT.binds (ps := ["self", "most"]) fun _ _ _ _ _ _ us hl => match us, hl with | [_, _], _ => rfl
  have b_B := FB.binds (ps := ["self", "at"]) fun _ _ _ _ _ _ us hl => match us, hl with | [_, _], _ => rfl
  have b_U := FU.binds (ps := ["self", "letter"]) fun _ _ _ _ _ _ us hl => match us, hl with | [_, _], _ => rfl
  refine ⟨PySem.W.fnOf "law" "law" (defArgs sLaw) (defBody sLaw) (defScope sLaw) .none kV6 dc6 pm6 an6 cd6 ct6, fun s v => .of_eq rfl, fun base _ _ => ?_⟩
  have Gbl : FnOk l.prog w K mg base CX0 1 f_blended _ ["state"] spBlended := ok_blended Fblended (gn zint)
  have Gdr : FnOk l.prog w K mg base CX0 2 f_draw _ ["state", "room"] spDraw := ok_draw Fdraw (gn zint) Gbl (gt gblended) kblended b_blended
  have Gpi : FnOk l.prog w K mg base CX0 3 f_pick _ ["state", "some"] (spPick K) := ok_pick Fpick (gn zlen) Gdr (gt gdraw) kdraw b_draw
  exact ok_law Flaw T ⟨ok_begun Fbegun (gn zabs), gt gbegun, kbegun, b_begun⟩ ⟨Gpi, gt gpick, kpick, b_pick⟩ ⟨ok_plain Fplain T, gt gplain, kplain, b_plain⟩ ⟨ok_beneath Fbeneath T, gt gbeneath, kbeneath, b_beneath⟩
    (ok_initT FT (gt aH) T.bH CT) b_T (ok_initB FB (gt aH) T.bH CB) b_B (ok_initU FU (gt aH) T.bH CU) b_U
    (fun s a ws _ hl => match ws, hl with | [_], _ => .of_eq rfl) (fun s a ws _ hl => match ws, hl with | [_], _ => .of_eq rfl) (fun s a ws _ hl => match ws, hl with | [_], _ => .of_eq rfl)
end My
open PySem PySem.W PyProof.Rows
set_option maxRecDepth 100000 in
set_option maxHeartbeats 0 in
theorem PySem.Challenge.cw_oneuseheads_k14_errors_made_holds : PySem.Challenge.rw_oneuseheads_k14_errors_made.Holds := by
  w_on; o_law; k_head; (case hw => w_witness2)
  k_fill
  refine L2.walk_ofK (l := PySem.Challenge.rw_oneuseheads_k14_errors_made) (n := 63) (k := 5) (x := "script") (CX := L2.CX0) (sp := My.spLaw) rfl (by decide) rfl ⟨rfl, by decide, by decide⟩ (fun w h Y => PySem.W.kIn_of Y) ?F (fun K H a ns hl _ hS => ⟨a, ns, rfl, hS, hl, fun _ => rfl⟩) (fun _ _ _ _ z => z)
  case F =>
    intro w mg fa h KX G hmg
    refine' My.all_mk KX G hmg ?aBadBare ?aBadBoxes ?aBadEnd ?aBadHead ?aBadJournal ?aBadKind ?aBadKinds ?aBadLetter ?aBadLine ?aBadMachine ?aBadMany ?aBadName ?aBadNames ?aBadNumber ?aBadPath ?aBadPattern ?aBadProgram ?aBadShape ?aBadSurroundings ?aBadTable ?aBadTerm ?aBadText ?aBadWhich ?aBadWord ?aBadWords ?aNoProgram ?aOtherLetters ?aH ?aT ?aB ?aU ?gbegun ?lbegun ?cbegun ?kbegun ?gblended ?lblended ?cblended ?kblended ?gdraw ?ldraw ?cdraw ?kdraw ?gpick ?lpick ?cpick ?kpick ?gplain ?lplain ?cplain ?kplain ?gbeneath ?lbeneath ?cbeneath ?kbeneath ?glaw ?llaw ?claw ?klaw ?iT ?tT ?lT ?cT ?kfT ?xT ?sT ?eT ?yT ?qT ?nT ?bT ?iB ?tB ?lB ?cB ?kfB ?xB ?sB ?eB ?yB ?qB ?nB ?bB ?iU ?tU ?lU ?cU ?kfU ?xU ?sU ?eU ?yU ?qU ?nU ?bU ?bk ?bs ?br ?bf ?pls ?prs ?ws ?zabs ?zint ?zlen ?zisinstance ?zValueError
    (case aBadBare => k_is)
    (case aBadBoxes => k_is)
    (case aBadEnd => k_is)
    (case aBadHead => k_is)
    (case aBadJournal => k_is)
    (case aBadKind => k_is)
    (case aBadKinds => k_is)
    (case aBadLetter => k_is)
    (case aBadLine => k_is)
    (case aBadMachine => k_is)
    (case aBadMany => k_is)
    (case aBadName => k_is)
    (case aBadNames => k_is)
    (case aBadNumber => k_is)
    (case aBadPath => k_is)
    (case aBadPattern => k_is)
    (case aBadProgram => k_is)
    (case aBadShape => k_is)
    (case aBadSurroundings => k_is)
    (case aBadTable => k_is)
    (case aBadTerm => k_is)
    (case aBadText => k_is)
    (case aBadWhich => k_is)
    (case aBadWord => k_is)
    (case aBadWords => k_is)
    (case aNoProgram => k_is)
    (case aOtherLetters => k_is)
    (case aH => k_is)
    (case aT => k_is)
    (case aB => k_is)
    (case aU => k_is)
    (case gbegun => k_is)
    (case lbegun => k_is)
    (case cbegun => k_is)
    (case kbegun => k_is)
    (case gblended => k_is)
    (case lblended => k_is)
    (case cblended => k_is)
    (case kblended => k_is)
    (case gdraw => k_is)
    (case ldraw => k_is)
    (case cdraw => k_is)
    (case kdraw => k_is)
    (case gpick => k_is)
    (case lpick => k_is)
    (case cpick => k_is)
    (case kpick => k_is)
    (case gplain => k_is)
    (case lplain => k_is)
    (case cplain => k_is)
    (case kplain => k_is)
    (case gbeneath => k_is)
    (case lbeneath => k_is)
    (case cbeneath => k_is)
    (case kbeneath => k_is)
    (case glaw => k_is)
    (case llaw => k_is)
    (case claw => k_is)
    (case klaw => k_is)
    (case iT => k_is)
    (case tT => k_is)
    (case lT => k_is)
    (case cT => k_is)
    (case kfT => k_is)
    (case xT => k_is)
    (case sT => k_is)
    (case eT => k_is)
    (case yT => k_is)
    (case qT => k_is)
    (case nT => k_is)
    (case bT => kernel_rfl)
    (case iB => k_is)
    (case tB => k_is)
    (case lB => k_is)
    (case cB => k_is)
    (case kfB => k_is)
    (case xB => k_is)
    (case sB => k_is)
    (case eB => k_is)
    (case yB => k_is)
    (case qB => k_is)
    (case nB => k_is)
    (case bB => kernel_rfl)
    (case iU => k_is)
    (case tU => k_is)
    (case lU => k_is)
    (case cU => k_is)
    (case kfU => k_is)
    (case xU => k_is)
    (case sU => k_is)
    (case eU => k_is)
    (case yU => k_is)
    (case qU => k_is)
    (case nU => k_is)
    (case bU => kernel_rfl)
    (case bk => k_is)
    (case bs => k_is)
    (case br => k_is)
    (case bf => k_is)
    (case pls => kernel_rfl)
    (case prs => kernel_rfl)
    (case ws => kernel_rfl)
    (case zabs => k_is)
    (case zint => k_is)
    (case zlen => k_is)
    (case zisinstance => k_is)
    (case zValueError => k_is)
#print axioms PySem.Challenge.cw_oneuseheads_k14_errors_made_holds

