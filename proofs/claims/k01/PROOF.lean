import PyProof.Rows.All
import Wide.All
import OpenK.AllK
import Wide.FinOn
import HandS.ForMost
import HandS.ExcInit
import HandS.ExcIs
import HandS.ExcField
import HandS.IsInst
import HandS.Defaults
import KE.KExcIs
import PyProof.ReprRoads
import KE.KTypeName
import HandS.WideBits
import KE.KxText
import PyProof.StrLawsRepr
import HandS.Style
import HandS.Small
import HandS.MakeKw
import PySem.Challenge.RW_lookdepths_k01_errors_made
section
set_option Elab.async false
set_option linter.all false
set_option maxRecDepth 100000
set_option maxHeartbeats 4000000
namespace PySem
namespace MyK
open PySem.HandSPX Builtin Builtin.ObjectAttr
section
variable {M : Model} {A : Around} {E : Value → Shared → Prop} {h : Heap} {g : Array GenState} {d : Drawn} {t : Nat} {os : OsState}
variable {nm q : Str} {C N : Addr} {bs bm bmB : List Value} {hdct : Bool} {sn : List Str} {sub : List Value} {ab : Bool} {col : Option Bool} {dd : Option Addr} {k0 k1 k2 k3 k5 : Option Value} {B newId initId : String}
/-- the look ahead of the making, keywords too -/
theorem check_kw (F : ExcBaseFacts B newId initId bmB) (hT : ∀ X : String, bm.contains (.type X) = bmB.contains (.type X)) {kw : List (Str × Value)} {Q : Unit → Shared → Prop}
    (hC : h.get? C = some (excClassObj nm q C N bs bm hdct sn sub ab col dd k0 k1 k2 k3 k5 newId))
    (hq : Q () ⟨h, g, d, t, os⟩) : wpAny M A (checkBuiltinCall newId ⟨[.ref C], kw⟩) Q E ⟨h, g, d, t, os⟩ := by
  have c0 : (Value.ref C :: bm).contains (.type B) = true := by rw [List.contains_cons, hT, F.hasB, Bool.or_true]
  have st := F.noStar
  simp only [checkBuiltinCall, F.newKind, F.newSplit, F.newRow]
  repeat (first
    | refine wpAny_loadPart_at hC ?_
    | (refine wpAny_isSubtype_exc hC ?_; rw [c0])
    | refine wpAny_staticBase_exc hC ?_
    | refine wpAny_madeBy_exc hC ?_
    | simp only [bne_self_eq_false, Bool.false_eq_true, if_false]
    | wp_step)
  exact hq
end
section
variable {prog : Program} {w : World} {A : Around} {E : Value → Shared → Prop} {R : Result → Shared → Prop} {h : Heap} {g : Array GenState} {d : Drawn} {t : Nat} {os : OsState}
variable {nm q : Str} {C N : Addr} {bs bm bmB : List Value} {hdct : Bool} {sn : List Str} {sub : List Value} {ab : Bool} {col : Option Bool} {dd : Option Addr} {k0 k1 k2 k3 k5 : Option Value} {B newId initId : String} {kw : List (Str × Value)}
theorem new_kw (F : ExcBaseFacts B newId initId bmB) (hT : ∀ X : String, bm.contains (.type X) = bmB.contains (.type X))
    (hC : h.get? C = some (excClassObj nm q C N bs bm hdct sn sub ab col dd k0 k1 k2 k3 k5 newId))
    (hq : R (.ok (.ret (.ref (h.objs.size + 1)))) ⟨(h.push (W.kdv_tup [])).push (excO C h.objs.size), g, d, t, os⟩) :
    codeAny (model prog w) A (.builtin newId ⟨[.ref C], kw⟩) R ⟨h, g, d, t, os⟩ := by
  have he := F.ends
  have cB : (Value.ref C :: bm).contains (.type B) = true := by rw [List.contains_cons, hT, F.hasB, Bool.or_true]
  have cA : (Value.ref C :: bm).contains (.type "AttributeError") = false := by
    rw [List.contains_cons, hT, F.noAttr]
    rfl
  have cN : (Value.ref C :: bm).contains (.type "NameError") = false := by
    rw [List.contains_cons, hT, F.noName]
    rfl
  have z0 : ([] : List Value).length ≤ sizeLine := Nat.zero_le _
  refine codeAny_builtinAt F.entry ?_
  unfold Builtin.«BaseException.__new__»
  refine wpAt_bind ?_
  show wpAt _ _ _ (stack >>= _) _ _ _
  refine wpAt_bind (wpAt_stack fun p below => wpAt_of_wpAny ?_)
  wp_walk
  refine wpAt_of_wpAny ?_
  rw [F.owner]
  repeat (first
    | with_reducible refine wpAny_madeHere_exc F.canon hC ?_
    | with_reducible refine wpAny_loadPart_at hC ?_
    | (with_reducible refine wpAny_isSubtype_exc hC ?_; first | rw [cB] | rw [cA] | rw [cN])
    | wp_step)
  show R _ _
  rw [Heap.size_push]
  exact hq
theorem type_call_kw (F : ExcBaseFacts B newId initId bmB) (hT : ∀ X : String, bm.contains (.type X) = bmB.contains (.type X)) {fI : Addr} {Q : Fin → Shared → Prop}
    (hC : h.get? C = some (excClassObj nm q C N bs bm hdct sn sub ab col dd k0 k1 k2 k3 k5 newId))
    (hi : W.Looks (model prog w) h (typeLookup (.ref C) "__init__") (some (.ref fI)))
    (hb : ∀ self, W.Looks (model prog w) h (bindSpecial (.ref fI) self) (.ref fI, [self]))
    (hq : codeAny (model prog w) A (.call (.ref fI) ⟨[.ref (h.objs.size + 1)], kw⟩)
      (fun r s' => match r with | .ok (.ret v) => v = .none ∧ Q (.done (.ret (.ref (h.objs.size + 1)))) s' | .ok _ => False | .error e => E e s')
      ⟨(h.push (W.kdv_tup [])).push (excO C h.objs.size), g, d, t, os⟩) :
    wpAny (model prog w) A (Builtin.«type.__call__» ⟨[.ref C], kw⟩) Q E ⟨h, g, d, t, os⟩ := by
  repeat (first
    | with_reducible refine wpAny_loadPart_at hC ?_
    | with_reducible refine wpAny_madeBy_exc hC ?_
    | wp_step)
  refine codeAny_call_builtin_code (Code.quiet_builtin _ F.quiet) (check_kw F hT hC ?_)
  refine new_kw F hT hC ?_
  show wpAny _ _ _ _ _ _
  have old : ∀ b o, h.get? b = some o → ((h.push (W.kdv_tup [])).push (excO C h.objs.size)).get? b = some o :=
    fun b o z => Heap.get?_push_of_some _ (Heap.get?_push_of_some _ z)
  have hC1 := old _ _ hC
  have here : ((h.push (W.kdv_tup [])).push (excO C h.objs.size)).get? (h.objs.size + 1) = some (excO C h.objs.size) := by heap_get
  have cC : (Value.ref C :: bm).contains (.ref C) = true := by simp
  have i1 := hi.keeps old
  have b1 := (hb (.ref (h.objs.size + 1))).keeps old
  unfold isInstance
  repeat (first
    | with_reducible refine wpAny_loadPart_at here ?_
    | (with_reducible refine wpAny_isSubtype_exc hC1 ?_; rw [cC])
    | wp_step)
  show wpAny _ _ (typeLookup (.ref C) _) _ _ _
  refine i1.at ?_
  refine wpAny_holding (wpAny_bind (b1.at ?_))
  refine wpAny_bind (wpAny_call (codeAny_mono hq fun r s' z => ?_))
  rcases r with e | (v | _ | _ | _) <;> first | exact z | exact z.elim | skip
  obtain ⟨rfl, z⟩ := z
  first
    | exact wpAny_pure (wpAny_pure z)
    | (wp_walk; exact z)
/-- C(k = v): an own exception class whose own initialiser takes the keywords -/
theorem call_kw (F : ExcBaseFacts B newId initId bmB) (hT : ∀ X : String, bm.contains (.type X) = bmB.contains (.type X)) {fI : Addr}
    (hC : h.get? C = some (excClassObj nm q C N bs bm hdct sn sub ab col dd k0 k1 k2 k3 k5 newId))
    (hi : W.Looks (model prog w) h (typeLookup (.ref C) "__init__") (some (.ref fI)))
    (hb : ∀ self, W.Looks (model prog w) h (bindSpecial (.ref fI) self) (.ref fI, [self]))
    (hq : codeAny (model prog w) (A.under (.builtin "type.__call__" ⟨[.ref C], kw⟩)) (.call (.ref fI) ⟨[.ref (h.objs.size + 1)], kw⟩) (W.InitBack (h.objs.size + 1) R)
      ⟨(h.push (W.kdv_tup [])).push (excO C h.objs.size), g, d, t, os⟩) :
    codeAny (model prog w) A (.call (.ref C) ⟨[], kw⟩) R ⟨h, g, d, t, os⟩ := by
  have f1 := tc_lookup
  have f2 := tc_bind (.ref C)
  have hTy : (⟨h, g, d, t, os⟩ : Shared).TypeIs (.ref C) "type" := ⟨_, hC, rfl⟩
  refine codeAny_of_tree ?_
  show wpAny _ _ (callAny (.ref C) _) _ _ _
  repeat (any_goals (first
    | assumption
    | with_reducible refine wpAny_loadPart_at hC ?_
    | wp_step))
  refine ⟨rfl, ?_⟩
  refine codeAny_call_builtin_at (Code.quiet_builtin _ (by decide +kernel)) entry_typeCall (wpAny_check_type_call_sub hC (type_call_kw F hT hC hi hb ?_))
  refine codeAny_mono hq fun r s' z => ?_
  rcases r with e | (v | _ | _ | _) <;> exact z
end
end MyK
end PySem
end

section
set_option Elab.async false
set_option linter.all false
set_option maxRecDepth 100000
set_option maxHeartbeats 4000000
namespace MyE
open PySem PySem.Spec PyProof.Rows L2
section
variable {X : Cx} {k : Nat} {f fI C : Addr} {fd : FuncData} {ps : List Str} {sp : Sp} {dvs : List V} {ds : List Value} {x : Str} {p pos : Pos} {e : Expr} {es : List Expr} {ta : TA}
/-- a call of such a class: the object is laid, its own initialiser keeps sp -/
def tMk (C : Addr) (sp : Sp) (dvs : List V) (ta : TA) : TE := fun σ H Q => ta σ H fun vs H1 => vs.length ≤ 1000 ∧
  ∀ a, H1 a = none → sp (.ref a :: (vs ++ dvs)) (upd H1 a (exo a C none)) (fun v H2 => v = .non ∧ Q (.ref a) H2) E0
theorem run_mk {pins : List (Addr × Obj)} {σ : L2.St} {H : Hp} {s : Shared} {Q : VK} {us : List Value} {vs : List V} (T : OexC X.K C)
    (iC : PySem.W.findIn X.K (.ref C) "__init__" = some (some (.ref fI))) (tI : PySem.W.typeIn X.K (.ref fI) = some (.type "function"))
    (G : FnOk X.prog X.w X.K X.mg X.base CX0 k fI fd ps sp) (hr : Room (k + 1) X.A) (hb : Binds X.K fd ps ds) (hd : Vals dvs ds)
    (I : Inv X pins σ H s) (r : Vals vs us) (hz : vs.length ≤ 1000)
    (h : ∀ a, H a = none → sp (.ref a :: (vs ++ dvs)) (upd H a (exo a C none)) (fun v H2 => v = .non ∧ Q (.ref a) H2) E0) :
    wpAny (model X.prog X.w) X.A (call (.ref C) us) (EP X pins σ Q) X.xe s := by
  obtain ⟨nm, q, N, bs, bm, sn, sub, ab, col, dd, k0, k1, k2, k3, k5, hC, hbm⟩ := T.cls
  obtain ⟨hp, g, dr, tk, os⟩ := s
  have le1 : hp.objs.size ≤ hp.objs.size + 1 := Nat.le_succ _
  have q0 := h _ (I.hok.fresh le1)
  have old : ∀ b o, hp.get? b = some o → ((hp.push (PySem.W.kdv_tup us)).push (PySem.HandSPX.excO C hp.objs.size)).get? b = some o :=
    fun b o z => Heap.get?_push_of_some _ (Heap.get?_push_of_some _ z)
  have here : ((hp.push (PySem.W.kdv_tup us)).push (PySem.HandSPX.excO C hp.objs.size)).get? (hp.objs.size + 1) = some (PySem.HandSPX.excO C hp.objs.size) := by heap_get
  have J : Inv X pins σ (upd H (hp.objs.size + 1) (exo (hp.objs.size + 1) C none)) ⟨(hp.push (PySem.W.kdv_tup us)).push (PySem.HandSPX.excO C hp.objs.size), g, dr, tk, os⟩ :=
    I.laid (t' := tk) old le1 (exo_ok here)
  have r2 : Vals (V.ref (hp.objs.size + 1) :: (vs ++ dvs)) (Value.ref (hp.objs.size + 1) :: (us ++ ds)) := .cons rfl (r.append hd)
  have hl : (Value.ref (hp.objs.size + 1) :: us ++ ds).length = ps.length := by
    have z := r2.length
    rw [G.len _ _ _ _ q0] at z
    exact z.symm
  have hus : us.length ≤ sizeLine := by
    rw [← Paired.length r, sizeLine_eq]
    omega
  refine wpAny_call (PySem.HandSPX.call_own F.excBase_ValueError (fun Y => PySem.HandSPX.refsVE_contains Y bm hbm) (I.kIn _ _ hC) (PySem.W.looks_findIn I.kIn iC) (fun self => PySem.W.bind_fn I.kIn self tI) hus
    (codeAny_mono (G.run _ X.stack _ _ ⟨Value.ref (hp.objs.size + 1) :: us, []⟩ (Value.ref (hp.objs.size + 1) :: (us ++ ds)) _ _ E0 (hr.make C us []) (J.env0.make C us []) (hb _ (Value.ref (hp.objs.size + 1) :: us) J.kIn hl) r2 q0) fun r s' z => ?_))
  cases r with
  | error er => exact z.elim
  | ok fl =>
    cases fl with
    | ret u =>
      obtain ⟨v, H', I3, rv, ev, q3⟩ := J.after z
      subst ev
      exact ⟨rv, ⟨V.ref (hp.objs.size + 1), H', I3, rfl, q3⟩⟩
    | next => exact z.elim
    | brk => exact z.elim
    | cont => exact z.elim
theorem pe_mk (T : OexC X.K C) (iC : PySem.W.findIn X.K (.ref C) "__init__" = some (some (.ref fI))) (tI : PySem.W.typeIn X.K (.ref fI) = some (.type "function"))
    (G : FnOk X.prog X.w X.K X.mg X.base CX0 k fI fd ps sp) (hr : Room (k + 1) X.A) (hb : Binds X.K fd ps ds) (hd : Vals dvs ds) (hg : Gl X x) (hm : X.mg x = some (.ref C)) (ha : PA X (e :: es) ta)
    (hdb : (x == ("__debug__" : Str)) = false := by decide) (he : starEach (e :: es) X.env = (false, eval e X.env) :: starEach es X.env := by rfl) (hpl : (backTo pos (starEach es X.env)).any (·.1) = false := by rfl) :
    PE X (.Call (.Name x p) (e :: es) [] pos) (tMk C sp dvs ta) := by
  refine ⟨fun pins s σ H Q I h => ?_⟩
  refine wpAny_Call_Name_kw (ld_glob I hg hm ?_ hdb)
  refine PySem.W.callWith_K (h₀ := X.base) I.ok.mod.kin T.kC (thn (ha.run pos pins s σ H _ I h) fun us s1 ⟨vs, H1, I1, r1, hz, q1⟩ => ⟨I1.kIn, ?_⟩) he hpl
  exact run_mk T iC tI G hr hb hd I1 r1 hz q1
theorem pe_mk0 (T : OexC X.K C) (iC : PySem.W.findIn X.K (.ref C) "__init__" = some (some (.ref fI))) (tI : PySem.W.typeIn X.K (.ref fI) = some (.type "function"))
    (G : FnOk X.prog X.w X.K X.mg X.base CX0 k fI fd ps sp) (hr : Room (k + 1) X.A) (hb : Binds X.K fd ps ds) (hd : Vals dvs ds) (hg : Gl X x) (hm : X.mg x = some (.ref C))
    (hdb : (x == ("__debug__" : Str)) = false := by decide) : PE X (.Call (.Name x p) [] [] pos) (tMk C sp dvs tNil) := by
  refine ⟨fun pins s σ H Q I h => ?_⟩
  refine wpAny_Call_Name_kw (ld_glob I hg hm ?_ hdb)
  exact PySem.W.callWith_K0 I.kIn T.kC (run_mk (us := []) T iC tI G hr hb hd I .nil h.1 h.2)
/-- C(k = v, ..) without positional values -/
def tMkK (C : Addr) (sp : Sp) (gV : List V → List V → List V) (m : Nat) (tk : TA) : TE := fun σ H Q => tk σ H fun zs H1 => zs.length = m ∧
  ∀ a, H1 a = none → sp (gV [.ref a] zs) (upd H1 a (exo a C none)) (fun v H2 => v = .non ∧ Q (.ref a) H2) E0
theorem run_mkK {ks : List Str} {g : List Value → List Value → List Value} {gV : List V → List V → List V} {pins : List (Addr × Obj)} {σ : L2.St} {H : Hp} {s : Shared} {Q : VK} {ws : List Value} {zs : List V} (T : OexC X.K C)
    (iC : PySem.W.findIn X.K (.ref C) "__init__" = some (some (.ref fI))) (tI : PySem.W.typeIn X.K (.ref fI) = some (.type "function"))
    (G : FnOk X.prog X.w X.K X.mg X.base CX0 k fI fd ps sp) (hr : Room (k + 1) X.A) (hb : KBn X.K fd ps 1 ks g gV)
    (I : Inv X pins σ H s) (r : Vals zs ws) (hz : zs.length = ks.length)
    (h : ∀ a, H a = none → sp (gV [.ref a] zs) (upd H a (exo a C none)) (fun v H2 => v = .non ∧ Q (.ref a) H2) E0) :
    wpAny (model X.prog X.w) X.A (call (.ref C) [] (ks.zip ws)) (EP X pins σ Q) X.xe s := by
  obtain ⟨nm, q, N, bs, bm, sn, sub, ab, col, dd, k0, k1, k2, k3, k5, hC, hbm⟩ := T.cls
  obtain ⟨hp, gn, dr, tk, os⟩ := s
  have le1 : hp.objs.size ≤ hp.objs.size + 1 := Nat.le_succ _
  have q0 := h _ (I.hok.fresh le1)
  have old : ∀ b o, hp.get? b = some o → ((hp.push (PySem.W.kdv_tup [])).push (PySem.HandSPX.excO C hp.objs.size)).get? b = some o :=
    fun b o z => Heap.get?_push_of_some _ (Heap.get?_push_of_some _ z)
  have here : ((hp.push (PySem.W.kdv_tup [])).push (PySem.HandSPX.excO C hp.objs.size)).get? (hp.objs.size + 1) = some (PySem.HandSPX.excO C hp.objs.size) := by heap_get
  have J : Inv X pins σ (upd H (hp.objs.size + 1) (exo (hp.objs.size + 1) C none)) ⟨(hp.push (PySem.W.kdv_tup [])).push (PySem.HandSPX.excO C hp.objs.size), gn, dr, tk, os⟩ :=
    I.laid (t' := tk) old le1 (exo_ok here)
  have r1 : Vals [V.ref (hp.objs.size + 1)] [Value.ref (hp.objs.size + 1)] := .cons rfl .nil
  have r2 := hb.rel r1 r
  refine wpAny_call (PySem.MyK.call_kw F.excBase_ValueError (fun Y => PySem.HandSPX.refsVE_contains Y bm hbm) (I.kIn _ _ hC) (PySem.W.looks_findIn I.kIn iC) (fun self => PySem.W.bind_fn I.kIn self tI)
    (codeAny_mono (G.run _ X.stack _ _ ⟨[Value.ref (hp.objs.size + 1)], ks.zip ws⟩ (g [Value.ref (hp.objs.size + 1)] ws) _ _ E0 (hr.make C [] (ks.zip ws)) (J.env0.make C [] (ks.zip ws))
      (hb.to _ [Value.ref (hp.objs.size + 1)] ws J.kIn rfl (r.length.symm.trans hz)) r2 q0) fun r s' z => ?_))
  cases r with
  | error er => exact z.elim
  | ok fl =>
    cases fl with
    | ret u =>
      obtain ⟨v, H', I3, rv, ev, q3⟩ := J.after z
      subst ev
      exact ⟨rv, ⟨V.ref (hp.objs.size + 1), H', I3, rfl, q3⟩⟩
    | next => exact z.elim
    | brk => exact z.elim
    | cont => exact z.elim
theorem pe_mkK {ks : List Str} {kws : List Keyword} {tk : TA} {g : List Value → List Value → List Value} {gV : List V → List V → List V} (T : OexC X.K C)
    (iC : PySem.W.findIn X.K (.ref C) "__init__" = some (some (.ref fI))) (tI : PySem.W.typeIn X.K (.ref fI) = some (.type "function"))
    (G : FnOk X.prog X.w X.K X.mg X.base CX0 k fI fd ps sp) (hr : Room (k + 1) X.A) (hb : KBn X.K fd ps 1 ks g gV) (hg : Gl X x) (hm : X.mg x = some (.ref C)) (hk : PK X kws tk)
    (hall : (backToKw pos (keywordEach kws X.env)).all (·.1.isSome) = true := by rfl) (hks : (backToKw pos (keywordEach kws X.env)).filterMap (·.1) = ks := by rfl)
    (hdb : (x == ("__debug__" : Str)) = false := by decide) (hpl : ((backTo pos (starEach [] X.env)).any (·.1) || (backToKw pos (keywordEach kws X.env)).any (·.1.isNone)) = false := by rfl) :
    PE X (.Call (.Name x p) [] kws pos) (tMkK C sp gV ks.length tk) := by
  refine ⟨fun pins s σ H Q I h => ?_⟩
  refine wpAny_Call_Name_kw (ld_glob I hg hm ?_ hdb)
  refine PySem.W.callWith_KW0 (h₀ := X.base) I.ok.mod.kin T.kC hall (thn (hk.run pos pins s σ H _ I h) fun ws s1 ⟨zs, H1, I1, r1, hz, q1⟩ => ⟨I1.kIn, ?_⟩) hpl
  rw [hks]
  exact run_mkK T iC tI G hr hb I1 r1 hz q1
/-- L.m(e, ..), m a plain def of the own class at L -/
theorem pe_clsfn {pl : Sem Bool} {L : Addr} {m : Str} {p1 p2 : Pos} (hg : Gl X x) (hm : X.mg x = some (.ref L)) (rd : PySem.W.readsIn X.K L (.type "type") = true)
    (ga : PySem.W.specialIn X.K (.ref L) "__getattribute__" = some (some (.builtin "type.__getattribute__"))) (fv : PySem.W.findCls X.K (.ref L) (.type "type") m = some (.val (.ref f)))
    (hk : PySem.W.keepIn X.K (.ref f) = true) (G : FnOk X.prog X.w X.K X.mg X.base CX0 k f fd ps sp) (hr : Room k X.A) (hb : Binds X.K fd ps ds) (hd : Vals dvs ds) (ha : PA X (e :: es) ta)
    (hc : eval (.Call (.Attribute (.Name x p1) m p2) (e :: es) [] pos) X.env = (do
      let ov ← eval (.Name x p1) X.env
      standAt p2.atName
      let (f, first) ← holding [ov] (getMethod ov m pl)
      callWith pos f first (backTo pos (starEach (e :: es) X.env)) (backToKw pos (keywordEach [] X.env))) := by rfl)
    (hdb : (x == ("__debug__" : Str)) = false := by decide)
    (he : starEach (e :: es) X.env = (false, eval e X.env) :: starEach es X.env := by rfl) (hpl : (backTo pos (starEach es X.env)).any (·.1) = false := by rfl) :
    PE X (.Call (.Attribute (.Name x p1) m p2) (e :: es) [] pos) (tCall sp dvs E0 ta) := by
  refine ⟨fun pins s σ H Q I h => ?_⟩
  refine PySem.W.methodCall_KW (ld_glob I hg hm ?_ hdb) hc
  refine PySem.W.method_cls I.kIn ga (PySem.W.cls_value I.kIn rd fv rfl ?_)
  refine PySem.W.callWith_K (first := []) (h₀ := X.base) I.ok.mod.kin hk (thn (ha.run pos pins _ σ H _ (I.tok _) h) fun us s1 ⟨vs, H1, I1, r, q⟩ => ⟨I1.kIn, ?_⟩) he hpl
  exact run_fn G hr hb hd pass0 I1 r q
/-- e.f, e such an object, f a field of its own dict -/
def tXfl (K : PySem.W.Frag) (f : Str) (te : TE) : TE := fun σ H Q => te σ H fun y H1 => ∃ (a C dx : Addr) (fs : List (Str × V)) (v : V), y = .ref a ∧ XfC K C ∧ PySem.W.findIn K (.ref C) f = some none ∧
  H1 a = some (exo a C (some dx)) ∧ H1 dx = some (exd dx fs) ∧ fs.lookup f = some v ∧ Q v H1
theorem pe_xfl {te : TE} {n : Str} (he : PE X e te) (hb : attributeBase e n X.env (eval e X.env) = eval e X.env := by rfl) : PE X (.Attribute e n pos) (tXfl X.K n te) := by
  refine ⟨fun pins s σ H Q I h => ?_⟩
  refine attr_of hb (thn (he.run pins s σ H _ I h) fun u s1 ⟨y, H1, I1, ry, a, C, dx, fs, v, ey, T, hno, ea, ed, l, q⟩ => ?_)
  subst ey
  obtain rfl : u = Value.ref a := ry
  obtain ⟨t1, ho⟩ := exo_at I1.hok ea
  obtain ⟨mA, hns, rel⟩ := exd_at I1.hok ed
  obtain ⟨od, hod, hl⟩ := lookIn_ns hns
  obtain ⟨w, hw, rw'⟩ := RelO.some_of (v := v) (o := mA n) (by rw [← l]; exact rel n)
  exact HandSPX.exc_get I1.kIn ⟨ho, rfl, rfl, hod⟩ T.ga T.gg T.exC (PySem.W.findObj_own T.hdC hno rfl (by rw [hl, hw])) (handed_of rw') ⟨v, H1, I1.tok _, rw', q⟩
/-- isinstance(e, c), e such an object -/
def rIsX (K : PySem.W.Frag) : List V → Hp → VK → Prop := fun xs H Q => ∃ (a C : Addr) (d : Option Addr) (c : V) (cv : Value) (b : Bool), xs = [.ref a, c] ∧ ClsV c cv ∧ ExcC K C ∧ H a = some (exo a C d) ∧
  (∀ dx, d = some dx → ∃ fs, H dx = some (exd dx fs)) ∧ PySem.W.kitOne K (.ref C) cv = some b ∧ Q (.bl b) H
theorem call_isX : CallR X (.builtin "isinstance") (rIsX X.K) := by
  intro pins s σ H xs us Q I r h
  obtain ⟨a, C, d, c, cv, b, rfl, k, T, ea, hd, e, q⟩ := h
  obtain ⟨u1, u2, rfl, r1, r2⟩ := vals2 r
  have e2 := k.eq r2
  subst e2
  obtain rfl : u1 = Value.ref a := r1
  obtain ⟨t1, ho⟩ := exo_at I.hok ea
  have hcl : (PySem.W.clsIn X.K C).isSome = true := by
    obtain ⟨cd, hc, _⟩ := PySem.W.any_some T.hd
    rw [hc]
    rfl
  obtain ⟨od, J⟩ : ∃ od, PySem.W.InstAt s.heap a { cls := .ref C, dict := d, data := .fields #[.ref t1, .none, .none, .none, .bool false, .none] } C od := by
    cases d with
    | none => exact ⟨none, ho, rfl, rfl, trivial⟩
    | some dx =>
      obtain ⟨fs, ed⟩ := hd dx rfl
      obtain ⟨mA, hns, rel⟩ := exd_at I.hok ed
      obtain ⟨od, hod, hl⟩ := lookIn_ns hns
      exact ⟨some od, ho, rfl, rfl, hod⟩
  exact PySem.W.kia_one (PySem.W.kitx_exc hcl T.hg T.hk T.hs T.ha T.hn T.ht T.hm) I.kIn J e (fun z => nomatch z) fun tk => ⟨.bl b, H, I.tok tk, rfl, q⟩
end
end MyE
end

section
set_option Elab.async false
set_option linter.all false
set_option maxRecDepth 100000
set_option maxHeartbeats 4000000
/-! repr of data that is tracked -/
namespace MyR
open PySem PySem.Spec PyProof.Rows L2
def kd : Key → PyData
  | .inl i => .int i
  | .inr x => .str x
mutual
/-- what a value shows as data -/
inductive Sh (H : Hp) : V → PyData → Prop
  | non : Sh H .non .none
  | bl (b : Bool) : Sh H (.bl b) (.bool b)
  | int (i : Int) : Sh H (.int i) (.int i)
  | str (x : Str) : Sh H (.str x) (.str x)
  | lst {a : Addr} {xs : List V} {ds : List PyData} : H a = some (.lst xs) → (a == sysModules) = false → ShA H xs ds → Sh H (.ref a) (.list ds)
  | tup {a : Addr} {xs : List V} {ds : List PyData} : H a = some (.tup xs) → ShA H xs ds → Sh H (.ref a) (.tuple ds)
  | dct {a : Addr} {kvs : List (Key × V)} {ds : List PyData} : H a = some (.dK kvs) → ShA H (kvs.map (·.2)) ds → Sh H (.ref a) (.dict ((kvs.map fun p => kd p.1).zip ds))
inductive ShA (H : Hp) : List V → List PyData → Prop
  | nil : ShA H [] []
  | cons {x : V} {d : PyData} {xs : List V} {ds : List PyData} : Sh H x d → ShA H xs ds → ShA H (x :: xs) (d :: ds)
end
theorem ShA.len {H : Hp} : ∀ {xs : List V} {ds : List PyData}, ShA H xs ds → xs.length = ds.length
  | _, _, .nil => rfl
  | _, _, .cons _ t => congrArg Nat.succ (ShA.len t)
mutual
theorem Sh.same {H H' : Hp} (e : ∀ b o, H b = some o → H' b = some o) : ∀ {x : V} {d : PyData}, Sh H x d → Sh H' x d
  | _, _, .non => .non
  | _, _, .bl b => .bl b
  | _, _, .int i => .int i
  | _, _, .str x => .str x
  | _, _, .lst h n r => .lst (e _ _ h) n (ShA.same e r)
  | _, _, .tup h r => .tup (e _ _ h) (ShA.same e r)
  | _, _, .dct h r => .dct (e _ _ h) (ShA.same e r)
theorem ShA.same {H H' : Hp} (e : ∀ b o, H b = some o → H' b = some o) : ∀ {xs : List V} {ds : List PyData}, ShA H xs ds → ShA H' xs ds
  | _, _, .nil => .nil
  | _, _, .cons h t => .cons (Sh.same e h) (ShA.same e t)
end
section
variable {P : Program} {w : World} {H : Hp} {h : Heap}
theorem reads_key {k : Key} {u : Value} (e : keyIs k u = true) : Reads h u (kd k) [] := by
  rcases keyIs_shape e with ⟨i, t, rfl, rfl⟩ | ⟨x, t, rfl, rfl⟩
  · exact .int i t
  · exact .str x t
theorem reads_keys : ∀ {es : List DictEntry} {vs : List (Key × Value)}, Pairs (mixKind P w) es vs → ReadsAll h (es.map (·.key)) (vs.map fun p => kd p.1) []
  | _, _, .nil => .nil
  | _, _, .cons e _ t => ReadsAll.cons (as := []) (bs := []) (reads_key e) (reads_keys t)
theorem vals_of : ∀ {es : List DictEntry} {vs : List (Key × Value)}, Pairs (mixKind P w) es vs → es.map (·.val) = vs.map (·.2)
  | _, _, .nil => rfl
  | _, _, .cons _ e t => by rw [List.map_cons, List.map_cons, e, vals_of t]
theorem kv_keys : ∀ {kvs : List (Key × V)} {vs : List (Key × Value)}, KV kvs vs → (kvs.map fun p => kd p.1) = vs.map fun p => kd p.1
  | _, _, .nil => rfl
  | _, _, .cons r t => by rw [List.map_cons, List.map_cons, r.1, kv_keys t]
theorem kv_vals : ∀ {kvs : List (Key × V)} {vs : List (Key × Value)}, KV kvs vs → Vals (kvs.map (·.2)) (vs.map (·.2))
  | _, _, .nil => .nil
  | _, _, .cons r t => .cons r.2 (kv_vals t)
mutual
theorem reads_of (ok : HOk P w H h) : ∀ {x : V} {d : PyData} {u : Value}, Sh H x d → RelV x u → ∃ as, Reads h u d as ∧ sysModules ∉ as
  | _, _, _, .non, r => ⟨[], by cases (show _ = Value.none from r); exact .none, by simp⟩
  | _, _, _, .bl b, r => ⟨[], by cases (show _ = Value.bool b from r); exact .bool b, by simp⟩
  | _, _, _, .int i, r => by
    obtain ⟨t, rfl⟩ := r
    exact ⟨[], .int i t, by simp⟩
  | _, _, _, .str x, r => by
    obtain ⟨t, rfl⟩ := r
    exact ⟨[], .str x t, by simp⟩
  | _, _, _, .lst (a := a) (xs := xs) e n q, r => by
    cases (show _ = Value.ref a from r)
    obtain ⟨_, its, m, rv, ho⟩ : xs.length ≤ sizeLine ∧ ∃ (its : List Value) (n : Nat), Vals xs its ∧ h.get? a = some { cls := .type "list", data := .seq its.toArray n } := ok a _ e
    obtain ⟨as, z, hs⟩ := reads_all ok q rv
    refine ⟨a :: as, .list ho rfl rfl (by simpa using z), fun hm => ?_⟩
    rcases List.mem_cons.mp hm with e' | hm
    · rw [← e'] at n
      simp at n
    · exact hs hm
  | _, _, _, .tup (a := a) (xs := xs) e q, r => by
    cases (show _ = Value.ref a from r)
    obtain ⟨_, its, rv, o, ho, hc, m, hd⟩ : xs.length ≤ sizeLine ∧ ∃ its : List Value, Vals xs its ∧ IsTup h a its.toArray := ok a _ e
    obtain ⟨as, z, hs⟩ := reads_all ok q rv
    exact ⟨as, .tuple ho hc hd (by simpa using z), hs⟩
  | _, _, _, .dct (a := a) (kvs := kvs) (ds := ds) e q, r => by
    cases (show _ = Value.ref a from r)
    obtain ⟨_, ns, vs, rk, o, es, ep, ho, hx, hd, hk, hp, hn⟩ := dk_of ok e
    obtain ⟨bs, z, hs⟩ := reads_all ok q (kv_vals rk)
    have hl : ds.length = kvs.length := by
      rw [← ShA.len q, List.length_map]
    have e1 : ((kvs.map fun p => kd p.1).zip ds).map (·.1) = vs.map fun p => kd p.1 := by
      rw [List.map_fst_zip (by rw [List.length_map]; omega), kv_keys rk]
    have e2 : ((kvs.map fun p => kd p.1).zip ds).map (·.2) = ds := List.map_snd_zip (by rw [List.length_map]; omega)
    refine ⟨a :: [] ++ bs, .dict (as := []) (bs := bs) ho hx.1 hd ?_ ?_, fun hm => ?_⟩
    · rw [e1]
      exact reads_keys hp
    · rw [e2, vals_of hp]
      exact z
    · rcases List.mem_cons.mp (show sysModules ∈ a :: bs from hm) with e' | hm
      · rw [← e'] at ns
        simp at ns
      · exact hs hm
theorem reads_all (ok : HOk P w H h) : ∀ {xs : List V} {ds : List PyData} {us : List Value}, ShA H xs ds → Vals xs us → ∃ as, ReadsAll h us ds as ∧ sysModules ∉ as
  | _, _, _, .nil, .nil => ⟨[], .nil, by simp⟩
  | _, _, _, .cons q t, .cons r rs => by
    obtain ⟨as, z, hs⟩ := reads_of ok q r
    obtain ⟨bs, z2, hs2⟩ := reads_all ok t rs
    refine ⟨as ++ bs, .cons z z2, fun hm => ?_⟩
    rcases List.mem_append.mp hm with k | k
    · exact hs k
    · exact hs2 k
end
end
/-- repr(x), x data -/
def rRepr : List V → Hp → VK → Prop := fun xs H Q => ∃ (x : V) (d : PyData), xs = [x] ∧ Sh H x d ∧ d.showable = true ∧ d.shown.length ≤ sizeLine ∧ d.depth ≤ 60 ∧ Q (.str d.shown) H
theorem call_repr {X : Cx} (hg : X.A.guards = some []) (hu : X.A.units + 64 < cLine) : CallR X (.builtin "repr") rRepr := by
  intro pins s σ H xs us Q I r h
  obtain ⟨x, d, rfl, q, h1, h2, h3, k⟩ := h
  obtain ⟨u, rfl, ru⟩ := vals1 r
  obtain ⟨as, rd, hs⟩ := reads_of I.hok q ru
  cases rd with
  | none => exact PySem.P.repr_of_none ⟨.str _, H, I.tok _, ⟨_, rfl⟩, k⟩
  | bool b => exact PySem.P.repr_of_bool ⟨.str _, H, I.tok _, ⟨_, rfl⟩, k⟩
  | int i t => exact PySem.P.repr_of_int (by simpa [PyData.showable] using h1) ⟨.str _, H, I.tok _, ⟨_, rfl⟩, k⟩
  | str x t => exact PySem.P.repr_of_str ⟨.str _, H, I.tok _, ⟨_, rfl⟩, k⟩ h2
  | list a1 a2 a3 a4 => exact repr_of_reads' (.list a1 a2 a3 a4) h1 (fun _ => hs) hg (by omega) (fun _ _ z => z) (fun h' u tk kp => ⟨.str _, H, I.kept kp, ⟨_, rfl⟩, k⟩) h2
  | tuple a1 a2 a3 a4 => exact repr_of_reads' (.tuple a1 a2 a3 a4) h1 (fun _ => hs) hg (by omega) (fun _ _ z => z) (fun h' u tk kp => ⟨.str _, H, I.kept kp, ⟨_, rfl⟩, k⟩) h2
  | dict a1 a2 a3 a4 a5 => exact repr_of_reads' (.dict a1 a2 a3 a4 a5) h1 (fun _ => hs) hg (by omega) (fun _ _ z => z) (fun h' u tk kp => ⟨.str _, H, I.kept kp, ⟨_, rfl⟩, k⟩) h2
/-- a list display, its address told apart from sys.modules -/
def tLstS (t : TA) : TE := fun σ H Q => t σ H fun xs H1 => xs.length ≤ sizeLine ∧ ∀ p, H1 p = none → (p == sysModules) = false → Q (.ref p) (upd H1 p (.lst xs))
theorem pe_lstS {X : Cx} {es : List Expr} {t : TA} {pos : Pos} (h : PA X es t) : PE X (.List es pos) (tLstS t) := by
  refine ⟨fun pins s σ H Q I hq => ?_⟩
  refine wpAny_List_spliced (thn (h.run pos pins s σ H _ I hq) fun us s1 ⟨xs, H1, I1, r, z, q⟩ => ⟨by rw [← r.length]; exact z, ?_⟩)
  have new : H1 s1.heap.objs.size = none := I1.hok.fresh (Nat.le_refl _)
  have ns : (s1.heap.objs.size == sysModules) = false := beq_eq_false_iff_ne.mpr (Nat.ne_of_gt I1.big)
  refine ⟨.ref s1.heap.objs.size, upd H1 s1.heap.objs.size (.lst xs), I1.laid (t' := s1.toks) (fun b u e => Heap.get?_push_of_some _ e) (Nat.le_refl _) ?_, rfl, q _ new ns⟩
  exact ⟨z, us, 0, r, Heap.get?_push_size _ rfl⟩
end MyR
end

section
set_option Elab.async false
set_option linter.all false
set_option maxRecDepth 100000
set_option maxHeartbeats 4000000
/-! defs whose promise holds where no guard stands (so that repr shows the whole), and repr of data -/
namespace MyG
open PySem PySem.Spec PyProof.Rows L2
/-- a promise where no guard stands -/
structure FnG (P : Program) (w : World) (K : PySem.W.Frag) (mg : Str → Option Value) (base : Heap) (k : Nat) (f : Addr) (fd : FuncData) (ps : List Str) (sp : Sp) : Prop where
  len : ∀ vs H Q E, sp vs H Q E → vs.length = ps.length
  run : ∀ (A : Around) (outer : List Env) (s : Shared) (H : Hp) (args : Args) (us : List Value) (vs : List V) (Q : VK) (E : XK), A.guards = some [] → Room k A → Env0 P w K mg base A outer s H →
    BindsTo s fd args (ps.zip us) → Vals vs us → sp vs H Q E →
    codeAny (model P w) A (.call (.ref f) args) (CR CX0 outer P w H s Q E) s

section
variable {P : Program} {w : World} {K : PySem.W.Frag} {mg : Str → Option Value} {base : Heap} {k j : Nat} {f : Addr} {fd : FuncData} {ps : List Str} {sp : Sp}
theorem FnG.of (G : FnOk P w K mg base CX0 k f fd ps sp) : FnG P w K mg base k f fd ps sp := ⟨G.len, fun A outer s H args us vs Q E _ => G.run A outer s H args us vs Q E⟩
theorem FnG.mono (G : FnG P w K mg base j f fd ps sp) (h : j ≤ k) : FnG P w K mg base k f fd ps sp := ⟨G.len, fun A outer s H args us vs Q E hg hr => G.run A outer s H args us vs Q E hg (hr.mono h)⟩
/-- the rule for such a def: its body is read where no guard stands -/
theorem fnG_of {name qual : Str} {params : Arguments} {body : List Stmt} {scope : Scope} {dV kV doc pm cdv ct oc : Value} {an od : Option Addr} {osl : Array (Option Value)} {N : List Str}
    (lk : K.lookup f = some ⟨oc, od, .func (PySem.W.fnOf name qual params body scope dV kV doc pm an cdv ct), osl⟩) (hcd : PySem.W.codeIn K cdv qual = true) (S : FnScope N ps scope)
    (len : ∀ vs H Q E, sp vs H Q E → vs.length = ps.length)
    (hbody : ∀ (A : Around) (outer : List Env) (s : Shared) (H : Hp) (vs : List V) (Q : VK) (E : XK), A.guards = some [] → Room k (A.deeper (envOfC qual scope s.heap.objs.size f cdv)) → sp vs H Q E →
      ∃ t, PSs (cxOf CX0 P w K mg base N qual scope f cdv A outer s H E) body t ∧ t { nx := fun _ H' => Q .non H', rt := Q } (start N vs) H) :
    FnG P w K mg base (k + 1) f (PySem.W.fnOf name qual params body scope dV kV doc pm an cdv ct) ps sp := by
  refine ⟨len, fun A outer s H args us vs Q E hgu hr e0 hb r hsp => ?_⟩
  have old : ∀ b o, base.get? b = some o → s.heap.get? b = some o := fun b o z => (e0.bs b o z).1
  have KX : K.In s.heap := e0.mod.kin.keeps old
  have lim : s.heap.NoLimit := e0.mod.nolimit.keeps old
  have kinds : ∀ y ∈ ps.zip us, scope.names.lookup y.1 = some .local ∨ (scope.names.lookup y.1 = some .cell ∧ ((cellsFrom (s.heap.objs.size + 1) scope.names []).lookup y.1).isSome = true) := by
    intro y hy
    obtain ⟨n, v⟩ := y
    rcases S.par n (List.of_mem_zip hy).1 with q | q
    · exact Or.inl q
    · exact Or.inr ⟨q, PySem.W.cellsFrom_some _ _ _ (.inl q)⟩
  refine codeAny_call_function hr.depth (KX _ _ lk) rfl S.co S.gen rfl (PySem.W.codeRec_of KX hcd) (hb _ _ _ _ ?_)
  refine wpAny_newFunctionEnv_cells S.kind kinds fun env he s1 x => ?_
  subst he
  refine ⟨lim.keeps x.toInCall.keep, codeAny_func ?_⟩
  obtain ⟨t, ht, hq⟩ := hbody A outer s H vs Q E hgu (hr.deeper _) hsp
  have I : Inv (cxOf CX0 P w K mg base N qual scope f cdv A outer s H E) [] (start N vs) H s1 := inv_start S hr.hd e0 (len _ _ _ _ hsp) r x
  refine wpAny_mono (ht.run [] s1 (start N vs) H _ I hq) (fun fl s' z => ?_) fun e s' z => z
  cases fl with
  | ret u =>
    obtain ⟨v, σ', H', J, rv, q⟩ := z
    exact ⟨v, H', J.os, J.bare, J.base, J.hok, rv, q⟩
  | next =>
    obtain ⟨σ', H', J, q⟩ := z
    exact ⟨V.non, H', J.os, J.bare, J.base, J.hok, rfl, q⟩
  | brk =>
    obtain ⟨_, _, _, q⟩ := z
    exact q.elim
  | cont =>
    obtain ⟨_, _, _, q⟩ := z
    exact q.elim
theorem okG {x qual : Str} {st : Stmt} {N : List Str} (G : Fun K x qual st f fd) (S : FnScope N ps (defScope st)) (len : ∀ vs H Q E, sp vs H Q E → vs.length = ps.length)
    (hbody : ∀ (cdv : Value) (A : Around) (outer : List Env) (s : Shared) (H : Hp) (vs : List V) (Q : VK) (E : XK), A.guards = some [] → Room k (A.deeper (envOfC qual (defScope st) s.heap.objs.size f cdv)) → sp vs H Q E →
      ∃ t, PSs (cxOf CX0 P w K mg base N qual (defScope st) f cdv A outer s H E).nox (defBody st) t ∧ t { nx := fun _ H' => Q .non H', rt := Q } (start N vs) H) : FnG P w K mg base (k + 1) f fd ps sp := by
  obtain ⟨oc, od, kV, doc, pm, an, cdv, ct, osl, rfl, lk, hcd⟩ := G.ex
  refine fnG_of lk hcd S len fun A outer s H vs Q E hgu hr hsp => ?_
  obtain ⟨t, h, q⟩ := hbody cdv A outer s H vs Q E hgu hr hsp
  exact ⟨t, h.nox, q⟩
end
section
variable {X : Cx} {k : Nat} {f : Addr} {fd : FuncData} {ps : List Str} {sp : Sp} {dvs : List V} {ds : List Value} {x : Str} {p pos : Pos} {e : Expr} {es : List Expr} {t : TA}
theorem run_fnG {pins : List (Addr × Obj)} {σ : L2.St} {H : Hp} {s : Shared} {Q : VK} {us : List Value} {vs : List V} (hgu : X.A.guards = some []) (G : FnG X.prog X.w X.K X.mg X.base k f fd ps sp) (hr : Room k X.A) (hb : Binds X.K fd ps ds) (hd : Vals dvs ds)
    (I : Inv X pins σ H s) (r : Vals vs us) (h : sp (vs ++ dvs) H Q E0) : wpAny (model X.prog X.w) X.A (call (.ref f) us) (EP X pins σ Q) X.xe s := by
  have r2 : Vals (vs ++ dvs) (us ++ ds) := r.append hd
  have hl : (us ++ ds).length = ps.length := by
    rw [← r2.length]
    exact G.len _ _ _ _ h
  refine wpAny_call (codeAny_mono (G.run X.A X.stack s H ⟨us, []⟩ (us ++ ds) (vs ++ dvs) Q E0 hgu hr I.env0 (hb s us I.kIn hl) r2 h) fun r s' z => ?_)
  cases r with
  | error e => exact z.elim
  | ok fl =>
    cases fl with
    | ret u => exact I.after z
    | next => exact z.elim
    | brk => exact z.elim
    | cont => exact z.elim
theorem pe_callG (hgu : X.A.guards = some []) (G : FnG X.prog X.w X.K X.mg X.base k f fd ps sp) (hr : Room k X.A) (hg : Gl X x) (hm : X.mg x = some (.ref f)) (hk : PySem.W.keepIn X.K (.ref f) = true) (hb : Binds X.K fd ps ds) (hd : Vals dvs ds)
    (ha : PA X (e :: es) t) (hdb : (x == ("__debug__" : Str)) = false := by decide) (he : starEach (e :: es) X.env = (false, eval e X.env) :: starEach es X.env := by rfl) (hpl : (backTo pos (starEach es X.env)).any (·.1) = false := by rfl) :
    PE X (.Call (.Name x p) (e :: es) [] pos) (tCall sp dvs E0 t) := by
  refine ⟨fun pins s σ H Q I h => ?_⟩
  refine wpAny_Call_Name_kw (ld_glob I hg hm ?_ hdb)
  refine PySem.W.callWith_K (h₀ := X.base) I.ok.mod.kin hk (thn (ha.run pos pins s σ H _ I h) fun us s1 ⟨vs, H1, I1, r, q⟩ => ⟨I1.kIn, ?_⟩) he hpl
  exact run_fnG hgu G hr hb hd I1 r q
end
/-- the end of a law: its promise where no guard stands -/
theorem law_callG {P : Program} {w : World} {K : PySem.W.Frag} {mg mb : Str → Option Value} {k : Nat} {fa a : Addr} {fd : FuncData} {x : Str} {sp : Sp} {s₁ : Shared} {vs : List Value} {ns : List Int}
    (KX : K.In s₁.heap) (hns : s₁.heap.Ns mainGlobals mg) (hb : s₁.heap.Ns builtinsNs mb) (hbb : ∀ x : Str, x ≠ "__name__" → mb x = bootBuiltins x) (hlim : s₁.heap.NoLimit) (hg : s₁.gens = #[])
    (ha : s₁.heap.get? a = some { cls := .type "list", data := .seq vs.toArray }) (hi : IntsAre vs ns) (hl : ns.length ≤ sizeLine) (hr : Room k callerA)
    (G : ∀ base : Heap, K.In base → base.Ns mainGlobals mg → FnG P w K mg base k fa fd [x] sp) (hbind : ∀ (s : Shared) (u : Value), BindsTo s fd ⟨[u], []⟩ [(x, u)])
    (hsp : ∀ H : Hp, Only H → SqL K H a (ns.map V.int) → sp [.ref a] H (fun v _ => v = .bl true) E0) :
    codeAny (model P w) callerA (.call (.ref fa) ⟨[.ref a], []⟩) (fun r s' => r = .ok (.ret (.bool true)) ∧ OldK s₁.heap s'.heap ∧ s'.os = s₁.os ∧ AllBare s'.gens) s₁ := by
  have rv := vals_ints hi
  have lenV := hi.length
  -- the heap without what is tracked: by cases whether the script is the module's own
  have core : ∀ H : Hp, Only H → SqL K H a (ns.map V.int) → HOk P w H s₁.heap → (∀ b, H b ≠ none → b = a) → (H a ≠ none → K.lookup a = none) →
      codeAny (model P w) callerA (.call (.ref fa) ⟨[.ref a], []⟩) (fun r s' => r = .ok (.ret (.bool true)) ∧ OldK s₁.heap s'.heap ∧ s'.os = s₁.os ∧ AllBare s'.gens) s₁ := by
    intro H hO hS hok hA hK
    have isA : ∀ {b : Addr} {u : HO}, H b = some u → b = a := fun {b u} z => hA b (by rw [z]; simp)
    have noA : ∀ {b : Addr} {o : Obj} {es : Array DictEntry} {ep : Nat}, s₁.heap.get? b = some o → o.data = .dict es ep → H b = none := by
      intro b o es ep e d
      cases q : H b with
      | none => rfl
      | some u =>
        have e' := isA q
        subst e'
        rw [ha] at e
        cases e
        cases (show Data.seq vs.toArray _ = Data.dict es ep from d)
    have nsK : ∀ {b : Addr} {m : Str → Option Value}, s₁.heap.Ns b m → (hidT s₁.heap H).Ns b m := fun {b m} ⟨o, es, ep, e, d, r⟩ => ⟨o, es, ep, hidT_get e (noA e d), d, r⟩
    have hKb : K.In (hidT s₁.heap H) := fun b o e => hidT_get (KX b o e) (by
      cases q : H b with
      | none => rfl
      | some u =>
        have e' := isA q
        subst e'
        rw [hK (by rw [q]; simp)] at e
        cases e)
    have hM : Mod K mg (hidT s₁.heap H) := ⟨hKb, nsK hns, ⟨mb, nsK hb, hbb⟩, let ⟨mc, h1, h2⟩ := hlim; ⟨mc, nsK h1, h2⟩⟩
    have nil : ∀ b : Addr, b ∉ frs [] := fun b z => absurd (show b ∈ ([] : List Addr) from z) (by simp)
    have e0 : Env0 P w K mg (hidT s₁.heap H) callerA [] s₁ H := ⟨rfl, hM, fun b o e => of_hidT e, Nat.le_of_eq (hidT_size _ _), trivial, fun b z => absurd z (nil b), hok, .of_eq hg⟩
    refine codeAny_mono ((G _ hKb (nsK hns)).run callerA [] s₁ H ⟨[.ref a], []⟩ [.ref a] [.ref a] _ E0 rfl hr e0 (hbind s₁ (.ref a)) (.cons rfl .nil) (hsp H hO hS)) fun r s' h => ?_
    cases r with
    | error e => exact h.elim
    | ok fl =>
      cases fl with
      | next => exact h.elim
      | brk => exact h.elim
      | cont => exact h.elim
      | ret u =>
        obtain ⟨v, H', os, bare, un, hok', r', q⟩ := h
        obtain rfl : v = .bl true := q
        obtain rfl : u = Value.bool true := r'
        refine ⟨rfl, OldK.of_keep fun b o e => ?_, os, bare⟩
        cases q : H b with
        | none => exact un.keep b o e q (nil b) (by simp)
        | some u =>
          rcases hO b with z | ⟨ob, xs, z⟩
          · rw [q] at z
            cases z
          · have z2 := un.frzs b ob _ z
            obtain ⟨e1, _⟩ := hok b _ z
            obtain ⟨e2, _⟩ := hok' b _ z2
            rw [e] at e1
            cases e1
            exact e2
  cases hk : K.lookup a with
  | some o =>
    have e := KX a o hk
    rw [ha] at e
    cases e
    refine core (fun _ => none) (fun _ => .inl rfl) (.inr ⟨_, vs.toArray, _, hk, rfl, rfl, rfl, by rw [List.size_toArray, lenV]; exact hl, by simpa using rv⟩) (fun b u z => ?_) (fun b z => absurd rfl z) fun z => absurd rfl z
    cases (show (none : Option HO) = some u from z)
  | none =>
    let one : Hp := fun b => if b = a then some (.frz { cls := .type "list", data := .seq vs.toArray } (.lst (ns.map V.int))) else none
    have at_ : one a = some (.frz { cls := .type "list", data := .seq vs.toArray } (.lst (ns.map V.int))) := if_pos rfl
    have off : ∀ b, b ≠ a → one b = none := fun b hb => if_neg hb
    refine core one (fun b => ?_) (.inl (.inr ⟨_, at_⟩)) (fun b u z => ?_) (fun b z => ?_) fun _ => hk
    · by_cases hb : b = a
      · rw [hb]
        exact .inr ⟨_, _, at_⟩
      · exact .inl (off b hb)
    · by_cases hb : b = a
      · subst hb
        rw [at_] at z
        cases z
        exact ⟨ha, by rw [List.length_map]; exact hl, vs, _, rv, ha⟩
      · rw [off b hb] at z
        cases z
    · by_cases hb : b = a
      · exact hb
      · exact absurd (off b hb) z
theorem walkG {l : PySem.W.OpenLaw} {n k : Nat} {q : Program} {loose : List Str} {XP : (Str → Option Value) → Heap → Prop} {YP : World → Heap → Prop} {d : DefRec} {K : Params → PySem.W.Frag} {sp : World → Sp} {x : Str}
    (hn : l.most = some n) (hn2 : n ≤ sizeLine) (hdf : d.params.defaults = []) (hr : Room k callerA)
    (hY : ∀ (w : World) (h : Heap), YP w h → (K w.params).In h)
    (G : ∀ (w : World) (mg : Str → Option Value) (fa : Addr) (h : Heap), (K w.params).In h → h.Ns mainGlobals mg → mg d.name = some (.ref fa) →
      ∃ fd : FuncData, (∀ (s : Shared) (u : Value), BindsTo s fd ⟨[u], []⟩ [(x, u)]) ∧
        ∀ base : Heap, (K w.params).In base → base.Ns mainGlobals mg → FnG l.prog w (K w.params) mg base k fa fd [x] (sp w))
    (hsp : ∀ (w : World) (H : Hp) (a : Addr) (ns : List Int), ns.length ≤ n → Only H → SqL (K w.params) H a (ns.map V.int) → sp w [.ref a] H (fun v _ => v = .bl true) E0) :
    PySem.W.WalkO q loose XP YP l.row.toRowW d [] (fun f vs => PySem.call f vs) := by
  refine Att.attach_call hn hdf fun w s₀ s₁ mg mb fa o pm cd doc a vs ns T Y ho hd hcd hmg hobj hints hlen hgs => ?_
  have KX := hY w _ Y
  obtain ⟨fd, hb, hF⟩ := G w mg fa _ KX T.T.g hmg
  exact law_callG KX T.T.g T.T.b T.T.builtins T.T.nolimit hgs hobj hints (Nat.le_trans hlen hn2) hr hF hb fun H hO hS => hsp w H a ns hlen hO hS
end MyG
end

section
set_option Elab.async false
set_option linter.all false
set_option maxRecDepth 100000
set_option maxHeartbeats 4000000
namespace PySem
namespace MyN
open PySem.W PySem.Calls PyProof.Rows Builtin Builtin.ObjectAttr Builtin.Getset_descriptor
/-- e.__class__ of an exception object of an own class -/
theorem exc_class {prog : Program} {w : World} {A : Around} {E : Value → Shared → Prop} {s : Shared} {K : Frag} {x C : Addr} {ox : Obj} {od : Option Obj} {expr : Bool} {Q : Value → Shared → Prop} {gt : Option Value}
    (X : K.In s.heap) (I : PySem.W.InstAt s.heap x ox C od) (hga : findIn K (.ref C) "__getattribute__" = some (some (.builtin "BaseException.__getattribute__"))) (hgt : findIn K (.ref C) "__getattr__" = some gt)
    (hsub : subIn K (.ref C) (.type "BaseException") = some true) (hf : findObj K C od "__class__" = some (.bind (.builtin "getset_descriptor.__get__") (.builtin "object.__class__"))) (hm : mroIn K C (.type "object") = some true) (h : Q (.ref C) { s with toks := s.toks + 1 }) :
    wpAny (model prog w) A (getAttr (.ref x) "__class__" expr) Q E s := by
  obtain ⟨hp, g, d, t, os⟩ := s
  have L0 := I.type (M := model prog w)
  have L1 := looks_findIn (M := model prog w) X hga
  have L2 := looks_findIn (M := model prog w) X hgt
  have L3 := looks_find (M := model prog w) X I hf
  have sub : Looks (model prog w) hp (isInstance (.ref x) (.type "BaseException")) true := L0.andThen (looks_subIn X hsub)
  have hx0 : (expr && onTheHeap (Value.builtin "BaseException.__getattribute__")) = false := by cases expr <;> rfl
  have hx2 : (Value.builtin "BaseException.__getattribute__" == Value.builtin "object.__getattribute__") = false := by decide +kernel
  have hx1 : (onTheHeap (Value.ref C) && Value.builtin "BaseException.__getattribute__" == Value.builtin "object.__getattribute__") = false := by rw [hx2]; rfl
  unfold getAttr getAttrBy
  refine wpAny_bind (wpAny_mkText (wpAny_holding (wpAny_bind (L0.at (wpAny_bind (L1.at ?_))))))
  show wpAny _ _ (if (onTheHeap (Value.ref C) && Value.builtin "BaseException.__getattribute__" == Value.builtin "object.__getattribute__") = true then _ else _) _ _ _
  rw [hx1, if_neg Bool.false_ne_true]
  unfold getAttrByItsOwn hookBefore
  refine wpAny_bind ?_
  rw [if_pos (show onTheHeap (Value.ref C) = true from rfl)]
  refine L2.at ?_
  refine wpAny_bind (wpAny_attempt (wpAny_holding ?_))
  unfold callGetattribute
  rw [hx0, if_neg Bool.false_ne_true]
  unfold boundAndCalled
  rw [PySem.F.excAttr_ValueError.ga.bind (.ref x)]
  refine wpAny_bind (wpAny_pure ?_)
  show wpAny _ _ (call (.builtin "BaseException.__getattribute__") [.ref x, .str "__class__" t]) _ _ _
  refine wpAny_call (codeAny_call_builtin PySem.F.excAttr_ValueError.ga.plain PySem.F.entry_bexc_ga ?_)
  refine @check_slot (model prog w) _ _ ⟨hp, g, d, t + 1, os⟩ "BaseException.__getattribute__" "BaseException" "__getattribute__" (.ref x) [.str "__class__" t] [] _ (by decide +kernel) (by decide +kernel) sub (PySem.F.args_bexc_ga (.ref x) (.str "__class__" t)) ?_
  unfold Builtin.«object.__getattribute__»
  refine wpAny_bind (wpAny_of_eq (a := ((Value.ref x : Value), [Value.str "__class__" t])) (by first | rfl | (simp only [slotArgs]; rfl)) ?_)
  refine wpAny_bind (wpAny_pure (wpAny_bind (L0.at (wpAny_bind (L3.at ?_)))))
  refine wpAny_bind (wpAny_holding (wpAny_call (class_get (s := ⟨hp, g, d, t + 1, os⟩) (ox := ox) (od := od) X I hm ?_)))
  refine wpAny_pure ?_
  show wpAny _ _ (handedOut (.ref C)) _ _ _
  rw [handedOut_of (show handedIn (.ref C) = true from rfl)]
  exact wpAny_pure h
theorem nm_dga (d tp : Value) (C : Addr) : descrGetArgs ⟨[d, .ref C, tp], []⟩ = pure (d, some (.ref C), given tp) := by kernel_rfl
section
variable {prog : Program} {w : World} {A : Around} {E : Value → Shared → Prop} {s : Shared} {K : Frag} {R : Result → Shared → Prop} {C : Addr} {v : Value} {o : Obj}
theorem nm_get {tp : Value} (X : K.In s.heap) (ht : typeIn K (.ref C) = some (.type "type")) (hl : K.lookup C = some o) (hs : o.slots[2]? = some (some v)) (h : R (.ok (.ret v)) s) :
    codeAny (model prog w) A (.call (.builtin "getset_descriptor.__get__") ⟨[.builtin "type.__name__", .ref C, tp], []⟩) R s := by
  have ho := X _ _ hl
  obtain ⟨hh, g, dr, t, os⟩ := s
  have L0 : Looks (model prog w) hh (typeOf (.ref C)) (.type "type") := looks_typeIn X ht
  have L1 : Looks (model prog w) hh (isSubtype (.type "type") (.type "type")) true := Looks.of_pure (by rw [isSubtype_type]; kernel_rfl)
  refine codeAny_call_builtin KF.slot_gs.plain KF.entry_gs (KF.slot_gs.check _ _ _ _ _ _ _ _ ktyn_type (KF.args_gs _ _ _) ?_)
  unfold Builtin.«getset_descriptor.__get__» descrGet
  rw [nm_dga]
  refine wpAny_bind (wpAny_pure ?_)
  unfold descrGetter descrCheckInstance descrNameAndClass isInstance
  simp only [ktyn_owner]
  repeat lk
  refine ⟨Code.quiet_builtin _ (by decide +kernel), codeAny_builtin ktyn_entry ?_⟩
  unfold Builtin.«type.__name__» keptObject slotAt
  dsimp only
  refine wpAny_bind (wpAny_bind (wpAny_loadPart ho (wpAny_pure ?_)))
  rw [hs]
  exact wpAny_pure h
end
open PySem PySem.Spec PyProof.Rows L2
/-- what is asked of a class so that its name may be read -/
structure NmC (K : PySem.W.Frag) (C : Addr) (z : Str) : Prop where
  rd : PySem.W.readsIn K C (.type "type") = true
  ty : PySem.W.typeIn K (.ref C) = some (.type "type")
  n1 : PySem.W.findIn K (.type "type") "__name__" = some (some (.builtin "type.__name__"))
  n2 : PySem.W.specialIn K (.builtin "type.__name__") "__get__" = some (some (.builtin "getset_descriptor.__get__"))
  n3 : PySem.W.takesIn K (.builtin "type.__name__") = some true
  sl : ∃ o t, K.lookup C = some o ∧ o.slots[2]? = some (some (.str z t))
theorem NmC.found {K : PySem.W.Frag} {C : Addr} {z : Str} (N : NmC K C z) : PySem.W.findCls K (.ref C) (.type "type") "__name__" = some (.get (.builtin "getset_descriptor.__get__") (.builtin "type.__name__") (.ref C) (.type "type")) := by
  unfold PySem.W.findCls
  rw [N.n1, Option.bind_some]
  dsimp only
  rw [N.n2, Option.bind_some]
  dsimp only
  rw [N.n3, Option.bind_some]
section
variable {X : Cx} {e : Expr} {te : TE} {pos : Pos}
/-- e.__class__, e an exception that is being made -/
def tKl (K : PySem.W.Frag) (te : TE) : TE := fun σ H Q => te σ H fun x H1 => ∃ a C : Addr, x = .ref a ∧ L2.ExcC K C ∧ H1 a = some (exo a C none) ∧ Q (.ref C) H1
theorem pe_kl (he : PE X e te) (hb : attributeBase e "__class__" X.env (eval e X.env) = eval e X.env := by rfl) : PE X (.Attribute e "__class__" pos) (tKl X.K te) := by
  refine ⟨fun pins s σ H Q I h => ?_⟩
  refine attr_of hb (thn (he.run pins s σ H _ I h) fun u s1 ⟨y, H1, I1, ry, a, C, ey, T, ea, q⟩ => ?_)
  subst ey
  obtain rfl : u = Value.ref a := ry
  obtain ⟨t1, ho⟩ := exo_at I1.hok ea
  have J : PySem.W.InstAt s1.heap a { cls := .ref C, dict := none, data := .fields #[.ref t1, .none, .none, .none, .bool false, .none] } C none := ⟨ho, rfl, rfl, trivial⟩
  have hcl : (PySem.W.clsIn X.K C).isSome = true := by
    obtain ⟨cd, hc, _⟩ := PySem.W.any_some T.hd
    rw [hc]
    rfl
  exact exc_class I1.kIn J T.hg T.hk T.hs (PySem.W.findObj_dataE hcl T.ha T.hn T.ht) T.hm ⟨.ref C, H1, I1.tok _, rfl, q⟩
/-- c.__name__, c an own class -/
def tNm (K : PySem.W.Frag) (te : TE) : TE := fun σ H Q => te σ H fun x H1 => ∃ (C : Addr) (z : Str), x = .ref C ∧ NmC K C z ∧ Q (.str z) H1
theorem pe_nm (he : PE X e te) (hb : attributeBase e "__name__" X.env (eval e X.env) = eval e X.env := by rfl) : PE X (.Attribute e "__name__" pos) (tNm X.K te) := by
  refine ⟨fun pins s σ H Q I h => ?_⟩
  refine attr_of hb (thn (he.run pins s σ H _ I h) fun u s1 ⟨y, H1, I1, ry, C, z, ey, N, q⟩ => ?_)
  subst ey
  obtain rfl : u = Value.ref C := ry
  obtain ⟨o, t, hl, hs⟩ := N.sl
  refine PySem.W.cls_bind I1.kIn N.rd N.found ?_
  refine wpAny_call (nm_get (s := { s1 with toks := s1.toks + 1 }) I1.kIn N.ty hl hs ?_)
  show wpAny _ _ (handedOut (.str z t)) _ _ _
  exact PySem.W.handed_on rfl ⟨.str z, H1, I1.tok _, ⟨_, rfl⟩, q⟩
end
end MyN
end PySem
end

section
set_option Elab.async false
set_option linter.all false
set_option maxRecDepth 100000
set_option maxHeartbeats 4000000
namespace My
local macro_rules | `(tactic| walk_at "go") => `(tactic| (repeat (first
  | (refine ⟨_, rfl, ?_⟩)
  | (refine ⟨_, _, rfl, rfl, ?_⟩)
  | (refine ⟨_, _, rfl, ?_⟩)
  | (refine ⟨rfl, ?_⟩)
  | (refine Or.inl ⟨_, rfl, ?_⟩)
  | (refine ⟨_, _, _, _, rfl, rfl, L2.SqL.of (by first | assumption | exact L2.upd_same), rfl, ?_⟩)
  | (refine ⟨_, _, _, _, rfl, rfl, (by first | assumption | exact L2.upd_same), rfl, ?_⟩)
  | (refine And.intro (by first | omega | decide | (unfold L2.CPow; decide) | (unfold L2.CMul; omega) | (unfold L2.CDiv; omega)) ?_))))
open PySem PySem.Spec PyProof.Rows L2 TL
def top (i : Nat) : Stmt := PySem.Challenge.pw_lookdepths_k01_errors_made.main.body.getD i (.Pass ⟨0, 0, 0, 0⟩)
abbrev sPurse : Stmt := top 27
abbrev sMixed : Stmt := top 28
abbrev sDraw : Stmt := top 29
abbrev sPurses : Stmt := top 30
abbrev sOneOf : Stmt := top 31
abbrev sWord : Stmt := top 32
/-- the built-in names that the text leaves as they are -/
structure Bts (mg : Str → Option Value) : Prop where
  sum : mg "sum" = none
  int : mg "int" = none
  max : mg "max" = none
  min : mg "min" = none
  len : mg "len" = none
  range : mg "range" = none
/-- (10 ** 60) ** 8 -/
theorem op_pow8 {X : Cx} : OpR X (binaryOp .Pow) (fun x y H Q => x = .int (10 ^ 60) ∧ y = .int 8 ∧ Q (.int (10 ^ 480)) H) := by
  intro pins s σ H x y v u Q I rx ry h
  obtain ⟨rfl, rfl, q⟩ := h
  obtain ⟨t, rfl⟩ := rx
  obtain ⟨t', rfl⟩ := ry
  refine PySem.AutoIntOps.pow_4 (a := 10 ^ 60) (b := 8) (by decide) (by decide) (by decide +kernel) (by decide +kernel) (by decide +kernel) ?_
  have e : ((10 : Int) ^ 60) ^ (8 : Int).toNat = 10 ^ 480 := by decide +kernel
  rw [e]
  exact ⟨.int _, H, I.tok _, ⟨_, rfl⟩, q⟩
/-- what a purse holds: what is left of the great number, the seed, how often it was asked (at most n times), the place -/
def PurseL (n : Int) (l : List V) : Prop := ∃ a b c d : Int, l = [.int a, .int b, .int c, .int d] ∧ 0 ≤ a ∧ 0 ≤ b ∧ b < 2147483629 ∧ 0 ≤ c ∧ c ≤ n ∧ 0 ≤ d ∧ d ≤ 63
theorem PurseL.mono {n m : Int} {l : List V} (h : PurseL n l) (k : n ≤ m) : PurseL m l := by
  obtain ⟨a, b, c, d, e, h1, h2, h3, h4, h5, h6⟩ := h
  exact ⟨a, b, c, d, e, h1, h2, h3, h4, Int.le_trans h5 k, h6⟩
theorem sum_ones : ∀ {ys : List Str}, (∀ y ∈ ys, y.length = 1) → (ys.map (·.length)).sum = ys.length
  | [], _ => rfl
  | y :: ys, h => by
    rw [List.map_cons, List.sum_cons, h y (List.mem_cons_self ..), sum_ones fun z hz => h z (List.mem_cons_of_mem _ hz), List.length_cons]
    omega
def spPurse (K : PySem.W.Frag) : Sp := fun vs H Q _ => ∃ (a : Addr) (ns : List Int) (i : Int), vs = [.ref a, .int i] ∧ SqL K H a (ns.map V.int) ∧ 0 ≤ i ∧ i ≤ 63 ∧
  ∀ (p q : Addr) (o : HO) (l : List V), H q = none → upd H q o p = none → PurseL 0 l → Q (.ref p) (upd (upd H q o) p (.lst l))
def spMixed : Sp := fun vs H Q _ => ∃ s i t : Int, vs = [.int s, .int i, .int t] ∧ 0 ≤ s ∧ s < 2147483629 ∧ 0 ≤ i ∧ i ≤ 1048576 ∧ 0 ≤ t ∧ t ≤ 63 ∧
  ∀ r : Int, 0 ≤ r → r < 2147483587 → Q (.int r) H
def spDraw : Sp := fun vs H Q _ => ∃ (p : Addr) (m n : Int) (l : List V), vs = [.ref p, .int m] ∧ H p = some (.lst l) ∧ PurseL n l ∧ n ≤ 1000000 ∧ 0 < m ∧ m ≤ 1000 ∧
  ∀ (l' : List V) (r : Int), PurseL (n + 1) l' → 0 ≤ r → r < m → Q (.int r) (upd H p (.lst l'))
theorem bits_le {m : Int} (h0 : 0 < m) (h : m ≤ 1000) : ((Builtin.Int.intBits m : Nat) : Int) < 28 := by
  have : Builtin.Int.intBits m ≤ 10 := by
    unfold Builtin.Int.intBits
    have hm : m.natAbs < 2 ^ 10 := by omega
    split <;> first | omega | (have := (Nat.log2_lt (by omega)).mpr hm; omega)
  omega
section
variable {P : Program} {w : World} {K : PySem.W.Frag} {mg : Str → Option Value} {base : Heap}
theorem scPu : FnScope ["_law_script", "_law_at", "_law_seed"] ["_law_script", "_law_at"] (defScope sPurse) := ⟨rfl, rfl, rfl, by decide +kernel, rfl, by decide +kernel, by decide +kernel⟩
theorem ok_purse {f : Addr} {fd : FuncData} (G : Fun K "_law_purse" "_law_purse" sPurse f fd) (B : Bts mg) : FnOk P w K mg base CX0 1 f fd ["_law_script", "_law_at"] (spPurse K) := by
  refine G.ok scPu (fun vs H Q E h => ?_) (fun cdv A outer s H vs Q E hr h => ?_)
  · obtain ⟨a, ns, i, rfl, _⟩ := h
    rfl
  · obtain ⟨a, ns, i, rfl, hS, h0, h1, k⟩ := h
    refine ⟨_, pss_cons (ps_set (i := 2) scPu.nd rfl (Or.inl rfl) (pe_callB (cr_sum rfl) rfl B.sum boot_sum (pa_cons (pe_slice sl_list (pv 0) (po_some (pv 1)) (po_some (pe_op op_add (pv 1) pe_int))) pa_nil)))
      (pss_one (ps_ret (pe_lst (pa_cons (pe_op op_mod (pe_callTy call_int1 rfl B.int boot_int (pa_cons (pe_callB (call_max2 rfl) rfl B.max boot_max (pa_cons (pe_op op_sub (pv 2) (pe_op op_pow pe_int pe_int)) (pa_cons pe_int pa_nil))) pa_nil)) (pe_op op_pow8 (pe_op op_pow pe_int pe_int) pe_int))
        (pa_cons (pe_op op_mod (pe_callTy call_int1 rfl B.int boot_int (pa_cons (pv 2) pa_nil)) pe_int) (pa_cons pe_int (pa_cons (pv 1) pa_nil))))))), ?_⟩
    walk_at "go"
    refine ⟨a, _, rfl, hS, fun q nq => ?_⟩
    obtain ⟨ms, hms⟩ : ∃ ms : List Int, cutV (ns.map V.int) (some i) (some (i + 1)) = ms.map V.int := ⟨_, (by unfold cutV; rw [← List.map_drop, ← List.map_take])⟩
    rw [hms]

    refine ⟨q, ms, rfl, SqL.of upd_same, ?_⟩
    walk_at "go"
    refine ⟨(show (4 : Nat) ≤ sizeLine by decide), fun p np => k p q _ _ nq np ⟨_, _, _, _, rfl, Int.emod_nonneg _ (by decide), Int.emod_nonneg _ (by decide), Int.emod_lt_of_pos _ (by decide), Int.le_refl _, Int.le_refl _, h0, h1⟩⟩
theorem scMi : FnScope ["_law_seed", "_law_spin", "_law_at", "_law_mixed_here"] ["_law_seed", "_law_spin", "_law_at"] (defScope sMixed) := ⟨rfl, rfl, rfl, by decide +kernel, rfl, by decide +kernel, by decide +kernel⟩
theorem ok_mixed {f : Addr} {fd : FuncData} (G : Fun K "_law_mixed" "_law_mixed" sMixed f fd) (B : Bts mg) : FnOk P w K mg base CX0 1 f fd ["_law_seed", "_law_spin", "_law_at"] spMixed := by
  refine G.ok scMi (fun vs H Q E h => ?_) (fun cdv A outer s H vs Q E hr h => ?_)
  · obtain ⟨s, i, t, rfl, _⟩ := h
    rfl
  · obtain ⟨s, i, t, rfl, h1, h2, h3, h4, h5, h6, k⟩ := h
    refine ⟨_, pss_cons (ps_set (i := 3) scMi.nd rfl (Or.inl rfl) (pe_op op_add (pe_op op_mul (pv 0) pe_int) (pe_op op_mul (pe_op op_mul pe_int (pv 1)) (pv 1))))
      (pss_cons (ps_set (i := 3) scMi.nd rfl (Or.inl rfl) (pe_op op_mod (pe_callTy call_int1 rfl B.int boot_int (pa_cons (pe_op op_add (pe_op op_add (pv 3) (pe_op op_mul pe_int (pv 2))) (pv 1)) pa_nil)) pe_int))
      (pss_cons (ps_set (i := 3) scMi.nd rfl (Or.inl rfl) (pe_op op_mod (pe_callTy call_int1 rfl B.int boot_int (pa_cons (pe_op op_add (pe_op op_mul (pv 3) (pv 3)) pe_int) pa_nil)) pe_int))
      (pss_one (ps_ret (pe_op op_mod (pe_callTy call_int1 rfl B.int boot_int (pa_cons (pe_op op_mul (pv 3) pe_int) pa_nil)) pe_int))))), ?_⟩
    walk_at "go"
    exact k _ (Int.emod_nonneg _ (by decide)) (Int.emod_lt_of_pos _ (by decide))
theorem scDr : FnScope ["_law_purse_here", "_law_many", "_law_drawn", "_law_found", "_law_piece"] ["_law_purse_here", "_law_many"] (defScope sDraw) := ⟨rfl, rfl, rfl, by decide +kernel, rfl, by decide +kernel, by decide +kernel⟩
theorem ok_draw {f fM : Addr} {fd fdM : FuncData} (G : Fun K "_law_draw" "_law_draw" sDraw f fd) (B : Bts mg) (mM : mg "_law_mixed" = some (.ref fM)) (GM : Fun K "_law_mixed" "_law_mixed" sMixed fM fdM) (bM : Binds K fdM ["_law_seed", "_law_spin", "_law_at"] []) :
    FnOk P w K mg base CX0 2 f fd ["_law_purse_here", "_law_many"] spDraw := by
  have OM : FnOk P w K mg base CX0 1 fM fdM ["_law_seed", "_law_spin", "_law_at"] spMixed := ok_mixed GM B
  refine G.ok scDr (fun vs H Q E h => ?_) (fun cdv A outer s H vs Q E hr h => ?_)
  · obtain ⟨p, m, n, l, rfl, _⟩ := h
    rfl
  · obtain ⟨p, m, n, l, rfl, hp, ⟨a, b, c, d, rfl, ha, hb, hb2, hc, hcn, hd, hd2⟩, hn, hm, hm2, k⟩ := h
    refine ⟨_, pss_cons (ps_if (pt_cmpR op_gt (pe_ix ix_list (pv 0) pe_int (fun _ _ => rfl)) pe_int (nomark _))
        (pss_cons (ps_set (i := 2) scDr.nd rfl (Or.inl rfl) (pe_op op_mod (pe_callTy call_int1 rfl B.int boot_int (pa_cons (pe_ix ix_list (pv 0) pe_int (fun _ _ => rfl)) pa_nil)) (pv 1)))
        (pss_cons (ps_asg (pe_op op_fdiv (pe_ix ix_list (pv 0) pe_int (fun _ _ => rfl)) (pv 1)) (pg_sub (pv 0) pe_int set_list))
        (pss_one (ps_ret (pv 2))))) pss_nil)
      (pss_cons (ps_set (i := 3) scDr.nd rfl (Or.inl rfl) pe_int)
      (pss_cons (ps_for PassesOwn.never rfl (pi_range1 rfl B.range (pa_cons (pe_op op_add pe_int (pe_op op_fdiv (pe_bits (pv 1)) pe_int)) pa_nil)) (pg_name (i := 4) scDr.nd rfl (Or.inl rfl))
        (pss_cons (ps_asg (pe_op op_add (pe_ix ix_list (pv 0) pe_int (fun _ _ => rfl)) pe_int) (pg_sub (pv 0) pe_int set_list))
        (pss_one (ps_set (i := 3) scDr.nd rfl (Or.inl rfl) (pe_op op_add (pe_op op_mul (pv 3) pe_int) (pe_call OM hr rfl mM GM.kp bM .nil pass0 (pa_cons (pe_ix ix_list (pv 0) pe_int (fun _ _ => rfl)) (pa_cons (pe_ix ix_list (pv 0) pe_int (fun _ _ => rfl)) (pa_cons (pe_ix ix_list (pv 0) pe_int (fun _ _ => rfl)) pa_nil)))))))))
      (pss_one (ps_ret (pe_op op_mod (pe_callTy call_int1 rfl B.int boot_int (pa_cons (pv 3) pa_nil)) (pv 1)))))), ?_⟩
    walk_at "go"
    have hbits := bits_le hm hm2
    have hbit0 : (0 : Int) ≤ ((Builtin.Int.intBits m : Nat) : Int) := Int.natCast_nonneg _
    refine ite2 (fun c0 => ?_) (fun c0 => ?_)
    · walk_at "go"
      exact k _ _ ⟨_, _, _, _, rfl, Int.ediv_nonneg ha (Int.le_of_lt hm), hb, hb2, hc, by omega, hd, hd2⟩ (Int.emod_nonneg _ (by omega)) (Int.emod_lt_of_pos _ hm)
    · walk_at "go"
      have e1 : (1 + ((Builtin.Int.intBits m : Nat) : Int) / 28).toNat = 1 := by omega
      refine for_range (lo := 0) (n := (1 + ((Builtin.Int.intBits m : Nat) : Int) / 28).toNat) (fun i σ H2 => (i = 0 ∧ σ = [some (.ref p), some (.int m), none, some (.int 0), none] ∧ H2 = H) ∨
        (0 < i ∧ ∃ (f : Int) (v : Option V) (l' : List V), σ = [some (.ref p), some (.int m), none, some (.int f), v] ∧ H2 = upd H p (.lst l') ∧ PurseL (n + 1) l')) (.inl ⟨rfl, rfl, rfl⟩) ?_ ?_
      · rintro i σ H2 hi (⟨rfl, rfl, rfl⟩ | ⟨h0, _⟩)
        · walk_at "go"
          refine ⟨b, c + 1, d, rfl, hb, hb2, by omega, by omega, hd, hd2, fun r r0 r1 => ?_⟩
          walk_at "go"
          exact .inr ⟨by omega, _, _, _, rfl, rfl, _, _, _, _, rfl, ha, hb, hb2, by omega, by omega, hd, hd2⟩
        · omega
      · rintro σ H2 (⟨h0, _⟩ | ⟨h0, f, v, l', rfl, rfl, hl⟩)
        · omega
        · walk_at "go"
          exact k _ _ hl (Int.emod_nonneg _ (by omega)) (Int.emod_lt_of_pos _ hm)

def PursesAt (H H' : Hp) (as : List Addr) : Prop := as.Nodup ∧ (∀ a ∈ as, H a = none) ∧ ∀ a ∈ as, ∃ l, H' a = some (.lst l) ∧ PurseL 0 l
def spPurses (K : PySem.W.Frag) : Sp := fun vs H Q _ => ∃ (a : Addr) (ns : List Int) (m : Int), vs = [.ref a, .int m] ∧ SqL K H a (ns.map V.int) ∧ 0 ≤ m ∧ m ≤ 63 ∧ ns.length ≤ 63 ∧
  ∀ (H' : Hp) (p : Addr) (as : List Addr), Same H H' → H p = none → H' p = some (.lst (as.map V.ref)) → PursesAt H H' as → (p ∉ as) → as.length = (if m > 1 ∧ (ns.length : Int) > 1 then (if (ns.length : Int) < m then ns.length else m.toNat) else 1) → Q (.ref p) H'
theorem scPs : FnScope ["_law_script", "_law_few", "_law_at"] ["_law_script", "_law_few"] (defScope sPurses) := ⟨rfl, rfl, rfl, by decide +kernel, rfl, by decide +kernel, by decide +kernel⟩
theorem ok_purses {f fP : Addr} {fd fdP : FuncData} (G : Fun K "_law_purses" "_law_purses" sPurses f fd) (B : Bts mg) (mP : mg "_law_purse" = some (.ref fP)) (GP : Fun K "_law_purse" "_law_purse" sPurse fP fdP) (bP : Binds K fdP ["_law_script", "_law_at"] []) :
    FnOk P w K mg base CX0 3 f fd ["_law_script", "_law_few"] (spPurses K) := by
  have OP : FnOk P w K mg base CX0 1 fP fdP ["_law_script", "_law_at"] (spPurse K) := ok_purse GP B
  refine G.ok scPs (fun vs H Q E h => ?_) (fun cdv A outer s H vs Q E hr h => ?_)
  · obtain ⟨a, ns, m, rfl, _⟩ := h
    rfl
  · obtain ⟨a, ns, m, rfl, hS, h0, h1, hn, k⟩ := h
    have hr1 : Room 1 _ := hr.mono (by decide)
    refine ⟨_, pss_one (ps_ret (pe_lc (own := [("_law_at", 2)]) (g := gName 2) (tt := tYes) rfl scPs.nd
      (pi_range1 rfl B.range (pa_cons (pe_callB (call_max2 rfl) rfl B.max boot_max (pa_cons pe_int (pa_cons (pe_callB (call_min2 rfl) rfl B.min boot_min (pa_cons (pv 1) (pa_cons (pe_callB call_len_seq rfl B.len boot_len (pa_cons (pv 0) pa_nil)) pa_nil))) pa_nil))) pa_nil))
      (blkOk_by (N := ["_law_script", "_law_few", "_law_at"]) (sc := defScope sPurses) (by decide +kernel)) (fun _ _ _ _ _ => pg_name (i := 2) scPs.nd rfl (Or.inl rfl)) (fun _ _ _ _ _ => pts_nil)
      (fun _ _ _ _ _ => pe_call OP hr1 rfl mP GP.kp bP .nil pass0 (pa_cons (pv 0) (pa_cons (pv 2) pa_nil))))), ?_⟩
    walk_at "go"
    refine ⟨a, _, rfl, .inl hS, ?_⟩
    have hl : ((ns.map V.int).length : Int) = ns.length := by rw [List.length_map]
    rw [hl]
    walk_at "go"
    obtain ⟨J, eJ, hJ0, hJ1, eJ2⟩ : ∃ J : Int, (if (if (ns.length : Int) < m then (ns.length : Int) else m) > 1 then (if (ns.length : Int) < m then (ns.length : Int) else m) else 1) = J ∧ 1 ≤ J ∧ J ≤ 63 ∧
        J.toNat = (if m > 1 ∧ (ns.length : Int) > 1 then (if (ns.length : Int) < m then ns.length else m.toNat) else 1) := by
      refine ⟨_, rfl, ?_, ?_, ?_⟩
      · split <;> split <;> omega
      · split <;> split <;> omega
      · split <;> split <;> split <;> omega
    rw [eJ]
    refine fun D nD => ?_
    refine lc_range (lo := 0) (n := J.toNat) (fun i H2 => ∃ as : List Addr, as.length = i ∧ Same H H2 ∧ H2 D = some (.lst (as.map V.ref)) ∧ PursesAt H H2 as ∧ D ∉ as) ?_ ?_ ?_
    · exact ⟨[], rfl, fun b o e => by rw [upd_ne (ne_of_none e nD)]; exact e, upd_same, ⟨List.nodup_nil, fun a z => by simp at z, fun a z => by simp at z⟩, by simp⟩
    · rintro i H2 hi ⟨as, hlen, sm, hD, ⟨nd, fr, pa⟩, nm⟩
      walk_at "go"
      refine ⟨a, ns, 0 + (i : Int), rfl, sm.seq hS, by omega, by omega, fun p q o l nq np hl => ?_⟩
      have npq : p ≠ q := fun z => by
        rw [z, upd_same] at np
        cases np
      have np2 : H2 p = none := by
        rw [upd_ne npq] at np
        exact np
      have dp : D ≠ p := ne_of_none hD np2
      have dq : D ≠ q := ne_of_none hD nq
      have pas : p ∉ as := fun z => by
        obtain ⟨l', e, _⟩ := pa p z
        rw [np2] at e
        cases e
      refine ⟨as.map V.ref, by rw [upd_ne dp, upd_ne dq]; exact hD, ?_, as ++ [p], ?_, ?_, ?_, ⟨?_, ?_, ?_⟩, ?_⟩
      · rw [List.length_map, hlen]
        exact small1000 (by omega)
      · rw [List.length_append, hlen]
        rfl
      · intro b o' e
        have e2 := sm b o' e
        rw [upd_ne (ne_of_none e nD), upd_ne (ne_of_none e2 np2), upd_ne (ne_of_none e2 nq)]
        exact e2
      · rw [upd_same, List.map_append]
        rfl
      · exact List.nodup_append.mpr ⟨nd, by simp, fun x hx y hy => by
          rw [List.mem_singleton] at hy
          rw [hy]
          exact fun z => pas (z ▸ hx)⟩
      · intro x hx
        rcases List.mem_append.mp hx with hx | hx
        · exact fr x hx
        · rw [List.mem_singleton] at hx
          rw [hx]
          exact sm.free np2
      · intro x hx
        rcases List.mem_append.mp hx with hx | hx
        · obtain ⟨l', e, h'⟩ := pa x hx
          refine ⟨l', ?_, h'⟩
          rw [upd_ne (show x ≠ D from fun z => nm (z ▸ hx)), upd_ne (ne_of_none e np2), upd_ne (ne_of_none e nq)]
          exact e
        · rw [List.mem_singleton] at hx
          rw [hx]
          exact ⟨l, by rw [upd_ne dp.symm]; exact upd_same, hl⟩
      · intro z
        rcases List.mem_append.mp z with z | z
        · exact nm z
        · rw [List.mem_singleton] at z
          exact dp z
    · rintro H2 ⟨as, hlen, sm, hD, pa, nm⟩
      exact k H2 D as sm nD hD pa nm (hlen.trans eJ2)

def spOneOf (K : PySem.W.Frag) : Sp := fun vs H Q _ => ∃ (p q : Addr) (n : Int) (l xs : List V), vs = [.ref p, .ref q] ∧ H p = some (.lst l) ∧ PurseL n l ∧ n ≤ 1000000 ∧ SqL K H q xs ∧ q ≠ p ∧ 0 < xs.length ∧ xs.length ≤ 1000 ∧
  ∀ (l' : List V) (x : V), PurseL (n + 1) l' → x ∈ xs → Q x (upd H p (.lst l'))
theorem scOo : FnScope ["_law_purse_here", "_law_some"] ["_law_purse_here", "_law_some"] (defScope sOneOf) := ⟨rfl, rfl, rfl, by decide +kernel, rfl, by decide +kernel, by decide +kernel⟩
theorem sql_upd {H : Hp} {p q : Addr} {o : HO} {xs : List V} (h : SqL K H q xs) (n : q ≠ p) : SqL K (upd H p o) q xs := by
  rcases h with (h | ⟨o', h⟩) | h
  · exact .inl (.inl (by rw [upd_ne n]; exact h))
  · exact .inl (.inr ⟨o', by rw [upd_ne n]; exact h⟩)
  · exact .inr h
theorem ok_oneof {f fD : Addr} {fd fdD : FuncData} (G : Fun K "_law_one_of" "_law_one_of" sOneOf f fd) (B : Bts mg) (mD : mg "_law_draw" = some (.ref fD)) (kD : PySem.W.keepIn K (.ref fD) = true)
    (OD : FnOk P w K mg base CX0 2 fD fdD ["_law_purse_here", "_law_many"] spDraw) (bD : Binds K fdD ["_law_purse_here", "_law_many"] []) :
    FnOk P w K mg base CX0 3 f fd ["_law_purse_here", "_law_some"] (spOneOf K) := by
  refine G.ok scOo (fun vs H Q E h => ?_) (fun cdv A outer s H vs Q E hr h => ?_)
  · obtain ⟨p, q, n, l, xs, rfl, _⟩ := h
    rfl
  · obtain ⟨p, q, n, l, xs, rfl, hp, hl, hn, hS, nqp, h0, h1, k⟩ := h
    refine ⟨_, pss_one (ps_ret (pe_ix ix_list (pv 1) (pe_call OD hr rfl mD kD bD .nil pass0 (pa_cons (pv 0) (pa_cons (pe_callB call_len_seq rfl B.len boot_len (pa_cons (pv 1) pa_nil)) pa_nil))) (fun _ _ => rfl))), ?_⟩
    walk_at "go"
    refine ⟨q, _, rfl, .inl hS, ?_⟩
    refine ⟨p, (xs.length : Int), n, l, rfl, hp, hl, hn, by omega, by omega, fun l' r hl' r0 r1 => ?_⟩
    have hr2 : r.toNat < xs.length := by omega
    refine ⟨q, xs, r, xs[r.toNat], rfl, rfl, sql_upd hS nqp, ?_, k l' _ hl' (List.getElem_mem _)⟩
    exact at_of (j := r.toNat) (by omega) (List.getElem?_eq_getElem hr2)
def letters : Str := "abcdefghijklmnopqrstuvwxyz"
/-- one to eight letters from a to z -/
def Low (x : Str) : Prop := x.length ≤ 8 ∧ 1 ≤ x.length ∧ ∀ c ∈ tl x, 97 ≤ c ∧ c ≤ 122
theorem letters_low : ∀ c ∈ (Str.cps "abcdefghijklmnopqrstuvwxyz").toList, 97 ≤ c ∧ c ≤ 122 := by decide +kernel
theorem joinL_mem {Pc : Nat → Prop} : ∀ {l : List (List Nat)}, (∀ p ∈ l, ∀ c ∈ p, Pc c) → ∀ c ∈ joinL [] l, Pc c
  | [], _, c, hc => by
    have : c ∈ ([] : List Nat) := hc
    simp at this
  | [p], h, c, hc => h p (List.mem_cons_self ..) c hc
  | p :: q :: r, h, c, hc => by
    have hc' : c ∈ p ++ ([] ++ joinL [] (q :: r)) := hc
    rcases List.mem_append.mp hc' with z | z
    · exact h p (List.mem_cons_self ..) c z
    · exact joinL_mem (fun x hx => h x (List.mem_cons_of_mem _ hx)) c z
theorem join_low {ys : List Str} (h : ∀ y ∈ ys, ∀ c ∈ tl y, 97 ≤ c ∧ c ≤ 122) : ∀ c ∈ tl (Txt.join (Str.ofString "") ys), 97 ≤ c ∧ c ≤ 122 := by
  rw [join_eq, tl_join]
  refine joinL_mem fun p hp => ?_
  obtain ⟨y, hy, rfl⟩ := List.mem_map.mp hp
  exact h y hy
def spWord : Sp := fun vs H Q _ => ∃ (p : Addr) (n : Int) (l : List V), vs = [.ref p] ∧ H p = some (.lst l) ∧ PurseL n l ∧ n ≤ 999000 ∧
  ∀ (H' : Hp) (l' : List V) (x : Str), (∀ b o, H b = some o → b ≠ p → H' b = some o) → H' p = some (.lst l') → PurseL (n + 10) l' → Low x → Q (.str x) H'
theorem scWo : FnScope ["_law_purse_here", "_law_size", "_law_spin"] ["_law_purse_here"] (defScope sWord) := ⟨rfl, rfl, rfl, by decide +kernel, rfl, by decide +kernel, by decide +kernel⟩
theorem ok_word {f fD : Addr} {fd fdD : FuncData} (G : Fun K "_law_word" "_law_word" sWord f fd) (B : Bts mg) (mD : mg "_law_draw" = some (.ref fD)) (kD : PySem.W.keepIn K (.ref fD) = true)
    (OD : FnOk P w K mg base CX0 2 fD fdD ["_law_purse_here", "_law_many"] spDraw) (bD : Binds K fdD ["_law_purse_here", "_law_many"] []) :
    FnOk P w K mg base CX0 4 f fd ["_law_purse_here"] spWord := by
  refine G.ok scWo (fun vs H Q E h => ?_) (fun cdv A outer s H vs Q E hr h => ?_)
  · obtain ⟨p, n, l, rfl, _⟩ := h
    rfl
  · obtain ⟨p, n, l, rfl, hp, hl, hn, k⟩ := h
    have hr1 : Room 2 _ := hr.mono (by decide)
    refine ⟨_, pss_cons (ps_set (i := 1) scWo.nd rfl (Or.inl rfl) (pe_op op_add pe_int (pe_call OD hr1 rfl mD kD bD .nil pass0 (pa_cons (pv 0) (pa_cons
        (pe_ifExp (pt_cmpR op_eq (pe_call OD hr1 rfl mD kD bD .nil pass0 (pa_cons (pv 0) (pa_cons pe_int pa_nil))) pe_int (nomark _)) pe_int pe_int) pa_nil)))))
      (pss_one (ps_ret (pe_join pe_str (pe_lc (own := [("_law_spin", 2)]) (g := gName 2) (tt := tYes) rfl scWo.nd (pi_range1 rfl B.range (pa_cons (pv 1) pa_nil))
        (blkOk_by (N := ["_law_purse_here", "_law_size", "_law_spin"]) (sc := defScope sWord) (by decide +kernel)) (fun _ _ _ _ _ => pg_name (i := 2) scWo.nd rfl (Or.inl rfl)) (fun _ _ _ _ _ => pts_nil)
        (fun _ _ _ _ _ => pe_ix ix_str pe_str (pe_call OD hr1 rfl mD kD bD .nil pass0 (pa_cons (pv 0) (pa_cons pe_int pa_nil))) (fun _ _ => rfl)))))), ?_⟩
    walk_at "go"
    refine ⟨p, 3, n, l, rfl, hp, hl, by omega, by decide, by decide, fun l1 r1 hl1 r10 r11 => ?_⟩
    walk_at "go"
    refine ite2 (fun c => ?_) (fun c => ?_)
    all_goals (
      walk_at "go"
      refine ⟨p, _, n + 1, l1, rfl, upd_same, hl1, by omega, by decide, by decide, fun l2 r2 hl2 r20 r21 => ?_⟩
      have r28 : r2 < 8 := by omega
      rw [upd_upd]
      walk_at "go"
      refine ⟨⟨_, rfl⟩, ?_⟩
      walk_at "go"
      refine fun D nD => ?_
      have nDp : D ≠ p := by
        intro z
        rw [z, upd_same] at nD
        cases nD
      have nDH : H D = none := by
        rw [upd_ne nDp] at nD
        exact nD
      refine lc_range (lo := 0) (n := (1 + r2).toNat) (fun i H2 => ∃ (l' : List V) (ys : List Str), ys.length = i ∧ (∀ b o, H b = some o → b ≠ p → H2 b = some o) ∧ H2 p = some (.lst l') ∧ PurseL (n + 2 + (i : Int)) l' ∧
        H2 D = some (.lst (ys.map V.str)) ∧ ∀ y ∈ ys, y.length = 1 ∧ ∀ c ∈ tl y, 97 ≤ c ∧ c ≤ 122) ?_ ?_ ?_
      · exact ⟨l2, [], rfl, fun b o e hb => by rw [upd_ne (ne_of_none e nDH), upd_ne hb]; exact e, by rw [upd_ne nDp.symm]; exact upd_same, by
          have e : n + 2 + ((0 : Nat) : Int) = n + 1 + 1 := by omega
          rw [e]
          exact hl2, upd_same, by simp⟩
      · rintro i H2 hi ⟨l', ys, hlen, sm, hp2, hl', hD, hys⟩
        walk_at "go"
        refine ⟨p, 26, n + 2 + (i : Int), l', rfl, hp2, hl', by omega, by decide, by decide, fun l3 r3 hl3 r30 r31 => ?_⟩
        obtain ⟨j, rfl⟩ : ∃ j : Nat, r3 = (j : Int) := ⟨r3.toNat, by omega⟩
        have h26 : j < 26 := by omega
        refine ⟨_, (j : Int), (Str.cps "abcdefghijklmnopqrstuvwxyz").toList[j]'(Nat.lt_of_lt_of_eq h26 (by decide +kernel)), rfl, rfl, (by decide), ?_, ?_⟩
        · exact atI_nat (List.getElem?_eq_getElem _)
        · refine ⟨ys.map V.str, by rw [upd_ne nDp]; exact hD, by rw [List.length_map, hlen]; exact small1000 (by omega), l3, ys ++ [_], by rw [List.length_append, hlen]; rfl, ?_, by rw [upd_ne nDp.symm]; exact upd_same, ?_, by rw [upd_same, List.map_append]; rfl, ?_⟩
          · intro b o e hb
            rw [upd_ne (ne_of_none e nDH), upd_ne hb]
            exact sm b o e hb
          · have e : n + 2 + ((i + 1 : Nat) : Int) = n + 2 + (i : Int) + 1 := by omega
            rw [e]
            exact hl3
          · intro y hy
            rcases List.mem_append.mp hy with hy | hy
            · exact hys y hy
            · rw [List.mem_singleton] at hy
              rw [hy]
              refine ⟨rfl, fun c hc => ?_⟩
              have hc' : c ∈ [(Str.cps "abcdefghijklmnopqrstuvwxyz").toList[j]'(Nat.lt_of_lt_of_eq h26 (by decide +kernel))] := hc
              rw [List.mem_singleton] at hc'
              rw [hc']
              exact letters_low _ (List.getElem_mem _)
      · rintro H2 ⟨l', ys, hlen, sm, hp2, hl', hD, hys⟩
        have e1 : (Txt.join (Str.ofString "") ys).length = ys.length := PySem.W.KT.join_ones ys fun y hy => (hys y hy).1
        refine ⟨_, D, ys, rfl, rfl, .inl (SqL.of hD), ?_, ?_⟩
        · have e2 : (ys.map (·.length)).sum = ys.length := sum_ones fun y hy => (hys y hy).1
          have e3 : (Str.ofString "").length = 0 := rfl
          rw [e2, e3]
          omega
        · exact k H2 l' _ sm hp2 (hl'.mono (by omega)) ⟨by rw [e1]; omega, by rw [e1]; omega, join_low fun y hy => (hys y hy).2⟩)
end
end My
end

section
set_option Elab.async false
set_option linter.all false
set_option maxRecDepth 100000
set_option maxHeartbeats 4000000
namespace My
open PySem PySem.Spec PyProof.Rows L2 MyE MyR MyG PySem.MyN
abbrev sLE : Stmt := inClass (top 1) 0
abbrev sIn (i : Nat) : Stmt := inClass (top (2 + i)) 0
/-- an error of the class at C, its field -/
def Err (H : Hp) (a C : Addr) (v : V) : Prop := ∃ (dx : Addr) (z : Str), H a = some (exo a C (some dx)) ∧ H dx = some (exd dx [("value", v), ("word", .str z)])
theorem Err.same {H H' : Hp} {a C : Addr} {v : V} (h : Err H a C v) (e : Same H H') : Err H' a C v := by
  obtain ⟨dx, z, h1, h2⟩ := h
  exact ⟨dx, z, e _ _ h1, e _ _ h2⟩
/-- a class whose objects keep its name -/
structure WdC (K : PySem.W.Frag) (C : Addr) : Prop where
  ex : L2.ExcC K C
  nm : ∃ z, NmC K C z
  nw : PySem.W.findIn K (.ref C) "word" = some none
def spLE (K : PySem.W.Frag) : Sp := fun vs H Q _ => ∃ a C : Addr, vs = [.ref a] ∧ OexC K C ∧ WdC K C ∧ H a = some (exo a C none) ∧ ∀ (dx : Addr) (z : Str), H dx = none → dx ≠ a → Q .non (upd (upd H dx (exd dx [("word", .str z)])) a (exo a C (some dx)))
/-- the promise of each own initialiser: behind it the object bears its field -/
def spIn (K : PySem.W.Frag) : Sp := fun vs H Q _ => ∃ (a C : Addr) (v : V), vs = [.ref a, v] ∧ OexC K C ∧ WdC K C ∧ PySem.W.findIn K (.ref C) "value" = some none ∧ H a = some (exo a C none) ∧
  ∀ H', (∀ b o, H b = some o → b ≠ a → H' b = some o) → Err H' a C v → Q .non H'
/-- the base class -/
structure BaseT (K : PySem.W.Frag) (mg : Str → Option Value) (L fL : Addr) : Prop where
  ve : mg "ValueError" = none
  vV : PySem.W.findCls K (.type "ValueError") (.type "type") "__init__" = some (.val (.builtin "ValueError.__init__"))
  mL : mg "LookError" = some (.ref L)
  rd : PySem.W.readsIn K L (.type "type") = true
  ga : PySem.W.specialIn K (.ref L) "__getattribute__" = some (some (.builtin "type.__getattribute__"))
  fv : PySem.W.findCls K (.ref L) (.type "type") "__init__" = some (.val (.ref fL))
section
variable {P : Program} {w : World} {K : PySem.W.Frag} {mg : Str → Option Value} {base : Heap} {L fL : Addr} {fdL : FuncData}
theorem scLE : FnScope ["self"] ["self"] (defScope sLE) := ⟨rfl, rfl, rfl, by decide +kernel, rfl, by decide +kernel, by decide +kernel⟩
theorem ok_le (G : Fun K "__init__" "LookError.__init__" sLE fL fdL) (T : BaseT K mg L fL) : FnOk P w K mg base CX0 1 fL fdL ["self"] (spLE K) := by
  refine G.ok scLE (fun vs H Q E h => ?_) (fun cdv A outer s H vs Q E hr h => ?_)
  · obtain ⟨a, C, rfl, _⟩ := h
    rfl
  · obtain ⟨a, C, rfl, hC, hW, ha, k⟩ := h
    obtain ⟨z, hz⟩ := hW.nm
    refine ⟨_, pss_cons (ps_expr (pe_veinit rfl T.ve T.vV (pa_cons (pv 0) pa_nil))) (pss_one (ps_ost (pv 0) (pe_nm (pe_kl (pv 0))))), ?_⟩
    refine ⟨_, rfl, a, C, [], rfl, by decide, hC, ha, ?_⟩
    refine ⟨_, rfl, a, C, rfl, hW.ex, ha, C, z, rfl, hz, ?_⟩
    exact ⟨_, rfl, a, C, rfl, hC, hW.nw, .inl ⟨ha, fun dx nd ne => k dx z nd ne⟩⟩
theorem scI0 : FnScope ["self", "value"] ["self", "value"] (defScope (sIn 0)) := ⟨rfl, rfl, rfl, by decide +kernel, rfl, by decide +kernel, by decide +kernel⟩
theorem ok_in0 {q : Str} {f : Addr} {fd : FuncData} (G : FunD K "__init__" q (defArgs (sIn 0)) (defBody (sIn 0)) (defScope (sIn 0)) [.non] [] f fd) (T : BaseT K mg L fL) (GL : Fun K "__init__" "LookError.__init__" sLE fL fdL) (bL : Binds K fdL ["self"] []) :
    FnOk P w K mg base CX0 2 f fd ["self", "value"] (spIn K) := by
  have OL : FnOk P w K mg base CX0 1 fL fdL ["self"] (spLE K) := ok_le GL T
  refine G.ok scI0 (fun vs H Q E h => ?_) (fun cdv A outer s H vs Q E hr h => ?_)
  · obtain ⟨a, C, v, rfl, _⟩ := h
    rfl
  · obtain ⟨a, C, v, rfl, hC, hW, hno, ha, k⟩ := h
    refine ⟨_, pss_cons (ps_expr (pe_clsfn rfl T.mL T.rd T.ga T.fv GL.kp OL hr bL .nil (pa_cons (pv 0) pa_nil))) (pss_one (ps_ost (pv 0) (pv 1))), ?_⟩
    refine ⟨_, rfl, a, C, rfl, hC, hW, ha, fun dx z nd ne => ?_⟩
    refine ⟨_, rfl, _, rfl, a, C, rfl, hC, hno, .inr ⟨dx, [("word", .str z)], upd_same, (upd_ne ne).trans upd_same, (show (1 : Nat) ≤ 900 by decide), ?_⟩⟩
    refine k _ (fun b o e hb => ?_) ⟨dx, z, ?_, upd_same⟩
    · rw [upd_ne (ne_of_none e nd), upd_ne hb, upd_ne (ne_of_none e nd)]
      exact e
    · rw [upd_ne (Ne.symm ne)]
      exact upd_same
theorem scI1 : FnScope ["self", "value"] ["self", "value"] (defScope (sIn 1)) := ⟨rfl, rfl, rfl, by decide +kernel, rfl, by decide +kernel, by decide +kernel⟩
theorem ok_in1 {q : Str} {f : Addr} {fd : FuncData} (G : FunD K "__init__" q (defArgs (sIn 1)) (defBody (sIn 1)) (defScope (sIn 1)) [.non] [] f fd) (T : BaseT K mg L fL) (GL : Fun K "__init__" "LookError.__init__" sLE fL fdL) (bL : Binds K fdL ["self"] []) :
    FnOk P w K mg base CX0 2 f fd ["self", "value"] (spIn K) := by
  have OL : FnOk P w K mg base CX0 1 fL fdL ["self"] (spLE K) := ok_le GL T
  refine G.ok scI1 (fun vs H Q E h => ?_) (fun cdv A outer s H vs Q E hr h => ?_)
  · obtain ⟨a, C, v, rfl, _⟩ := h
    rfl
  · obtain ⟨a, C, v, rfl, hC, hW, hno, ha, k⟩ := h
    refine ⟨_, pss_cons (ps_expr (pe_clsfn rfl T.mL T.rd T.ga T.fv GL.kp OL hr bL .nil (pa_cons (pv 0) pa_nil))) (pss_one (ps_ost (pv 0) (pv 1))), ?_⟩
    refine ⟨_, rfl, a, C, rfl, hC, hW, ha, fun dx z nd ne => ?_⟩
    refine ⟨_, rfl, _, rfl, a, C, rfl, hC, hno, .inr ⟨dx, [("word", .str z)], upd_same, (upd_ne ne).trans upd_same, (show (1 : Nat) ≤ 900 by decide), ?_⟩⟩
    refine k _ (fun b o e hb => ?_) ⟨dx, z, ?_, upd_same⟩
    · rw [upd_ne (ne_of_none e nd), upd_ne hb, upd_ne (ne_of_none e nd)]
      exact e
    · rw [upd_ne (Ne.symm ne)]
      exact upd_same
theorem scI2 : FnScope ["self", "value"] ["self", "value"] (defScope (sIn 2)) := ⟨rfl, rfl, rfl, by decide +kernel, rfl, by decide +kernel, by decide +kernel⟩
theorem ok_in2 {q : Str} {f : Addr} {fd : FuncData} (G : FunD K "__init__" q (defArgs (sIn 2)) (defBody (sIn 2)) (defScope (sIn 2)) [.non] [] f fd) (T : BaseT K mg L fL) (GL : Fun K "__init__" "LookError.__init__" sLE fL fdL) (bL : Binds K fdL ["self"] []) :
    FnOk P w K mg base CX0 2 f fd ["self", "value"] (spIn K) := by
  have OL : FnOk P w K mg base CX0 1 fL fdL ["self"] (spLE K) := ok_le GL T
  refine G.ok scI2 (fun vs H Q E h => ?_) (fun cdv A outer s H vs Q E hr h => ?_)
  · obtain ⟨a, C, v, rfl, _⟩ := h
    rfl
  · obtain ⟨a, C, v, rfl, hC, hW, hno, ha, k⟩ := h
    refine ⟨_, pss_cons (ps_expr (pe_clsfn rfl T.mL T.rd T.ga T.fv GL.kp OL hr bL .nil (pa_cons (pv 0) pa_nil))) (pss_one (ps_ost (pv 0) (pv 1))), ?_⟩
    refine ⟨_, rfl, a, C, rfl, hC, hW, ha, fun dx z nd ne => ?_⟩
    refine ⟨_, rfl, _, rfl, a, C, rfl, hC, hno, .inr ⟨dx, [("word", .str z)], upd_same, (upd_ne ne).trans upd_same, (show (1 : Nat) ≤ 900 by decide), ?_⟩⟩
    refine k _ (fun b o e hb => ?_) ⟨dx, z, ?_, upd_same⟩
    · rw [upd_ne (ne_of_none e nd), upd_ne hb, upd_ne (ne_of_none e nd)]
      exact e
    · rw [upd_ne (Ne.symm ne)]
      exact upd_same
theorem scI3 : FnScope ["self", "value"] ["self", "value"] (defScope (sIn 3)) := ⟨rfl, rfl, rfl, by decide +kernel, rfl, by decide +kernel, by decide +kernel⟩
theorem ok_in3 {q : Str} {f : Addr} {fd : FuncData} (G : FunD K "__init__" q (defArgs (sIn 3)) (defBody (sIn 3)) (defScope (sIn 3)) [.non] [] f fd) (T : BaseT K mg L fL) (GL : Fun K "__init__" "LookError.__init__" sLE fL fdL) (bL : Binds K fdL ["self"] []) :
    FnOk P w K mg base CX0 2 f fd ["self", "value"] (spIn K) := by
  have OL : FnOk P w K mg base CX0 1 fL fdL ["self"] (spLE K) := ok_le GL T
  refine G.ok scI3 (fun vs H Q E h => ?_) (fun cdv A outer s H vs Q E hr h => ?_)
  · obtain ⟨a, C, v, rfl, _⟩ := h
    rfl
  · obtain ⟨a, C, v, rfl, hC, hW, hno, ha, k⟩ := h
    refine ⟨_, pss_cons (ps_expr (pe_clsfn rfl T.mL T.rd T.ga T.fv GL.kp OL hr bL .nil (pa_cons (pv 0) pa_nil))) (pss_one (ps_ost (pv 0) (pv 1))), ?_⟩
    refine ⟨_, rfl, a, C, rfl, hC, hW, ha, fun dx z nd ne => ?_⟩
    refine ⟨_, rfl, _, rfl, a, C, rfl, hC, hno, .inr ⟨dx, [("word", .str z)], upd_same, (upd_ne ne).trans upd_same, (show (1 : Nat) ≤ 900 by decide), ?_⟩⟩
    refine k _ (fun b o e hb => ?_) ⟨dx, z, ?_, upd_same⟩
    · rw [upd_ne (ne_of_none e nd), upd_ne hb, upd_ne (ne_of_none e nd)]
      exact e
    · rw [upd_ne (Ne.symm ne)]
      exact upd_same
theorem scI4 : FnScope ["self", "value"] ["self", "value"] (defScope (sIn 4)) := ⟨rfl, rfl, rfl, by decide +kernel, rfl, by decide +kernel, by decide +kernel⟩
theorem ok_in4 {q : Str} {f : Addr} {fd : FuncData} (G : FunD K "__init__" q (defArgs (sIn 4)) (defBody (sIn 4)) (defScope (sIn 4)) [.non] [] f fd) (T : BaseT K mg L fL) (GL : Fun K "__init__" "LookError.__init__" sLE fL fdL) (bL : Binds K fdL ["self"] []) :
    FnOk P w K mg base CX0 2 f fd ["self", "value"] (spIn K) := by
  have OL : FnOk P w K mg base CX0 1 fL fdL ["self"] (spLE K) := ok_le GL T
  refine G.ok scI4 (fun vs H Q E h => ?_) (fun cdv A outer s H vs Q E hr h => ?_)
  · obtain ⟨a, C, v, rfl, _⟩ := h
    rfl
  · obtain ⟨a, C, v, rfl, hC, hW, hno, ha, k⟩ := h
    refine ⟨_, pss_cons (ps_expr (pe_clsfn rfl T.mL T.rd T.ga T.fv GL.kp OL hr bL .nil (pa_cons (pv 0) pa_nil))) (pss_one (ps_ost (pv 0) (pv 1))), ?_⟩
    refine ⟨_, rfl, a, C, rfl, hC, hW, ha, fun dx z nd ne => ?_⟩
    refine ⟨_, rfl, _, rfl, a, C, rfl, hC, hno, .inr ⟨dx, [("word", .str z)], upd_same, (upd_ne ne).trans upd_same, (show (1 : Nat) ≤ 900 by decide), ?_⟩⟩
    refine k _ (fun b o e hb => ?_) ⟨dx, z, ?_, upd_same⟩
    · rw [upd_ne (ne_of_none e nd), upd_ne hb, upd_ne (ne_of_none e nd)]
      exact e
    · rw [upd_ne (Ne.symm ne)]
      exact upd_same
theorem scI5 : FnScope ["self", "value"] ["self", "value"] (defScope (sIn 5)) := ⟨rfl, rfl, rfl, by decide +kernel, rfl, by decide +kernel, by decide +kernel⟩
theorem ok_in5 {q : Str} {f : Addr} {fd : FuncData} (G : FunD K "__init__" q (defArgs (sIn 5)) (defBody (sIn 5)) (defScope (sIn 5)) [.non] [] f fd) (T : BaseT K mg L fL) (GL : Fun K "__init__" "LookError.__init__" sLE fL fdL) (bL : Binds K fdL ["self"] []) :
    FnOk P w K mg base CX0 2 f fd ["self", "value"] (spIn K) := by
  have OL : FnOk P w K mg base CX0 1 fL fdL ["self"] (spLE K) := ok_le GL T
  refine G.ok scI5 (fun vs H Q E h => ?_) (fun cdv A outer s H vs Q E hr h => ?_)
  · obtain ⟨a, C, v, rfl, _⟩ := h
    rfl
  · obtain ⟨a, C, v, rfl, hC, hW, hno, ha, k⟩ := h
    refine ⟨_, pss_cons (ps_expr (pe_clsfn rfl T.mL T.rd T.ga T.fv GL.kp OL hr bL .nil (pa_cons (pv 0) pa_nil))) (pss_one (ps_ost (pv 0) (pv 1))), ?_⟩
    refine ⟨_, rfl, a, C, rfl, hC, hW, ha, fun dx z nd ne => ?_⟩
    refine ⟨_, rfl, _, rfl, a, C, rfl, hC, hno, .inr ⟨dx, [("word", .str z)], upd_same, (upd_ne ne).trans upd_same, (show (1 : Nat) ≤ 900 by decide), ?_⟩⟩
    refine k _ (fun b o e hb => ?_) ⟨dx, z, ?_, upd_same⟩
    · rw [upd_ne (ne_of_none e nd), upd_ne hb, upd_ne (ne_of_none e nd)]
      exact e
    · rw [upd_ne (Ne.symm ne)]
      exact upd_same
theorem scI6 : FnScope ["self", "value"] ["self", "value"] (defScope (sIn 6)) := ⟨rfl, rfl, rfl, by decide +kernel, rfl, by decide +kernel, by decide +kernel⟩
theorem ok_in6 {q : Str} {f : Addr} {fd : FuncData} (G : FunD K "__init__" q (defArgs (sIn 6)) (defBody (sIn 6)) (defScope (sIn 6)) [.non] [] f fd) (T : BaseT K mg L fL) (GL : Fun K "__init__" "LookError.__init__" sLE fL fdL) (bL : Binds K fdL ["self"] []) :
    FnOk P w K mg base CX0 2 f fd ["self", "value"] (spIn K) := by
  have OL : FnOk P w K mg base CX0 1 fL fdL ["self"] (spLE K) := ok_le GL T
  refine G.ok scI6 (fun vs H Q E h => ?_) (fun cdv A outer s H vs Q E hr h => ?_)
  · obtain ⟨a, C, v, rfl, _⟩ := h
    rfl
  · obtain ⟨a, C, v, rfl, hC, hW, hno, ha, k⟩ := h
    refine ⟨_, pss_cons (ps_expr (pe_clsfn rfl T.mL T.rd T.ga T.fv GL.kp OL hr bL .nil (pa_cons (pv 0) pa_nil))) (pss_one (ps_ost (pv 0) (pv 1))), ?_⟩
    refine ⟨_, rfl, a, C, rfl, hC, hW, ha, fun dx z nd ne => ?_⟩
    refine ⟨_, rfl, _, rfl, a, C, rfl, hC, hno, .inr ⟨dx, [("word", .str z)], upd_same, (upd_ne ne).trans upd_same, (show (1 : Nat) ≤ 900 by decide), ?_⟩⟩
    refine k _ (fun b o e hb => ?_) ⟨dx, z, ?_, upd_same⟩
    · rw [upd_ne (ne_of_none e nd), upd_ne hb, upd_ne (ne_of_none e nd)]
      exact e
    · rw [upd_ne (Ne.symm ne)]
      exact upd_same
theorem scI7 : FnScope ["self", "value"] ["self", "value"] (defScope (sIn 7)) := ⟨rfl, rfl, rfl, by decide +kernel, rfl, by decide +kernel, by decide +kernel⟩
theorem ok_in7 {q : Str} {f : Addr} {fd : FuncData} (G : FunD K "__init__" q (defArgs (sIn 7)) (defBody (sIn 7)) (defScope (sIn 7)) [.non] [] f fd) (T : BaseT K mg L fL) (GL : Fun K "__init__" "LookError.__init__" sLE fL fdL) (bL : Binds K fdL ["self"] []) :
    FnOk P w K mg base CX0 2 f fd ["self", "value"] (spIn K) := by
  have OL : FnOk P w K mg base CX0 1 fL fdL ["self"] (spLE K) := ok_le GL T
  refine G.ok scI7 (fun vs H Q E h => ?_) (fun cdv A outer s H vs Q E hr h => ?_)
  · obtain ⟨a, C, v, rfl, _⟩ := h
    rfl
  · obtain ⟨a, C, v, rfl, hC, hW, hno, ha, k⟩ := h
    refine ⟨_, pss_cons (ps_expr (pe_clsfn rfl T.mL T.rd T.ga T.fv GL.kp OL hr bL .nil (pa_cons (pv 0) pa_nil))) (pss_one (ps_ost (pv 0) (pv 1))), ?_⟩
    refine ⟨_, rfl, a, C, rfl, hC, hW, ha, fun dx z nd ne => ?_⟩
    refine ⟨_, rfl, _, rfl, a, C, rfl, hC, hno, .inr ⟨dx, [("word", .str z)], upd_same, (upd_ne ne).trans upd_same, (show (1 : Nat) ≤ 900 by decide), ?_⟩⟩
    refine k _ (fun b o e hb => ?_) ⟨dx, z, ?_, upd_same⟩
    · rw [upd_ne (ne_of_none e nd), upd_ne hb, upd_ne (ne_of_none e nd)]
      exact e
    · rw [upd_ne (Ne.symm ne)]
      exact upd_same
theorem scI8 : FnScope ["self", "value"] ["self", "value"] (defScope (sIn 8)) := ⟨rfl, rfl, rfl, by decide +kernel, rfl, by decide +kernel, by decide +kernel⟩
theorem ok_in8 {q : Str} {f : Addr} {fd : FuncData} (G : FunD K "__init__" q (defArgs (sIn 8)) (defBody (sIn 8)) (defScope (sIn 8)) [.non] [] f fd) (T : BaseT K mg L fL) (GL : Fun K "__init__" "LookError.__init__" sLE fL fdL) (bL : Binds K fdL ["self"] []) :
    FnOk P w K mg base CX0 2 f fd ["self", "value"] (spIn K) := by
  have OL : FnOk P w K mg base CX0 1 fL fdL ["self"] (spLE K) := ok_le GL T
  refine G.ok scI8 (fun vs H Q E h => ?_) (fun cdv A outer s H vs Q E hr h => ?_)
  · obtain ⟨a, C, v, rfl, _⟩ := h
    rfl
  · obtain ⟨a, C, v, rfl, hC, hW, hno, ha, k⟩ := h
    refine ⟨_, pss_cons (ps_expr (pe_clsfn rfl T.mL T.rd T.ga T.fv GL.kp OL hr bL .nil (pa_cons (pv 0) pa_nil))) (pss_one (ps_ost (pv 0) (pv 1))), ?_⟩
    refine ⟨_, rfl, a, C, rfl, hC, hW, ha, fun dx z nd ne => ?_⟩
    refine ⟨_, rfl, _, rfl, a, C, rfl, hC, hno, .inr ⟨dx, [("word", .str z)], upd_same, (upd_ne ne).trans upd_same, (show (1 : Nat) ≤ 900 by decide), ?_⟩⟩
    refine k _ (fun b o e hb => ?_) ⟨dx, z, ?_, upd_same⟩
    · rw [upd_ne (ne_of_none e nd), upd_ne hb, upd_ne (ne_of_none e nd)]
      exact e
    · rw [upd_ne (Ne.symm ne)]
      exact upd_same
theorem scI9 : FnScope ["self", "value"] ["self", "value"] (defScope (sIn 9)) := ⟨rfl, rfl, rfl, by decide +kernel, rfl, by decide +kernel, by decide +kernel⟩
theorem ok_in9 {q : Str} {f : Addr} {fd : FuncData} (G : FunD K "__init__" q (defArgs (sIn 9)) (defBody (sIn 9)) (defScope (sIn 9)) [.non] [] f fd) (T : BaseT K mg L fL) (GL : Fun K "__init__" "LookError.__init__" sLE fL fdL) (bL : Binds K fdL ["self"] []) :
    FnOk P w K mg base CX0 2 f fd ["self", "value"] (spIn K) := by
  have OL : FnOk P w K mg base CX0 1 fL fdL ["self"] (spLE K) := ok_le GL T
  refine G.ok scI9 (fun vs H Q E h => ?_) (fun cdv A outer s H vs Q E hr h => ?_)
  · obtain ⟨a, C, v, rfl, _⟩ := h
    rfl
  · obtain ⟨a, C, v, rfl, hC, hW, hno, ha, k⟩ := h
    refine ⟨_, pss_cons (ps_expr (pe_clsfn rfl T.mL T.rd T.ga T.fv GL.kp OL hr bL .nil (pa_cons (pv 0) pa_nil))) (pss_one (ps_ost (pv 0) (pv 1))), ?_⟩
    refine ⟨_, rfl, a, C, rfl, hC, hW, ha, fun dx z nd ne => ?_⟩
    refine ⟨_, rfl, _, rfl, a, C, rfl, hC, hno, .inr ⟨dx, [("word", .str z)], upd_same, (upd_ne ne).trans upd_same, (show (1 : Nat) ≤ 900 by decide), ?_⟩⟩
    refine k _ (fun b o e hb => ?_) ⟨dx, z, ?_, upd_same⟩
    · rw [upd_ne (ne_of_none e nd), upd_ne hb, upd_ne (ne_of_none e nd)]
      exact e
    · rw [upd_ne (Ne.symm ne)]
      exact upd_same
theorem scI10 : FnScope ["self", "value"] ["self", "value"] (defScope (sIn 10)) := ⟨rfl, rfl, rfl, by decide +kernel, rfl, by decide +kernel, by decide +kernel⟩
theorem ok_in10 {q : Str} {f : Addr} {fd : FuncData} (G : FunD K "__init__" q (defArgs (sIn 10)) (defBody (sIn 10)) (defScope (sIn 10)) [.non] [] f fd) (T : BaseT K mg L fL) (GL : Fun K "__init__" "LookError.__init__" sLE fL fdL) (bL : Binds K fdL ["self"] []) :
    FnOk P w K mg base CX0 2 f fd ["self", "value"] (spIn K) := by
  have OL : FnOk P w K mg base CX0 1 fL fdL ["self"] (spLE K) := ok_le GL T
  refine G.ok scI10 (fun vs H Q E h => ?_) (fun cdv A outer s H vs Q E hr h => ?_)
  · obtain ⟨a, C, v, rfl, _⟩ := h
    rfl
  · obtain ⟨a, C, v, rfl, hC, hW, hno, ha, k⟩ := h
    refine ⟨_, pss_cons (ps_expr (pe_clsfn rfl T.mL T.rd T.ga T.fv GL.kp OL hr bL .nil (pa_cons (pv 0) pa_nil))) (pss_one (ps_ost (pv 0) (pv 1))), ?_⟩
    refine ⟨_, rfl, a, C, rfl, hC, hW, ha, fun dx z nd ne => ?_⟩
    refine ⟨_, rfl, _, rfl, a, C, rfl, hC, hno, .inr ⟨dx, [("word", .str z)], upd_same, (upd_ne ne).trans upd_same, (show (1 : Nat) ≤ 900 by decide), ?_⟩⟩
    refine k _ (fun b o e hb => ?_) ⟨dx, z, ?_, upd_same⟩
    · rw [upd_ne (ne_of_none e nd), upd_ne hb, upd_ne (ne_of_none e nd)]
      exact e
    · rw [upd_ne (Ne.symm ne)]
      exact upd_same
theorem scI11 : FnScope ["self", "value"] ["self", "value"] (defScope (sIn 11)) := ⟨rfl, rfl, rfl, by decide +kernel, rfl, by decide +kernel, by decide +kernel⟩
theorem ok_in11 {q : Str} {f : Addr} {fd : FuncData} (G : FunD K "__init__" q (defArgs (sIn 11)) (defBody (sIn 11)) (defScope (sIn 11)) [.non] [] f fd) (T : BaseT K mg L fL) (GL : Fun K "__init__" "LookError.__init__" sLE fL fdL) (bL : Binds K fdL ["self"] []) :
    FnOk P w K mg base CX0 2 f fd ["self", "value"] (spIn K) := by
  have OL : FnOk P w K mg base CX0 1 fL fdL ["self"] (spLE K) := ok_le GL T
  refine G.ok scI11 (fun vs H Q E h => ?_) (fun cdv A outer s H vs Q E hr h => ?_)
  · obtain ⟨a, C, v, rfl, _⟩ := h
    rfl
  · obtain ⟨a, C, v, rfl, hC, hW, hno, ha, k⟩ := h
    refine ⟨_, pss_cons (ps_expr (pe_clsfn rfl T.mL T.rd T.ga T.fv GL.kp OL hr bL .nil (pa_cons (pv 0) pa_nil))) (pss_one (ps_ost (pv 0) (pv 1))), ?_⟩
    refine ⟨_, rfl, a, C, rfl, hC, hW, ha, fun dx z nd ne => ?_⟩
    refine ⟨_, rfl, _, rfl, a, C, rfl, hC, hno, .inr ⟨dx, [("word", .str z)], upd_same, (upd_ne ne).trans upd_same, (show (1 : Nat) ≤ 900 by decide), ?_⟩⟩
    refine k _ (fun b o e hb => ?_) ⟨dx, z, ?_, upd_same⟩
    · rw [upd_ne (ne_of_none e nd), upd_ne hb, upd_ne (ne_of_none e nd)]
      exact e
    · rw [upd_ne (Ne.symm ne)]
      exact upd_same
theorem scI12 : FnScope ["self", "value"] ["self", "value"] (defScope (sIn 12)) := ⟨rfl, rfl, rfl, by decide +kernel, rfl, by decide +kernel, by decide +kernel⟩
theorem ok_in12 {q : Str} {f : Addr} {fd : FuncData} (G : FunD K "__init__" q (defArgs (sIn 12)) (defBody (sIn 12)) (defScope (sIn 12)) [.non] [] f fd) (T : BaseT K mg L fL) (GL : Fun K "__init__" "LookError.__init__" sLE fL fdL) (bL : Binds K fdL ["self"] []) :
    FnOk P w K mg base CX0 2 f fd ["self", "value"] (spIn K) := by
  have OL : FnOk P w K mg base CX0 1 fL fdL ["self"] (spLE K) := ok_le GL T
  refine G.ok scI12 (fun vs H Q E h => ?_) (fun cdv A outer s H vs Q E hr h => ?_)
  · obtain ⟨a, C, v, rfl, _⟩ := h
    rfl
  · obtain ⟨a, C, v, rfl, hC, hW, hno, ha, k⟩ := h
    refine ⟨_, pss_cons (ps_expr (pe_clsfn rfl T.mL T.rd T.ga T.fv GL.kp OL hr bL .nil (pa_cons (pv 0) pa_nil))) (pss_one (ps_ost (pv 0) (pv 1))), ?_⟩
    refine ⟨_, rfl, a, C, rfl, hC, hW, ha, fun dx z nd ne => ?_⟩
    refine ⟨_, rfl, _, rfl, a, C, rfl, hC, hno, .inr ⟨dx, [("word", .str z)], upd_same, (upd_ne ne).trans upd_same, (show (1 : Nat) ≤ 900 by decide), ?_⟩⟩
    refine k _ (fun b o e hb => ?_) ⟨dx, z, ?_, upd_same⟩
    · rw [upd_ne (ne_of_none e nd), upd_ne hb, upd_ne (ne_of_none e nd)]
      exact e
    · rw [upd_ne (Ne.symm ne)]
      exact upd_same
theorem scI13 : FnScope ["self", "value"] ["self", "value"] (defScope (sIn 13)) := ⟨rfl, rfl, rfl, by decide +kernel, rfl, by decide +kernel, by decide +kernel⟩
theorem ok_in13 {q : Str} {f : Addr} {fd : FuncData} (G : FunD K "__init__" q (defArgs (sIn 13)) (defBody (sIn 13)) (defScope (sIn 13)) [.non] [] f fd) (T : BaseT K mg L fL) (GL : Fun K "__init__" "LookError.__init__" sLE fL fdL) (bL : Binds K fdL ["self"] []) :
    FnOk P w K mg base CX0 2 f fd ["self", "value"] (spIn K) := by
  have OL : FnOk P w K mg base CX0 1 fL fdL ["self"] (spLE K) := ok_le GL T
  refine G.ok scI13 (fun vs H Q E h => ?_) (fun cdv A outer s H vs Q E hr h => ?_)
  · obtain ⟨a, C, v, rfl, _⟩ := h
    rfl
  · obtain ⟨a, C, v, rfl, hC, hW, hno, ha, k⟩ := h
    refine ⟨_, pss_cons (ps_expr (pe_clsfn rfl T.mL T.rd T.ga T.fv GL.kp OL hr bL .nil (pa_cons (pv 0) pa_nil))) (pss_one (ps_ost (pv 0) (pv 1))), ?_⟩
    refine ⟨_, rfl, a, C, rfl, hC, hW, ha, fun dx z nd ne => ?_⟩
    refine ⟨_, rfl, _, rfl, a, C, rfl, hC, hno, .inr ⟨dx, [("word", .str z)], upd_same, (upd_ne ne).trans upd_same, (show (1 : Nat) ≤ 900 by decide), ?_⟩⟩
    refine k _ (fun b o e hb => ?_) ⟨dx, z, ?_, upd_same⟩
    · rw [upd_ne (ne_of_none e nd), upd_ne hb, upd_ne (ne_of_none e nd)]
      exact e
    · rw [upd_ne (Ne.symm ne)]
      exact upd_same
theorem scI14 : FnScope ["self", "value"] ["self", "value"] (defScope (sIn 14)) := ⟨rfl, rfl, rfl, by decide +kernel, rfl, by decide +kernel, by decide +kernel⟩
theorem ok_in14 {q : Str} {f : Addr} {fd : FuncData} (G : FunD K "__init__" q (defArgs (sIn 14)) (defBody (sIn 14)) (defScope (sIn 14)) [.non] [] f fd) (T : BaseT K mg L fL) (GL : Fun K "__init__" "LookError.__init__" sLE fL fdL) (bL : Binds K fdL ["self"] []) :
    FnOk P w K mg base CX0 2 f fd ["self", "value"] (spIn K) := by
  have OL : FnOk P w K mg base CX0 1 fL fdL ["self"] (spLE K) := ok_le GL T
  refine G.ok scI14 (fun vs H Q E h => ?_) (fun cdv A outer s H vs Q E hr h => ?_)
  · obtain ⟨a, C, v, rfl, _⟩ := h
    rfl
  · obtain ⟨a, C, v, rfl, hC, hW, hno, ha, k⟩ := h
    refine ⟨_, pss_cons (ps_expr (pe_clsfn rfl T.mL T.rd T.ga T.fv GL.kp OL hr bL .nil (pa_cons (pv 0) pa_nil))) (pss_one (ps_ost (pv 0) (pv 1))), ?_⟩
    refine ⟨_, rfl, a, C, rfl, hC, hW, ha, fun dx z nd ne => ?_⟩
    refine ⟨_, rfl, _, rfl, a, C, rfl, hC, hno, .inr ⟨dx, [("word", .str z)], upd_same, (upd_ne ne).trans upd_same, (show (1 : Nat) ≤ 900 by decide), ?_⟩⟩
    refine k _ (fun b o e hb => ?_) ⟨dx, z, ?_, upd_same⟩
    · rw [upd_ne (ne_of_none e nd), upd_ne hb, upd_ne (ne_of_none e nd)]
      exact e
    · rw [upd_ne (Ne.symm ne)]
      exact upd_same
theorem scI15 : FnScope ["self", "value"] ["self", "value"] (defScope (sIn 15)) := ⟨rfl, rfl, rfl, by decide +kernel, rfl, by decide +kernel, by decide +kernel⟩
theorem ok_in15 {q : Str} {f : Addr} {fd : FuncData} (G : FunD K "__init__" q (defArgs (sIn 15)) (defBody (sIn 15)) (defScope (sIn 15)) [.non] [] f fd) (T : BaseT K mg L fL) (GL : Fun K "__init__" "LookError.__init__" sLE fL fdL) (bL : Binds K fdL ["self"] []) :
    FnOk P w K mg base CX0 2 f fd ["self", "value"] (spIn K) := by
  have OL : FnOk P w K mg base CX0 1 fL fdL ["self"] (spLE K) := ok_le GL T
  refine G.ok scI15 (fun vs H Q E h => ?_) (fun cdv A outer s H vs Q E hr h => ?_)
  · obtain ⟨a, C, v, rfl, _⟩ := h
    rfl
  · obtain ⟨a, C, v, rfl, hC, hW, hno, ha, k⟩ := h
    refine ⟨_, pss_cons (ps_expr (pe_clsfn rfl T.mL T.rd T.ga T.fv GL.kp OL hr bL .nil (pa_cons (pv 0) pa_nil))) (pss_one (ps_ost (pv 0) (pv 1))), ?_⟩
    refine ⟨_, rfl, a, C, rfl, hC, hW, ha, fun dx z nd ne => ?_⟩
    refine ⟨_, rfl, _, rfl, a, C, rfl, hC, hno, .inr ⟨dx, [("word", .str z)], upd_same, (upd_ne ne).trans upd_same, (show (1 : Nat) ≤ 900 by decide), ?_⟩⟩
    refine k _ (fun b o e hb => ?_) ⟨dx, z, ?_, upd_same⟩
    · rw [upd_ne (ne_of_none e nd), upd_ne hb, upd_ne (ne_of_none e nd)]
      exact e
    · rw [upd_ne (Ne.symm ne)]
      exact upd_same
theorem scI16 : FnScope ["self", "value"] ["self", "value"] (defScope (sIn 16)) := ⟨rfl, rfl, rfl, by decide +kernel, rfl, by decide +kernel, by decide +kernel⟩
theorem ok_in16 {q : Str} {f : Addr} {fd : FuncData} (G : FunD K "__init__" q (defArgs (sIn 16)) (defBody (sIn 16)) (defScope (sIn 16)) [.non] [] f fd) (T : BaseT K mg L fL) (GL : Fun K "__init__" "LookError.__init__" sLE fL fdL) (bL : Binds K fdL ["self"] []) :
    FnOk P w K mg base CX0 2 f fd ["self", "value"] (spIn K) := by
  have OL : FnOk P w K mg base CX0 1 fL fdL ["self"] (spLE K) := ok_le GL T
  refine G.ok scI16 (fun vs H Q E h => ?_) (fun cdv A outer s H vs Q E hr h => ?_)
  · obtain ⟨a, C, v, rfl, _⟩ := h
    rfl
  · obtain ⟨a, C, v, rfl, hC, hW, hno, ha, k⟩ := h
    refine ⟨_, pss_cons (ps_expr (pe_clsfn rfl T.mL T.rd T.ga T.fv GL.kp OL hr bL .nil (pa_cons (pv 0) pa_nil))) (pss_one (ps_ost (pv 0) (pv 1))), ?_⟩
    refine ⟨_, rfl, a, C, rfl, hC, hW, ha, fun dx z nd ne => ?_⟩
    refine ⟨_, rfl, _, rfl, a, C, rfl, hC, hno, .inr ⟨dx, [("word", .str z)], upd_same, (upd_ne ne).trans upd_same, (show (1 : Nat) ≤ 900 by decide), ?_⟩⟩
    refine k _ (fun b o e hb => ?_) ⟨dx, z, ?_, upd_same⟩
    · rw [upd_ne (ne_of_none e nd), upd_ne hb, upd_ne (ne_of_none e nd)]
      exact e
    · rw [upd_ne (Ne.symm ne)]
      exact upd_same
theorem scI17 : FnScope ["self", "value"] ["self", "value"] (defScope (sIn 17)) := ⟨rfl, rfl, rfl, by decide +kernel, rfl, by decide +kernel, by decide +kernel⟩
theorem ok_in17 {q : Str} {f : Addr} {fd : FuncData} (G : FunD K "__init__" q (defArgs (sIn 17)) (defBody (sIn 17)) (defScope (sIn 17)) [.non] [] f fd) (T : BaseT K mg L fL) (GL : Fun K "__init__" "LookError.__init__" sLE fL fdL) (bL : Binds K fdL ["self"] []) :
    FnOk P w K mg base CX0 2 f fd ["self", "value"] (spIn K) := by
  have OL : FnOk P w K mg base CX0 1 fL fdL ["self"] (spLE K) := ok_le GL T
  refine G.ok scI17 (fun vs H Q E h => ?_) (fun cdv A outer s H vs Q E hr h => ?_)
  · obtain ⟨a, C, v, rfl, _⟩ := h
    rfl
  · obtain ⟨a, C, v, rfl, hC, hW, hno, ha, k⟩ := h
    refine ⟨_, pss_cons (ps_expr (pe_clsfn rfl T.mL T.rd T.ga T.fv GL.kp OL hr bL .nil (pa_cons (pv 0) pa_nil))) (pss_one (ps_ost (pv 0) (pv 1))), ?_⟩
    refine ⟨_, rfl, a, C, rfl, hC, hW, ha, fun dx z nd ne => ?_⟩
    refine ⟨_, rfl, _, rfl, a, C, rfl, hC, hno, .inr ⟨dx, [("word", .str z)], upd_same, (upd_ne ne).trans upd_same, (show (1 : Nat) ≤ 900 by decide), ?_⟩⟩
    refine k _ (fun b o e hb => ?_) ⟨dx, z, ?_, upd_same⟩
    · rw [upd_ne (ne_of_none e nd), upd_ne hb, upd_ne (ne_of_none e nd)]
      exact e
    · rw [upd_ne (Ne.symm ne)]
      exact upd_same
theorem scI18 : FnScope ["self", "value"] ["self", "value"] (defScope (sIn 18)) := ⟨rfl, rfl, rfl, by decide +kernel, rfl, by decide +kernel, by decide +kernel⟩
theorem ok_in18 {q : Str} {f : Addr} {fd : FuncData} (G : FunD K "__init__" q (defArgs (sIn 18)) (defBody (sIn 18)) (defScope (sIn 18)) [.non] [] f fd) (T : BaseT K mg L fL) (GL : Fun K "__init__" "LookError.__init__" sLE fL fdL) (bL : Binds K fdL ["self"] []) :
    FnOk P w K mg base CX0 2 f fd ["self", "value"] (spIn K) := by
  have OL : FnOk P w K mg base CX0 1 fL fdL ["self"] (spLE K) := ok_le GL T
  refine G.ok scI18 (fun vs H Q E h => ?_) (fun cdv A outer s H vs Q E hr h => ?_)
  · obtain ⟨a, C, v, rfl, _⟩ := h
    rfl
  · obtain ⟨a, C, v, rfl, hC, hW, hno, ha, k⟩ := h
    refine ⟨_, pss_cons (ps_expr (pe_clsfn rfl T.mL T.rd T.ga T.fv GL.kp OL hr bL .nil (pa_cons (pv 0) pa_nil))) (pss_one (ps_ost (pv 0) (pv 1))), ?_⟩
    refine ⟨_, rfl, a, C, rfl, hC, hW, ha, fun dx z nd ne => ?_⟩
    refine ⟨_, rfl, _, rfl, a, C, rfl, hC, hno, .inr ⟨dx, [("word", .str z)], upd_same, (upd_ne ne).trans upd_same, (show (1 : Nat) ≤ 900 by decide), ?_⟩⟩
    refine k _ (fun b o e hb => ?_) ⟨dx, z, ?_, upd_same⟩
    · rw [upd_ne (ne_of_none e nd), upd_ne hb, upd_ne (ne_of_none e nd)]
      exact e
    · rw [upd_ne (Ne.symm ne)]
      exact upd_same
theorem scI19 : FnScope ["self", "value"] ["self", "value"] (defScope (sIn 19)) := ⟨rfl, rfl, rfl, by decide +kernel, rfl, by decide +kernel, by decide +kernel⟩
theorem ok_in19 {q : Str} {f : Addr} {fd : FuncData} (G : FunD K "__init__" q (defArgs (sIn 19)) (defBody (sIn 19)) (defScope (sIn 19)) [.non] [] f fd) (T : BaseT K mg L fL) (GL : Fun K "__init__" "LookError.__init__" sLE fL fdL) (bL : Binds K fdL ["self"] []) :
    FnOk P w K mg base CX0 2 f fd ["self", "value"] (spIn K) := by
  have OL : FnOk P w K mg base CX0 1 fL fdL ["self"] (spLE K) := ok_le GL T
  refine G.ok scI19 (fun vs H Q E h => ?_) (fun cdv A outer s H vs Q E hr h => ?_)
  · obtain ⟨a, C, v, rfl, _⟩ := h
    rfl
  · obtain ⟨a, C, v, rfl, hC, hW, hno, ha, k⟩ := h
    refine ⟨_, pss_cons (ps_expr (pe_clsfn rfl T.mL T.rd T.ga T.fv GL.kp OL hr bL .nil (pa_cons (pv 0) pa_nil))) (pss_one (ps_ost (pv 0) (pv 1))), ?_⟩
    refine ⟨_, rfl, a, C, rfl, hC, hW, ha, fun dx z nd ne => ?_⟩
    refine ⟨_, rfl, _, rfl, a, C, rfl, hC, hno, .inr ⟨dx, [("word", .str z)], upd_same, (upd_ne ne).trans upd_same, (show (1 : Nat) ≤ 900 by decide), ?_⟩⟩
    refine k _ (fun b o e hb => ?_) ⟨dx, z, ?_, upd_same⟩
    · rw [upd_ne (ne_of_none e nd), upd_ne hb, upd_ne (ne_of_none e nd)]
      exact e
    · rw [upd_ne (Ne.symm ne)]
      exact upd_same
theorem scI20 : FnScope ["self", "value"] ["self", "value"] (defScope (sIn 20)) := ⟨rfl, rfl, rfl, by decide +kernel, rfl, by decide +kernel, by decide +kernel⟩
theorem ok_in20 {q : Str} {f : Addr} {fd : FuncData} (G : FunD K "__init__" q (defArgs (sIn 20)) (defBody (sIn 20)) (defScope (sIn 20)) [.non] [] f fd) (T : BaseT K mg L fL) (GL : Fun K "__init__" "LookError.__init__" sLE fL fdL) (bL : Binds K fdL ["self"] []) :
    FnOk P w K mg base CX0 2 f fd ["self", "value"] (spIn K) := by
  have OL : FnOk P w K mg base CX0 1 fL fdL ["self"] (spLE K) := ok_le GL T
  refine G.ok scI20 (fun vs H Q E h => ?_) (fun cdv A outer s H vs Q E hr h => ?_)
  · obtain ⟨a, C, v, rfl, _⟩ := h
    rfl
  · obtain ⟨a, C, v, rfl, hC, hW, hno, ha, k⟩ := h
    refine ⟨_, pss_cons (ps_expr (pe_clsfn rfl T.mL T.rd T.ga T.fv GL.kp OL hr bL .nil (pa_cons (pv 0) pa_nil))) (pss_one (ps_ost (pv 0) (pv 1))), ?_⟩
    refine ⟨_, rfl, a, C, rfl, hC, hW, ha, fun dx z nd ne => ?_⟩
    refine ⟨_, rfl, _, rfl, a, C, rfl, hC, hno, .inr ⟨dx, [("word", .str z)], upd_same, (upd_ne ne).trans upd_same, (show (1 : Nat) ≤ 900 by decide), ?_⟩⟩
    refine k _ (fun b o e hb => ?_) ⟨dx, z, ?_, upd_same⟩
    · rw [upd_ne (ne_of_none e nd), upd_ne hb, upd_ne (ne_of_none e nd)]
      exact e
    · rw [upd_ne (Ne.symm ne)]
      exact upd_same
theorem scI21 : FnScope ["self", "value"] ["self", "value"] (defScope (sIn 21)) := ⟨rfl, rfl, rfl, by decide +kernel, rfl, by decide +kernel, by decide +kernel⟩
theorem ok_in21 {q : Str} {f : Addr} {fd : FuncData} (G : FunD K "__init__" q (defArgs (sIn 21)) (defBody (sIn 21)) (defScope (sIn 21)) [.non] [] f fd) (T : BaseT K mg L fL) (GL : Fun K "__init__" "LookError.__init__" sLE fL fdL) (bL : Binds K fdL ["self"] []) :
    FnOk P w K mg base CX0 2 f fd ["self", "value"] (spIn K) := by
  have OL : FnOk P w K mg base CX0 1 fL fdL ["self"] (spLE K) := ok_le GL T
  refine G.ok scI21 (fun vs H Q E h => ?_) (fun cdv A outer s H vs Q E hr h => ?_)
  · obtain ⟨a, C, v, rfl, _⟩ := h
    rfl
  · obtain ⟨a, C, v, rfl, hC, hW, hno, ha, k⟩ := h
    refine ⟨_, pss_cons (ps_expr (pe_clsfn rfl T.mL T.rd T.ga T.fv GL.kp OL hr bL .nil (pa_cons (pv 0) pa_nil))) (pss_one (ps_ost (pv 0) (pv 1))), ?_⟩
    refine ⟨_, rfl, a, C, rfl, hC, hW, ha, fun dx z nd ne => ?_⟩
    refine ⟨_, rfl, _, rfl, a, C, rfl, hC, hno, .inr ⟨dx, [("word", .str z)], upd_same, (upd_ne ne).trans upd_same, (show (1 : Nat) ≤ 900 by decide), ?_⟩⟩
    refine k _ (fun b o e hb => ?_) ⟨dx, z, ?_, upd_same⟩
    · rw [upd_ne (ne_of_none e nd), upd_ne hb, upd_ne (ne_of_none e nd)]
      exact e
    · rw [upd_ne (Ne.symm ne)]
      exact upd_same
end

def names : List Str := ["InvalidLiteral", "InvalidVariable", "InvalidClause", "InvalidClauses", "InvalidBook", "InvalidFilling", "InvalidMap", "InvalidDepth", "InvalidNumber", "InvalidLook", "InvalidTree", "InvalidPoints", "InvalidDerivation", "InvalidFamily", "InvalidMake", "InvalidDesk", "InvalidSpot", "InvalidScript", "InvalidText", "InvalidRecord", "Filled", "Refused", "NothingToUndo", "NothingToRedo"]
/-! ### weaker readings -/
section
variable {X : Cx} {e : Expr} {es : List Expr}
theorem pe_imp {t t' : TE} (h : PE X e t) (k : ∀ σ H Q, t' σ H Q → t σ H Q) : PE X e t' := ⟨fun pins s σ H Q I z => h.run pins s σ H Q I (k _ _ _ z)⟩
theorem pa_imp {t t' : TA} (h : PA X es t) (k : ∀ σ H Q, t' σ H Q → t σ H Q) : PA X es t' := ⟨fun pos pins s σ H Q I z => h.run pos pins s σ H Q I (k _ _ _ z)⟩
end
theorem same_new {H : Hp} {p : Addr} {o : HO} (h : H p = none) : Same H (upd H p o) := fun b o' e => by
  rw [upd_ne (ne_of_none e h)]
  exact e
/-- one error is made: R tells its field by the slots -/
def tErr (C : Addr) (R : L2.St → V → Prop) : TE := fun σ H Q => ∃ v, R σ v ∧ ∀ (a : Addr) (H2 : Hp), Same H H2 → H a = none → Err H2 a C v → Q (.ref a) H2
def Errs (H : Hp) (v : V) : List Addr → List Addr → Prop := Paired fun a C => Err H a C v
theorem Errs.same {H H' : Hp} {v : V} (e : Same H H') : ∀ {as Cs : List Addr}, Errs H v as Cs → Errs H' v as Cs
  | _, _, .nil => .nil
  | _, _, .cons h t => .cons (h.same e) (Errs.same e t)
theorem Errs.append {H : Hp} {v : V} : ∀ {as Cs as' Cs' : List Addr}, Errs H v as Cs → Errs H v as' Cs' → Errs H v (as ++ as') (Cs ++ Cs')
  | _, _, _, _, .nil, h => h
  | _, _, _, _, .cons h t, h' => .cons h (Errs.append t h')
def tErrs (Cs : List Addr) (R : L2.St → V → Prop) : TA := fun σ H Q => ∃ v, R σ v ∧ ∀ (as : List Addr) (H2 : Hp), Same H H2 → Errs H2 v as Cs → Q (as.map V.ref) H2
section
variable {X : Cx} {e : Expr} {es : List Expr} {C : Addr} {Cs : List Addr} {R : L2.St → V → Prop}
theorem pa_errs1 (h : PE X e (tErr C R)) (hs : starEach [e] X.env = (false, eval e X.env) :: starEach [] X.env := by rfl) : PA X [e] (tErrs [C] R) := by
  refine pa_imp (pa_cons h pa_nil hs) fun σ H Q ⟨v, r, k⟩ => ⟨v, r, fun a H2 s _ z => ?_⟩
  exact k [a] H2 s (.cons z .nil)
theorem pa_errsC (h : PE X e (tErr C R)) (h' : PA X es (tErrs Cs R)) (hs : starEach (e :: es) X.env = (false, eval e X.env) :: starEach es X.env := by rfl) : PA X (e :: es) (tErrs (C :: Cs) R) := by
  refine pa_imp (pa_cons h h' hs) fun σ H Q ⟨v, r, k⟩ => ⟨v, r, fun a H2 s _ z => ?_⟩
  exact ⟨v, r, fun as H3 s3 z3 => k (a :: as) H3 (s.trans s3) (.cons (z.same s3) z3)⟩
end
/-! ### the classes, by number -/
structure ErrT (P : Program) (w : World) (K : PySem.W.Frag) (mg : Str → Option Value) (base : Heap) (x : Str) (C f : Addr) (fd : FuncData) : Prop where
  mC : mg x = some (.ref C)
  ox : OexC K C
  wd : WdC K C
  iC : PySem.W.findIn K (.ref C) "__init__" = some (some (.ref f))
  tI : PySem.W.typeIn K (.ref f) = some (.type "function")
  ok : FnOk P w K mg base CX0 2 f fd ["self", "value"] (spIn K)
  b2 : Binds K fd ["self", "value"] []
  b1 : ∃ ds, Vals [V.non] ds ∧ Binds K fd ["self", "value"] ds
  bk : KBn K fd ["self", "value"] 1 ["value"] (fun us ws => us ++ ws) (fun vs zs => vs ++ zs)
  nv : PySem.W.findIn K (.ref C) "value" = some none
section
variable {X : Cx} {x : Str} {C f : Addr} {fd : FuncData} {e : Expr} {p pos kp : Pos}
theorem err_end {K : PySem.W.Frag} {H : Hp} {C : Addr} {v : V} {Q : VK} (ox : OexC K C) (wd : WdC K C) (nv : PySem.W.findIn K (.ref C) "value" = some none) (k : ∀ (a : Addr) (H2 : Hp), Same H H2 → H a = none → Err H2 a C v → Q (.ref a) H2) :
    ∀ a, H a = none → spIn K [.ref a, v] (upd H a (exo a C none)) (fun y H2 => y = .non ∧ Q (.ref a) H2) E0 := fun a na =>
  ⟨a, C, v, rfl, ox, wd, nv, upd_same, fun H' kp er => ⟨rfl, k a H' (fun b o z => kp b o (by rw [upd_ne (ne_of_none z na)]; exact z) (ne_of_none z na)) na er⟩⟩
/-- C(e), e the name in the slot i -/
theorem pe_errV (T : ErrT X.prog X.w X.K X.mg X.base x C f fd) (hr : Room 3 X.A) (hg : Gl X x) {i : Nat} (he : PE X e (tVar i))
    (hdb : (x == ("__debug__" : Str)) = false := by decide) (hs : starEach [e] X.env = (false, eval e X.env) :: starEach [] X.env := by rfl) :
    PE X (.Call (.Name x p) [e] [] pos) (tErr C fun σ v => σ[i]? = some (some v)) := by
  refine pe_imp (pe_mk T.ox T.iC T.tI T.ok hr T.b2 .nil hg T.mC (pa_cons he pa_nil hs) hdb hs) fun σ H Q ⟨v, r, k⟩ => ⟨v, r, (show (1 : Nat) ≤ 1000 by decide), err_end T.ox T.wd T.nv k⟩
/-- C(value = e) -/
theorem pe_errK (T : ErrT X.prog X.w X.K X.mg X.base x C f fd) (hr : Room 3 X.A) (hg : Gl X x) {i : Nat} (he : PE X e (tVar i))
    (hdb : (x == ("__debug__" : Str)) = false := by decide) :
    PE X (.Call (.Name x p) [] [⟨some "value", e, kp⟩] pos) (tErr C fun σ v => σ[i]? = some (some v)) := by
  refine pe_imp (pe_mkK T.ox T.iC T.tI T.ok hr T.bk hg T.mC (pk_cons he pk_nil) rfl rfl hdb rfl) fun σ H Q ⟨v, r, k⟩ => ⟨v, r, rfl, err_end T.ox T.wd T.nv k⟩
/-- C() -/
theorem pe_err0 (T : ErrT X.prog X.w X.K X.mg X.base x C f fd) (hr : Room 3 X.A) (hg : Gl X x)
    (hdb : (x == ("__debug__" : Str)) = false := by decide) : PE X (.Call (.Name x p) [] [] pos) (tErr C fun _ v => v = .non) := by
  obtain ⟨ds, hv, hb⟩ := T.b1
  refine pe_imp (pe_mk0 T.ox T.iC T.tI T.ok hr hb hv hg T.mC hdb) fun σ H Q ⟨v, r, k⟩ => ?_
  subst r
  exact ⟨Nat.zero_le _, err_end T.ox T.wd T.nv k⟩
end
/-! ### isinstance of several classes -/
def ObjX (K : PySem.W.Frag) (H : Hp) (a C : Addr) : Prop := ExcC K C ∧ ∃ d, H a = some (exo a C d) ∧ ∀ dx, d = some dx → ∃ fs, H dx = some (exd dx fs)
theorem Err.obj {K : PySem.W.Frag} {H : Hp} {a C : Addr} {v : V} (h : Err H a C v) (T : ExcC K C) : ObjX K H a C := by
  obtain ⟨dx, z, h1, h2⟩ := h
  exact ⟨T, some dx, h1, fun d e => by cases e; exact ⟨_, h2⟩⟩
theorem ObjX.same {K : PySem.W.Frag} {H H' : Hp} {a C : Addr} (h : ObjX K H a C) (e : Same H H') : ObjX K H' a C := by
  obtain ⟨T, d, h1, h2⟩ := h
  exact ⟨T, d, e _ _ h1, fun dx z => let ⟨fs, q⟩ := h2 dx z; ⟨fs, e _ _ q⟩⟩
def tIs (i : Nat) (K : PySem.W.Frag) (cv : Value) : TE := fun σ H Q => ∃ a C b, σ[i]? = some (some (.ref a)) ∧ ObjX K H a C ∧ PySem.W.kitOne K (.ref C) cv = some b ∧ Q (.bl b) H
def tIss (i : Nat) (K : PySem.W.Frag) (cvs : List Value) : TA := fun σ H Q => ∃ a C bs, σ[i]? = some (some (.ref a)) ∧ ObjX K H a C ∧ Paired (fun cv b => PySem.W.kitOne K (.ref C) cv = some b) cvs bs ∧ Q (bs.map V.bl) H
section
variable {X : Cx} {x : Str} {D : Addr} {e g : Expr} {es : List Expr} {p pos : Pos} {i : Nat} {cv : Value} {cvs : List Value} {v : V}
theorem pe_is (hi : X.mg "isinstance" = none) (hgi : Gl X "isinstance") (he : PE X e (tVar i)) (hc : PE X g (tC v)) (cl : ClsV v cv) (hs : starEach [e, g] X.env = (false, eval e X.env) :: starEach [g] X.env := by rfl) (hs2 : starEach [g] X.env = (false, eval g X.env) :: starEach [] X.env := by rfl)
    (hpl : (backTo pos (starEach [g] X.env)).any (·.1) = false := by rfl) : PE X (.Call (.Name "isinstance" p) [e, g] [] pos) (tIs i X.K cv) := by
  refine pe_imp (pe_callB call_isX hgi hi boot_isinstance (pa_cons he (pa_cons hc pa_nil hs2) hs) (by decide) (by decide) hs hpl) fun σ H Q ⟨a, C, b, hσ, ⟨T, d, ha, hd⟩, k, q⟩ => ?_
  exact ⟨.ref a, hσ, a, C, d, v, cv, b, rfl, cl, T, ha, hd, k, q⟩
theorem pa_is1 (h : PE X e (tIs i X.K cv)) (hs : starEach [e] X.env = (false, eval e X.env) :: starEach [] X.env := by rfl) : PA X [e] (tIss i X.K [cv]) := by
  refine pa_imp (pa_cons h pa_nil hs) fun σ H Q ⟨a, C, bs, hσ, o, k, q⟩ => ?_
  cases k with
  | cons k t =>
    cases t
    exact ⟨a, C, _, hσ, o, k, q⟩
theorem pa_isC (h : PE X e (tIs i X.K cv)) (h' : PA X es (tIss i X.K cvs)) (hs : starEach (e :: es) X.env = (false, eval e X.env) :: starEach es X.env := by rfl) : PA X (e :: es) (tIss i X.K (cv :: cvs)) := by
  refine pa_imp (pa_cons h h' hs) fun σ H Q ⟨a, C, bs, hσ, o, k, q⟩ => ?_
  cases k with
  | cons k t => exact ⟨a, C, _, hσ, o, k, a, C, _, hσ, o, t, q⟩
end
end My
end

section
set_option Elab.async false
set_option linter.all false
set_option maxRecDepth 100000
set_option maxHeartbeats 4000000
namespace My
local macro_rules | `(tactic| walk_at "go") => `(tactic| (repeat (first
  | (refine ⟨_, rfl, ?_⟩)
  | (refine ⟨_, _, rfl, rfl, ?_⟩)
  | (refine ⟨_, _, rfl, ?_⟩)
  | (refine ⟨rfl, ?_⟩)
  | (refine Or.inl ⟨_, rfl, ?_⟩)
  | (refine ⟨_, _, _, _, rfl, rfl, L2.SqL.of (by first | assumption | exact L2.upd_same), rfl, ?_⟩)
  | (refine ⟨_, _, _, _, rfl, rfl, (by first | assumption | exact L2.upd_same), rfl, ?_⟩)
  | (refine And.intro (by first | omega | decide | (unfold L2.CPow; decide) | (unfold L2.CMul; omega) | (unfold L2.CDiv; omega)) ?_))))
open PySem PySem.Spec PyProof.Rows L2 MyE MyR MyG
abbrev sFirst : Stmt := top 33
abbrev sCalled : Stmt := top 34
abbrev sBare : Stmt := top 35
abbrev sCode : Stmt := top 36
abbrev sIsError : Stmt := top 37
abbrev sRight : Stmt := top 38
abbrev sLaw : Stmt := top 39
/-- the classes of the text, by number: 0 to 21 bear a field, 22 and 23 none -/
structure Txt (P : Program) (w : World) (K : PySem.W.Frag) (mg : Str → Option Value) (base : Heap) (c fI : Nat → Addr) (fdI : Nat → FuncData) : Prop where
  er : ∀ i, i < 22 → ErrT P w K mg base (names.getD i Str.empty) (c i) (fI i) (fdI i)
/-- a list of errors has been made at p: their classes by number -/
def Made (c : Nat → Addr) (v : V) (js : List Nat) (H H' : Hp) (p : Addr) : Prop := ∃ as : List Addr, H' p = some (.lst (as.map V.ref)) ∧ Errs H' v as (js.map c) ∧ Same H H' ∧ H p = none
theorem Made.first {c : Nat → Addr} {v : V} {js : List Nat} {H H0 : Hp} {p : Addr} {as : List Addr} (s : Same H H0) (e : Errs H0 v as (js.map c)) (n : H0 p = none) : Made c v js H (upd H0 p (.lst (as.map V.ref))) p :=
  ⟨as, upd_same, e.same (same_new n), s.trans (same_new n), s.free n⟩
theorem Made.more {c : Nat → Addr} {v : V} {js ks : List Nat} {Cs' : List Addr} {H H1 H2 : Hp} {p q : Addr} {bs as : List Addr} (eb : Errs H1 v bs (js.map c)) (sb : Same H H1) (s : Same H1 H2) (e : Errs H2 v as Cs')
    (nq : H2 q = none) (n : upd H2 q (.lst (as.map V.ref)) p = none) (hk : js.map c ++ Cs' = ks.map c := by rfl) : Made c v ks H (upd (upd H2 q (.lst (as.map V.ref))) p (.lst (bs.map V.ref ++ as.map V.ref))) p := by
  have s2 : Same H2 (upd (upd H2 q (.lst (as.map V.ref))) p (.lst (bs.map V.ref ++ as.map V.ref))) := (same_new nq).trans (same_new n)
  refine ⟨bs ++ as, by rw [List.map_append]; exact upd_same, ?_, (sb.trans s).trans s2, (((sb.trans s).trans (same_new nq)).free n)⟩
  rw [← hk]
  exact (eb.same (s.trans s2)).append (e.same s2)
theorem small_len {H : Hp} {v : V} {as Cs : List Addr} (e : Errs H v as Cs) (h : Cs.length ≤ 1000) : (as.map V.ref).length ≤ sizeLine := by
  rw [List.length_map, Paired.length e]
  exact Nat.le_of_lt (small1000 h)
theorem cat_len {H H' : Hp} {v : V} {as Cs bs Ds : List Addr} (e : Errs H v as Cs) (e' : Errs H' v bs Ds) (h : Cs.length + Ds.length ≤ 1000) : (as.map V.ref).length + (bs.map V.ref).length ≤ sizeLine := by
  rw [List.length_map, List.length_map, Paired.length e, Paired.length e']
  exact Nat.le_of_lt (small1000 h)
def spMade (c : Nat → Addr) : Sp := fun vs H Q _ => ∃ t : V, vs = [t] ∧ ∀ (H' : Hp) (p : Addr) (as : List Addr), Same H H' → H p = none → H' p = some (.lst (as.map V.ref)) → Errs H' t as ((List.range 22).map c) → Q (.ref p) H'
def spBare (c : Nat → Addr) : Sp := fun vs H Q _ => vs = [] ∧ ∀ (H' : Hp) (p : Addr) (as : List Addr), Same H H' → H p = none → H' p = some (.lst (as.map V.ref)) → Errs H' .non as ((List.range 22).map c) → Q (.ref p) H'
section
variable {P : Program} {w : World} {K : PySem.W.Frag} {mg : Str → Option Value} {base : Heap} {c fI : Nat → Addr} {fdI : Nat → FuncData}

theorem sc_first : FnScope ["_law_thing", "_law_found"] ["_law_thing"] (defScope sFirst) := ⟨rfl, rfl, rfl, by decide +kernel, rfl, by decide +kernel, by decide +kernel⟩
theorem ok_first {f : Addr} {fd : FuncData} (G : Fun K "_law_first" "_law_first" sFirst f fd) (T : Txt P w K mg base c fI fdI) : FnOk P w K mg base CX0 4 f fd ["_law_thing"] (spMade c) := by
  have sc := sc_first
  refine G.ok sc (fun vs H Q E h => ?_) (fun cdv A outer s H vs Q E hr h => ?_)
  · obtain ⟨t, rfl, _⟩ := h
    rfl
  · obtain ⟨t, rfl, k⟩ := h
    refine ⟨_, pss_cons (ps_set (i := 1) sc.nd rfl (Or.inl rfl) (pe_lst (pa_errsC (pe_errV (T.er 0 (by decide)) hr (by rfl) (pv 0)) (pa_errsC (pe_errV (T.er 1 (by decide)) hr (by rfl) (pv 0)) (pa_errsC (pe_errV (T.er 2 (by decide)) hr (by rfl) (pv 0)) (pa_errs1 (pe_errV (T.er 3 (by decide)) hr (by rfl) (pv 0))))))))
      (pss_cons (ps_set (i := 1) sc.nd rfl (Or.inl rfl) (pe_op op_cat (pv 1) (pe_lst (pa_errsC (pe_errV (T.er 4 (by decide)) hr (by rfl) (pv 0)) (pa_errsC (pe_errV (T.er 5 (by decide)) hr (by rfl) (pv 0)) (pa_errsC (pe_errV (T.er 6 (by decide)) hr (by rfl) (pv 0)) (pa_errs1 (pe_errV (T.er 7 (by decide)) hr (by rfl) (pv 0)))))))))
      (pss_cons (ps_set (i := 1) sc.nd rfl (Or.inl rfl) (pe_op op_cat (pv 1) (pe_lst (pa_errsC (pe_errV (T.er 8 (by decide)) hr (by rfl) (pv 0)) (pa_errsC (pe_errV (T.er 9 (by decide)) hr (by rfl) (pv 0)) (pa_errsC (pe_errV (T.er 10 (by decide)) hr (by rfl) (pv 0)) (pa_errs1 (pe_errV (T.er 11 (by decide)) hr (by rfl) (pv 0)))))))))
      (pss_cons (ps_set (i := 1) sc.nd rfl (Or.inl rfl) (pe_op op_cat (pv 1) (pe_lst (pa_errsC (pe_errV (T.er 12 (by decide)) hr (by rfl) (pv 0)) (pa_errsC (pe_errV (T.er 13 (by decide)) hr (by rfl) (pv 0)) (pa_errsC (pe_errV (T.er 14 (by decide)) hr (by rfl) (pv 0)) (pa_errs1 (pe_errV (T.er 15 (by decide)) hr (by rfl) (pv 0)))))))))
      (pss_cons (ps_set (i := 1) sc.nd rfl (Or.inl rfl) (pe_op op_cat (pv 1) (pe_lst (pa_errsC (pe_errV (T.er 16 (by decide)) hr (by rfl) (pv 0)) (pa_errsC (pe_errV (T.er 17 (by decide)) hr (by rfl) (pv 0)) (pa_errsC (pe_errV (T.er 18 (by decide)) hr (by rfl) (pv 0)) (pa_errs1 (pe_errV (T.er 19 (by decide)) hr (by rfl) (pv 0)))))))))
      (pss_cons (ps_set (i := 1) sc.nd rfl (Or.inl rfl) (pe_op op_cat (pv 1) (pe_lst (pa_errsC (pe_errV (T.er 20 (by decide)) hr (by rfl) (pv 0)) (pa_errs1 (pe_errV (T.er 21 (by decide)) hr (by rfl) (pv 0)))))))
      (pss_one (ps_ret (pv 1)))))))), ?_⟩
    refine ⟨_, rfl, fun as0 H0 s0 e0 => ⟨small_len e0 (by simp), fun p0 n0 => ?_⟩⟩
    have m0 : Made c t (List.range 4) H (upd H0 p0 (.lst (as0.map V.ref))) p0 := .first s0 e0 n0
    refine ⟨_, rfl, _, rfl, fun as1 H1 s1 e1 => ⟨small_len e1 (by simp), fun q1 nq1 => ?_⟩⟩
    obtain ⟨bs1, hb1, eb1, sb1, nb1⟩ := m0
    have w1 := upd_ne (H := H1) (o := .lst (as1.map V.ref)) (ne_of_none (s1 _ _ hb1) nq1)
    refine ⟨p0, q1, _, _, rfl, rfl, w1.trans (s1 _ _ hb1), upd_same, cat_len eb1 e1 (by simp), fun p1 n1 => ?_⟩
    have m1 : Made c t (List.range 8) H _ p1 := .more (Cs' := [c 4, c 5, c 6, c 7]) eb1 sb1 s1 e1 nq1 n1
    refine ⟨_, rfl, _, rfl, fun as2 H2 s2 e2 => ⟨small_len e2 (by simp), fun q2 nq2 => ?_⟩⟩
    obtain ⟨bs2, hb2, eb2, sb2, nb2⟩ := m1
    have w2 := upd_ne (H := H2) (o := .lst (as2.map V.ref)) (ne_of_none (s2 _ _ hb2) nq2)
    refine ⟨p1, q2, _, _, rfl, rfl, w2.trans (s2 _ _ hb2), upd_same, cat_len eb2 e2 (by simp), fun p2 n2 => ?_⟩
    have m2 : Made c t (List.range 12) H _ p2 := .more (Cs' := [c 8, c 9, c 10, c 11]) eb2 sb2 s2 e2 nq2 n2
    refine ⟨_, rfl, _, rfl, fun as3 H3 s3 e3 => ⟨small_len e3 (by simp), fun q3 nq3 => ?_⟩⟩
    obtain ⟨bs3, hb3, eb3, sb3, nb3⟩ := m2
    have w3 := upd_ne (H := H3) (o := .lst (as3.map V.ref)) (ne_of_none (s3 _ _ hb3) nq3)
    refine ⟨p2, q3, _, _, rfl, rfl, w3.trans (s3 _ _ hb3), upd_same, cat_len eb3 e3 (by simp), fun p3 n3 => ?_⟩
    have m3 : Made c t (List.range 16) H _ p3 := .more (Cs' := [c 12, c 13, c 14, c 15]) eb3 sb3 s3 e3 nq3 n3
    refine ⟨_, rfl, _, rfl, fun as4 H4 s4 e4 => ⟨small_len e4 (by simp), fun q4 nq4 => ?_⟩⟩
    obtain ⟨bs4, hb4, eb4, sb4, nb4⟩ := m3
    have w4 := upd_ne (H := H4) (o := .lst (as4.map V.ref)) (ne_of_none (s4 _ _ hb4) nq4)
    refine ⟨p3, q4, _, _, rfl, rfl, w4.trans (s4 _ _ hb4), upd_same, cat_len eb4 e4 (by simp), fun p4 n4 => ?_⟩
    have m4 : Made c t (List.range 20) H _ p4 := .more (Cs' := [c 16, c 17, c 18, c 19]) eb4 sb4 s4 e4 nq4 n4
    refine ⟨_, rfl, _, rfl, fun as5 H5 s5 e5 => ⟨small_len e5 (by simp), fun q5 nq5 => ?_⟩⟩
    obtain ⟨bs5, hb5, eb5, sb5, nb5⟩ := m4
    have w5 := upd_ne (H := H5) (o := .lst (as5.map V.ref)) (ne_of_none (s5 _ _ hb5) nq5)
    refine ⟨p4, q5, _, _, rfl, rfl, w5.trans (s5 _ _ hb5), upd_same, cat_len eb5 e5 (by simp), fun p5 n5 => ?_⟩
    have m5 : Made c t (List.range 22) H _ p5 := .more (Cs' := [c 20, c 21]) eb5 sb5 s5 e5 nq5 n5
    obtain ⟨as, ha, ea, sa, na⟩ := m5
    exact ⟨_, rfl, k _ _ _ sa na ha ea⟩

theorem sc_called : FnScope ["_law_thing", "_law_found"] ["_law_thing"] (defScope sCalled) := ⟨rfl, rfl, rfl, by decide +kernel, rfl, by decide +kernel, by decide +kernel⟩
theorem ok_called {f : Addr} {fd : FuncData} (G : Fun K "_law_called" "_law_called" sCalled f fd) (T : Txt P w K mg base c fI fdI) : FnOk P w K mg base CX0 4 f fd ["_law_thing"] (spMade c) := by
  have sc := sc_called
  refine G.ok sc (fun vs H Q E h => ?_) (fun cdv A outer s H vs Q E hr h => ?_)
  · obtain ⟨t, rfl, _⟩ := h
    rfl
  · obtain ⟨t, rfl, k⟩ := h
    refine ⟨_, pss_cons (ps_set (i := 1) sc.nd rfl (Or.inl rfl) (pe_lst (pa_errsC (pe_errK (T.er 0 (by decide)) hr (by rfl) (pv 0)) (pa_errsC (pe_errK (T.er 1 (by decide)) hr (by rfl) (pv 0)) (pa_errs1 (pe_errK (T.er 2 (by decide)) hr (by rfl) (pv 0)))))))
      (pss_cons (ps_set (i := 1) sc.nd rfl (Or.inl rfl) (pe_op op_cat (pv 1) (pe_lst (pa_errsC (pe_errK (T.er 3 (by decide)) hr (by rfl) (pv 0)) (pa_errsC (pe_errK (T.er 4 (by decide)) hr (by rfl) (pv 0)) (pa_errs1 (pe_errK (T.er 5 (by decide)) hr (by rfl) (pv 0))))))))
      (pss_cons (ps_set (i := 1) sc.nd rfl (Or.inl rfl) (pe_op op_cat (pv 1) (pe_lst (pa_errsC (pe_errK (T.er 6 (by decide)) hr (by rfl) (pv 0)) (pa_errsC (pe_errK (T.er 7 (by decide)) hr (by rfl) (pv 0)) (pa_errs1 (pe_errK (T.er 8 (by decide)) hr (by rfl) (pv 0))))))))
      (pss_cons (ps_set (i := 1) sc.nd rfl (Or.inl rfl) (pe_op op_cat (pv 1) (pe_lst (pa_errsC (pe_errK (T.er 9 (by decide)) hr (by rfl) (pv 0)) (pa_errsC (pe_errK (T.er 10 (by decide)) hr (by rfl) (pv 0)) (pa_errs1 (pe_errK (T.er 11 (by decide)) hr (by rfl) (pv 0))))))))
      (pss_cons (ps_set (i := 1) sc.nd rfl (Or.inl rfl) (pe_op op_cat (pv 1) (pe_lst (pa_errsC (pe_errK (T.er 12 (by decide)) hr (by rfl) (pv 0)) (pa_errsC (pe_errK (T.er 13 (by decide)) hr (by rfl) (pv 0)) (pa_errs1 (pe_errK (T.er 14 (by decide)) hr (by rfl) (pv 0))))))))
      (pss_cons (ps_set (i := 1) sc.nd rfl (Or.inl rfl) (pe_op op_cat (pv 1) (pe_lst (pa_errsC (pe_errK (T.er 15 (by decide)) hr (by rfl) (pv 0)) (pa_errsC (pe_errK (T.er 16 (by decide)) hr (by rfl) (pv 0)) (pa_errs1 (pe_errK (T.er 17 (by decide)) hr (by rfl) (pv 0))))))))
      (pss_cons (ps_set (i := 1) sc.nd rfl (Or.inl rfl) (pe_op op_cat (pv 1) (pe_lst (pa_errsC (pe_errK (T.er 18 (by decide)) hr (by rfl) (pv 0)) (pa_errsC (pe_errK (T.er 19 (by decide)) hr (by rfl) (pv 0)) (pa_errs1 (pe_errK (T.er 20 (by decide)) hr (by rfl) (pv 0))))))))
      (pss_cons (ps_set (i := 1) sc.nd rfl (Or.inl rfl) (pe_op op_cat (pv 1) (pe_lst (pa_errs1 (pe_errK (T.er 21 (by decide)) hr (by rfl) (pv 0))))))
      (pss_one (ps_ret (pv 1)))))))))), ?_⟩
    refine ⟨_, rfl, fun as0 H0 s0 e0 => ⟨small_len e0 (by simp), fun p0 n0 => ?_⟩⟩
    have m0 : Made c t (List.range 3) H (upd H0 p0 (.lst (as0.map V.ref))) p0 := .first s0 e0 n0
    refine ⟨_, rfl, _, rfl, fun as1 H1 s1 e1 => ⟨small_len e1 (by simp), fun q1 nq1 => ?_⟩⟩
    obtain ⟨bs1, hb1, eb1, sb1, nb1⟩ := m0
    have w1 := upd_ne (H := H1) (o := .lst (as1.map V.ref)) (ne_of_none (s1 _ _ hb1) nq1)
    refine ⟨p0, q1, _, _, rfl, rfl, w1.trans (s1 _ _ hb1), upd_same, cat_len eb1 e1 (by simp), fun p1 n1 => ?_⟩
    have m1 : Made c t (List.range 6) H _ p1 := .more (Cs' := [c 3, c 4, c 5]) eb1 sb1 s1 e1 nq1 n1
    refine ⟨_, rfl, _, rfl, fun as2 H2 s2 e2 => ⟨small_len e2 (by simp), fun q2 nq2 => ?_⟩⟩
    obtain ⟨bs2, hb2, eb2, sb2, nb2⟩ := m1
    have w2 := upd_ne (H := H2) (o := .lst (as2.map V.ref)) (ne_of_none (s2 _ _ hb2) nq2)
    refine ⟨p1, q2, _, _, rfl, rfl, w2.trans (s2 _ _ hb2), upd_same, cat_len eb2 e2 (by simp), fun p2 n2 => ?_⟩
    have m2 : Made c t (List.range 9) H _ p2 := .more (Cs' := [c 6, c 7, c 8]) eb2 sb2 s2 e2 nq2 n2
    refine ⟨_, rfl, _, rfl, fun as3 H3 s3 e3 => ⟨small_len e3 (by simp), fun q3 nq3 => ?_⟩⟩
    obtain ⟨bs3, hb3, eb3, sb3, nb3⟩ := m2
    have w3 := upd_ne (H := H3) (o := .lst (as3.map V.ref)) (ne_of_none (s3 _ _ hb3) nq3)
    refine ⟨p2, q3, _, _, rfl, rfl, w3.trans (s3 _ _ hb3), upd_same, cat_len eb3 e3 (by simp), fun p3 n3 => ?_⟩
    have m3 : Made c t (List.range 12) H _ p3 := .more (Cs' := [c 9, c 10, c 11]) eb3 sb3 s3 e3 nq3 n3
    refine ⟨_, rfl, _, rfl, fun as4 H4 s4 e4 => ⟨small_len e4 (by simp), fun q4 nq4 => ?_⟩⟩
    obtain ⟨bs4, hb4, eb4, sb4, nb4⟩ := m3
    have w4 := upd_ne (H := H4) (o := .lst (as4.map V.ref)) (ne_of_none (s4 _ _ hb4) nq4)
    refine ⟨p3, q4, _, _, rfl, rfl, w4.trans (s4 _ _ hb4), upd_same, cat_len eb4 e4 (by simp), fun p4 n4 => ?_⟩
    have m4 : Made c t (List.range 15) H _ p4 := .more (Cs' := [c 12, c 13, c 14]) eb4 sb4 s4 e4 nq4 n4
    refine ⟨_, rfl, _, rfl, fun as5 H5 s5 e5 => ⟨small_len e5 (by simp), fun q5 nq5 => ?_⟩⟩
    obtain ⟨bs5, hb5, eb5, sb5, nb5⟩ := m4
    have w5 := upd_ne (H := H5) (o := .lst (as5.map V.ref)) (ne_of_none (s5 _ _ hb5) nq5)
    refine ⟨p4, q5, _, _, rfl, rfl, w5.trans (s5 _ _ hb5), upd_same, cat_len eb5 e5 (by simp), fun p5 n5 => ?_⟩
    have m5 : Made c t (List.range 18) H _ p5 := .more (Cs' := [c 15, c 16, c 17]) eb5 sb5 s5 e5 nq5 n5
    refine ⟨_, rfl, _, rfl, fun as6 H6 s6 e6 => ⟨small_len e6 (by simp), fun q6 nq6 => ?_⟩⟩
    obtain ⟨bs6, hb6, eb6, sb6, nb6⟩ := m5
    have w6 := upd_ne (H := H6) (o := .lst (as6.map V.ref)) (ne_of_none (s6 _ _ hb6) nq6)
    refine ⟨p5, q6, _, _, rfl, rfl, w6.trans (s6 _ _ hb6), upd_same, cat_len eb6 e6 (by simp), fun p6 n6 => ?_⟩
    have m6 : Made c t (List.range 21) H _ p6 := .more (Cs' := [c 18, c 19, c 20]) eb6 sb6 s6 e6 nq6 n6
    refine ⟨_, rfl, _, rfl, fun as7 H7 s7 e7 => ⟨small_len e7 (by simp), fun q7 nq7 => ?_⟩⟩
    obtain ⟨bs7, hb7, eb7, sb7, nb7⟩ := m6
    have w7 := upd_ne (H := H7) (o := .lst (as7.map V.ref)) (ne_of_none (s7 _ _ hb7) nq7)
    refine ⟨p6, q7, _, _, rfl, rfl, w7.trans (s7 _ _ hb7), upd_same, cat_len eb7 e7 (by simp), fun p7 n7 => ?_⟩
    have m7 : Made c t (List.range 22) H _ p7 := .more (Cs' := [c 21]) eb7 sb7 s7 e7 nq7 n7
    obtain ⟨as, ha, ea, sa, na⟩ := m7
    exact ⟨_, rfl, k _ _ _ sa na ha ea⟩

theorem sc_bare : FnScope ["_law_found"] [] (defScope sBare) := ⟨rfl, rfl, rfl, by decide +kernel, rfl, by decide +kernel, by decide +kernel⟩
theorem ok_bare {f : Addr} {fd : FuncData} (G : Fun K "_law_bare" "_law_bare" sBare f fd) (T : Txt P w K mg base c fI fdI) : FnOk P w K mg base CX0 4 f fd [] (spBare c) := by
  have sc := sc_bare
  refine G.ok sc (fun vs H Q E h => ?_) (fun cdv A outer s H vs Q E hr h => ?_)
  · obtain ⟨rfl, _⟩ := h
    rfl
  · obtain ⟨rfl, k⟩ := h
    refine ⟨_, pss_cons (ps_set (i := 0) sc.nd rfl (Or.inl rfl) (pe_lst (pa_errsC (pe_err0 (T.er 0 (by decide)) hr (by rfl)) (pa_errsC (pe_err0 (T.er 1 (by decide)) hr (by rfl)) (pa_errsC (pe_err0 (T.er 2 (by decide)) hr (by rfl)) (pa_errsC (pe_err0 (T.er 3 (by decide)) hr (by rfl)) (pa_errs1 (pe_err0 (T.er 4 (by decide)) hr (by rfl)))))))))
      (pss_cons (ps_set (i := 0) sc.nd rfl (Or.inl rfl) (pe_op op_cat (pv 0) (pe_lst (pa_errsC (pe_err0 (T.er 5 (by decide)) hr (by rfl)) (pa_errsC (pe_err0 (T.er 6 (by decide)) hr (by rfl)) (pa_errsC (pe_err0 (T.er 7 (by decide)) hr (by rfl)) (pa_errsC (pe_err0 (T.er 8 (by decide)) hr (by rfl)) (pa_errs1 (pe_err0 (T.er 9 (by decide)) hr (by rfl))))))))))
      (pss_cons (ps_set (i := 0) sc.nd rfl (Or.inl rfl) (pe_op op_cat (pv 0) (pe_lst (pa_errsC (pe_err0 (T.er 10 (by decide)) hr (by rfl)) (pa_errsC (pe_err0 (T.er 11 (by decide)) hr (by rfl)) (pa_errsC (pe_err0 (T.er 12 (by decide)) hr (by rfl)) (pa_errsC (pe_err0 (T.er 13 (by decide)) hr (by rfl)) (pa_errs1 (pe_err0 (T.er 14 (by decide)) hr (by rfl))))))))))
      (pss_cons (ps_set (i := 0) sc.nd rfl (Or.inl rfl) (pe_op op_cat (pv 0) (pe_lst (pa_errsC (pe_err0 (T.er 15 (by decide)) hr (by rfl)) (pa_errsC (pe_err0 (T.er 16 (by decide)) hr (by rfl)) (pa_errsC (pe_err0 (T.er 17 (by decide)) hr (by rfl)) (pa_errsC (pe_err0 (T.er 18 (by decide)) hr (by rfl)) (pa_errsC (pe_err0 (T.er 19 (by decide)) hr (by rfl)) (pa_errs1 (pe_err0 (T.er 20 (by decide)) hr (by rfl)))))))))))
      (pss_cons (ps_set (i := 0) sc.nd rfl (Or.inl rfl) (pe_op op_cat (pv 0) (pe_lst (pa_errs1 (pe_err0 (T.er 21 (by decide)) hr (by rfl))))))
      (pss_one (ps_ret (pv 0))))))), ?_⟩
    refine ⟨_, rfl, fun as0 H0 s0 e0 => ⟨small_len e0 (by simp), fun p0 n0 => ?_⟩⟩
    have m0 : Made c .non (List.range 5) H (upd H0 p0 (.lst (as0.map V.ref))) p0 := .first s0 e0 n0
    refine ⟨_, rfl, _, rfl, fun as1 H1 s1 e1 => ⟨small_len e1 (by simp), fun q1 nq1 => ?_⟩⟩
    obtain ⟨bs1, hb1, eb1, sb1, nb1⟩ := m0
    have w1 := upd_ne (H := H1) (o := .lst (as1.map V.ref)) (ne_of_none (s1 _ _ hb1) nq1)
    refine ⟨p0, q1, _, _, rfl, rfl, w1.trans (s1 _ _ hb1), upd_same, cat_len eb1 e1 (by simp), fun p1 n1 => ?_⟩
    have m1 : Made c .non (List.range 10) H _ p1 := .more (Cs' := [c 5, c 6, c 7, c 8, c 9]) eb1 sb1 s1 e1 nq1 n1
    refine ⟨_, rfl, _, rfl, fun as2 H2 s2 e2 => ⟨small_len e2 (by simp), fun q2 nq2 => ?_⟩⟩
    obtain ⟨bs2, hb2, eb2, sb2, nb2⟩ := m1
    have w2 := upd_ne (H := H2) (o := .lst (as2.map V.ref)) (ne_of_none (s2 _ _ hb2) nq2)
    refine ⟨p1, q2, _, _, rfl, rfl, w2.trans (s2 _ _ hb2), upd_same, cat_len eb2 e2 (by simp), fun p2 n2 => ?_⟩
    have m2 : Made c .non (List.range 15) H _ p2 := .more (Cs' := [c 10, c 11, c 12, c 13, c 14]) eb2 sb2 s2 e2 nq2 n2
    refine ⟨_, rfl, _, rfl, fun as3 H3 s3 e3 => ⟨small_len e3 (by simp), fun q3 nq3 => ?_⟩⟩
    obtain ⟨bs3, hb3, eb3, sb3, nb3⟩ := m2
    have w3 := upd_ne (H := H3) (o := .lst (as3.map V.ref)) (ne_of_none (s3 _ _ hb3) nq3)
    refine ⟨p2, q3, _, _, rfl, rfl, w3.trans (s3 _ _ hb3), upd_same, cat_len eb3 e3 (by simp), fun p3 n3 => ?_⟩
    have m3 : Made c .non (List.range 21) H _ p3 := .more (Cs' := [c 15, c 16, c 17, c 18, c 19, c 20]) eb3 sb3 s3 e3 nq3 n3
    refine ⟨_, rfl, _, rfl, fun as4 H4 s4 e4 => ⟨small_len e4 (by simp), fun q4 nq4 => ?_⟩⟩
    obtain ⟨bs4, hb4, eb4, sb4, nb4⟩ := m3
    have w4 := upd_ne (H := H4) (o := .lst (as4.map V.ref)) (ne_of_none (s4 _ _ hb4) nq4)
    refine ⟨p3, q4, _, _, rfl, rfl, w4.trans (s4 _ _ hb4), upd_same, cat_len eb4 e4 (by simp), fun p4 n4 => ?_⟩
    have m4 : Made c .non (List.range 22) H _ p4 := .more (Cs' := [c 21]) eb4 sb4 s4 e4 nq4 n4
    obtain ⟨as, ha, ea, sa, na⟩ := m4
    exact ⟨_, rfl, k _ _ _ sa na ha ea⟩
/-! ### which class an error is of -/
def spCode (K : PySem.W.Frag) (c : Nat → Addr) : Sp := fun vs H Q _ => ∃ (a C : Addr) (b : Nat → Bool), vs = [.ref a] ∧ ObjX K H a C ∧ (∀ j, j < 24 → PySem.W.kitOne K (.ref C) (.ref (c j)) = some (b j)) ∧
  ∀ (H' : Hp) (p : Addr), Same H H' → H p = none → H' p = some (.lst (((List.range 24).filter b).map fun j : Nat => V.int (j : Int))) → Q (.ref p) H'
def Bools (b : Nat → Bool) (m : Nat) (H H' : Hp) (p : Addr) : Prop := H' p = some (.lst ((List.range m).map fun j => V.bl (b j))) ∧ Same H H' ∧ H p = none
theorem Bools.first {b : Nat → Bool} {m : Nat} {H : Hp} {p : Addr} {bs : List Bool} (n : H p = none) (e : bs.map V.bl = (List.range m).map fun j => V.bl (b j)) : Bools b m H (upd H p (.lst (bs.map V.bl))) p :=
  ⟨by rw [upd_same, e], same_new n, n⟩
theorem Bools.more {b : Nat → Bool} {m k : Nat} {H H1 : Hp} {p q r : Addr} {bs : List Bool} (h : Bools b m H H1 p) (nq : H1 q = none) (n : upd H1 q (.lst (bs.map V.bl)) r = none)
    (e : ((List.range m).map fun j => V.bl (b j)) ++ bs.map V.bl = (List.range k).map fun j => V.bl (b j)) :
    Bools b k H (upd (upd H1 q (.lst (bs.map V.bl))) r (.lst (((List.range m).map fun j => V.bl (b j)) ++ bs.map V.bl))) r := by
  obtain ⟨h1, h2, h3⟩ := h
  have s := h2.trans (same_new (o := .lst (bs.map V.bl)) nq)
  exact ⟨by rw [upd_same, e], s.trans (same_new n), s.free n⟩
theorem filter_more {b : Nat → Bool} (i : Nat) : (List.range (i + 1)).filter b = (List.range i).filter b ++ (if b i = true then [i] else []) := by
  rw [List.range_succ, List.filter_append]
  congr 1
  by_cases h : b i = true
  · rw [if_pos h, List.filter_cons_of_pos h, List.filter_nil]
  · rw [if_neg h, List.filter_cons_of_neg h, List.filter_nil]
theorem sc_code : FnScope ["_law_error", "_law_found", "_law_at"] ["_law_error"] (defScope sCode) := ⟨rfl, rfl, rfl, by decide +kernel, rfl, by decide +kernel, by decide +kernel⟩
theorem ok_code {f : Addr} {fd : FuncData} (G : Fun K "_law_code" "_law_code" sCode f fd) (B : Bts mg) (bi : mg "isinstance" = none) (mc : ∀ i, i < 24 → mg (names.getD i Str.empty) = some (.ref (c i))) :
    FnOk P w K mg base CX0 4 f fd ["_law_error"] (spCode K c) := by
  have sc := sc_code
  refine G.ok sc (fun vs H Q E h => ?_) (fun cdv A outer s H vs Q E hr h => ?_)
  · obtain ⟨a, C, b, rfl, _⟩ := h
    rfl
  · obtain ⟨a, C, b, rfl, ho, hk, k⟩ := h
    refine ⟨_, pss_cons (ps_set (i := 1) sc.nd rfl (Or.inr rfl) (pe_lst (pa_isC (pe_is bi (by rfl) (pv 0) (pe_glob (v := .ref (c 0)) (by rfl) (mc 0 (by decide)) rfl) (.own (c 0))) (pa_is1 (pe_is bi (by rfl) (pv 0) (pe_glob (v := .ref (c 1)) (by rfl) (mc 1 (by decide)) rfl) (.own (c 1)))))))
      (pss_cons (ps_set (i := 1) sc.nd rfl (Or.inr rfl) (pe_op op_cat (pv 1) (pe_lst (pa_isC (pe_is bi (by rfl) (pv 0) (pe_glob (v := .ref (c 2)) (by rfl) (mc 2 (by decide)) rfl) (.own (c 2))) (pa_is1 (pe_is bi (by rfl) (pv 0) (pe_glob (v := .ref (c 3)) (by rfl) (mc 3 (by decide)) rfl) (.own (c 3))))))))
      (pss_cons (ps_set (i := 1) sc.nd rfl (Or.inr rfl) (pe_op op_cat (pv 1) (pe_lst (pa_isC (pe_is bi (by rfl) (pv 0) (pe_glob (v := .ref (c 4)) (by rfl) (mc 4 (by decide)) rfl) (.own (c 4))) (pa_is1 (pe_is bi (by rfl) (pv 0) (pe_glob (v := .ref (c 5)) (by rfl) (mc 5 (by decide)) rfl) (.own (c 5))))))))
      (pss_cons (ps_set (i := 1) sc.nd rfl (Or.inr rfl) (pe_op op_cat (pv 1) (pe_lst (pa_isC (pe_is bi (by rfl) (pv 0) (pe_glob (v := .ref (c 6)) (by rfl) (mc 6 (by decide)) rfl) (.own (c 6))) (pa_is1 (pe_is bi (by rfl) (pv 0) (pe_glob (v := .ref (c 7)) (by rfl) (mc 7 (by decide)) rfl) (.own (c 7))))))))
      (pss_cons (ps_set (i := 1) sc.nd rfl (Or.inr rfl) (pe_op op_cat (pv 1) (pe_lst (pa_isC (pe_is bi (by rfl) (pv 0) (pe_glob (v := .ref (c 8)) (by rfl) (mc 8 (by decide)) rfl) (.own (c 8))) (pa_is1 (pe_is bi (by rfl) (pv 0) (pe_glob (v := .ref (c 9)) (by rfl) (mc 9 (by decide)) rfl) (.own (c 9))))))))
      (pss_cons (ps_set (i := 1) sc.nd rfl (Or.inr rfl) (pe_op op_cat (pv 1) (pe_lst (pa_isC (pe_is bi (by rfl) (pv 0) (pe_glob (v := .ref (c 10)) (by rfl) (mc 10 (by decide)) rfl) (.own (c 10))) (pa_is1 (pe_is bi (by rfl) (pv 0) (pe_glob (v := .ref (c 11)) (by rfl) (mc 11 (by decide)) rfl) (.own (c 11))))))))
      (pss_cons (ps_set (i := 1) sc.nd rfl (Or.inr rfl) (pe_op op_cat (pv 1) (pe_lst (pa_isC (pe_is bi (by rfl) (pv 0) (pe_glob (v := .ref (c 12)) (by rfl) (mc 12 (by decide)) rfl) (.own (c 12))) (pa_is1 (pe_is bi (by rfl) (pv 0) (pe_glob (v := .ref (c 13)) (by rfl) (mc 13 (by decide)) rfl) (.own (c 13))))))))
      (pss_cons (ps_set (i := 1) sc.nd rfl (Or.inr rfl) (pe_op op_cat (pv 1) (pe_lst (pa_isC (pe_is bi (by rfl) (pv 0) (pe_glob (v := .ref (c 14)) (by rfl) (mc 14 (by decide)) rfl) (.own (c 14))) (pa_is1 (pe_is bi (by rfl) (pv 0) (pe_glob (v := .ref (c 15)) (by rfl) (mc 15 (by decide)) rfl) (.own (c 15))))))))
      (pss_cons (ps_set (i := 1) sc.nd rfl (Or.inr rfl) (pe_op op_cat (pv 1) (pe_lst (pa_isC (pe_is bi (by rfl) (pv 0) (pe_glob (v := .ref (c 16)) (by rfl) (mc 16 (by decide)) rfl) (.own (c 16))) (pa_is1 (pe_is bi (by rfl) (pv 0) (pe_glob (v := .ref (c 17)) (by rfl) (mc 17 (by decide)) rfl) (.own (c 17))))))))
      (pss_cons (ps_set (i := 1) sc.nd rfl (Or.inr rfl) (pe_op op_cat (pv 1) (pe_lst (pa_isC (pe_is bi (by rfl) (pv 0) (pe_glob (v := .ref (c 18)) (by rfl) (mc 18 (by decide)) rfl) (.own (c 18))) (pa_isC (pe_is bi (by rfl) (pv 0) (pe_glob (v := .ref (c 19)) (by rfl) (mc 19 (by decide)) rfl) (.own (c 19))) (pa_is1 (pe_is bi (by rfl) (pv 0) (pe_glob (v := .ref (c 20)) (by rfl) (mc 20 (by decide)) rfl) (.own (c 20)))))))))
      (pss_cons (ps_set (i := 1) sc.nd rfl (Or.inr rfl) (pe_op op_cat (pv 1) (pe_lst (pa_isC (pe_is bi (by rfl) (pv 0) (pe_glob (v := .ref (c 21)) (by rfl) (mc 21 (by decide)) rfl) (.own (c 21))) (pa_is1 (pe_is bi (by rfl) (pv 0) (pe_glob (v := .ref (c 22)) (by rfl) (mc 22 (by decide)) rfl) (.own (c 22))))))))
      (pss_cons (ps_set (i := 1) sc.nd rfl (Or.inr rfl) (pe_op op_cat (pv 1) (pe_lst (pa_is1 (pe_is bi (by rfl) (pv 0) (pe_glob (v := .ref (c 23)) (by rfl) (mc 23 (by decide)) rfl) (.own (c 23)))))))
      (pss_one (ps_ret (pe_lc (own := [("_law_at", 2)]) (g := gName 2) (tt := tB (tOp (rIxL K) (tVar 1) (tVar 2))) rfl sc.nd (pi_range1 (by rfl) B.range (pa_cons (pe_callB call_len_seq (by rfl) B.len boot_len (pa_cons (pv 1) pa_nil)) pa_nil))
        (blkOk_by (N := ["_law_error", "_law_found", "_law_at"]) (sc := defScope sCode) (by decide +kernel)) (fun _ _ _ _ _ => pg_name (i := 2) sc.nd rfl (Or.inl rfl)) (fun _ _ _ _ _ => pts_one (pt_val (pe_ix ix_list (pv 1) (pv 2) (fun _ _ => rfl))))
        (fun _ _ _ _ _ => pv 2))))))))))))))), ?_⟩
    refine ⟨a, C, [b 0, b 1], rfl, ho, (.cons (hk 0 (by decide)) (.cons (hk 1 (by decide)) .nil)), (by simp; decide), fun p0 n0 => ?_⟩
    have m0 : Bools b 2 H (upd H p0 _) p0 := Bools.first (bs := [b 0, b 1]) n0 rfl
    refine ⟨_, rfl, a, C, [b 2, b 3], rfl, ho.same m0.2.1, (.cons (hk 2 (by decide)) (.cons (hk 3 (by decide)) .nil)), (by simp; decide), fun q1 nq1 => ?_⟩
    have w1 := (upd_ne (o := .lst ([b 2, b 3].map V.bl)) (ne_of_none m0.1 nq1)).trans m0.1
    refine ⟨p0, q1, _, _, rfl, rfl, w1, upd_same, (by simp; decide), fun p1 n1 => ?_⟩
    have m1 : Bools b 4 H _ p1 := m0.more (bs := [b 2, b 3]) nq1 n1 rfl
    refine ⟨_, rfl, a, C, [b 4, b 5], rfl, ho.same m1.2.1, (.cons (hk 4 (by decide)) (.cons (hk 5 (by decide)) .nil)), (by simp; decide), fun q2 nq2 => ?_⟩
    have w2 := (upd_ne (o := .lst ([b 4, b 5].map V.bl)) (ne_of_none m1.1 nq2)).trans m1.1
    refine ⟨p1, q2, _, _, rfl, rfl, w2, upd_same, (by simp; decide), fun p2 n2 => ?_⟩
    have m2 : Bools b 6 H _ p2 := m1.more (bs := [b 4, b 5]) nq2 n2 rfl
    refine ⟨_, rfl, a, C, [b 6, b 7], rfl, ho.same m2.2.1, (.cons (hk 6 (by decide)) (.cons (hk 7 (by decide)) .nil)), (by simp; decide), fun q3 nq3 => ?_⟩
    have w3 := (upd_ne (o := .lst ([b 6, b 7].map V.bl)) (ne_of_none m2.1 nq3)).trans m2.1
    refine ⟨p2, q3, _, _, rfl, rfl, w3, upd_same, (by simp; decide), fun p3 n3 => ?_⟩
    have m3 : Bools b 8 H _ p3 := m2.more (bs := [b 6, b 7]) nq3 n3 rfl
    refine ⟨_, rfl, a, C, [b 8, b 9], rfl, ho.same m3.2.1, (.cons (hk 8 (by decide)) (.cons (hk 9 (by decide)) .nil)), (by simp; decide), fun q4 nq4 => ?_⟩
    have w4 := (upd_ne (o := .lst ([b 8, b 9].map V.bl)) (ne_of_none m3.1 nq4)).trans m3.1
    refine ⟨p3, q4, _, _, rfl, rfl, w4, upd_same, (by simp; decide), fun p4 n4 => ?_⟩
    have m4 : Bools b 10 H _ p4 := m3.more (bs := [b 8, b 9]) nq4 n4 rfl
    refine ⟨_, rfl, a, C, [b 10, b 11], rfl, ho.same m4.2.1, (.cons (hk 10 (by decide)) (.cons (hk 11 (by decide)) .nil)), (by simp; decide), fun q5 nq5 => ?_⟩
    have w5 := (upd_ne (o := .lst ([b 10, b 11].map V.bl)) (ne_of_none m4.1 nq5)).trans m4.1
    refine ⟨p4, q5, _, _, rfl, rfl, w5, upd_same, (by simp; decide), fun p5 n5 => ?_⟩
    have m5 : Bools b 12 H _ p5 := m4.more (bs := [b 10, b 11]) nq5 n5 rfl
    refine ⟨_, rfl, a, C, [b 12, b 13], rfl, ho.same m5.2.1, (.cons (hk 12 (by decide)) (.cons (hk 13 (by decide)) .nil)), (by simp; decide), fun q6 nq6 => ?_⟩
    have w6 := (upd_ne (o := .lst ([b 12, b 13].map V.bl)) (ne_of_none m5.1 nq6)).trans m5.1
    refine ⟨p5, q6, _, _, rfl, rfl, w6, upd_same, (by simp; decide), fun p6 n6 => ?_⟩
    have m6 : Bools b 14 H _ p6 := m5.more (bs := [b 12, b 13]) nq6 n6 rfl
    refine ⟨_, rfl, a, C, [b 14, b 15], rfl, ho.same m6.2.1, (.cons (hk 14 (by decide)) (.cons (hk 15 (by decide)) .nil)), (by simp; decide), fun q7 nq7 => ?_⟩
    have w7 := (upd_ne (o := .lst ([b 14, b 15].map V.bl)) (ne_of_none m6.1 nq7)).trans m6.1
    refine ⟨p6, q7, _, _, rfl, rfl, w7, upd_same, (by simp; decide), fun p7 n7 => ?_⟩
    have m7 : Bools b 16 H _ p7 := m6.more (bs := [b 14, b 15]) nq7 n7 rfl
    refine ⟨_, rfl, a, C, [b 16, b 17], rfl, ho.same m7.2.1, (.cons (hk 16 (by decide)) (.cons (hk 17 (by decide)) .nil)), (by simp; decide), fun q8 nq8 => ?_⟩
    have w8 := (upd_ne (o := .lst ([b 16, b 17].map V.bl)) (ne_of_none m7.1 nq8)).trans m7.1
    refine ⟨p7, q8, _, _, rfl, rfl, w8, upd_same, (by simp; decide), fun p8 n8 => ?_⟩
    have m8 : Bools b 18 H _ p8 := m7.more (bs := [b 16, b 17]) nq8 n8 rfl
    refine ⟨_, rfl, a, C, [b 18, b 19, b 20], rfl, ho.same m8.2.1, (.cons (hk 18 (by decide)) (.cons (hk 19 (by decide)) (.cons (hk 20 (by decide)) .nil))), (by simp; decide), fun q9 nq9 => ?_⟩
    have w9 := (upd_ne (o := .lst ([b 18, b 19, b 20].map V.bl)) (ne_of_none m8.1 nq9)).trans m8.1
    refine ⟨p8, q9, _, _, rfl, rfl, w9, upd_same, (by simp; decide), fun p9 n9 => ?_⟩
    have m9 : Bools b 21 H _ p9 := m8.more (bs := [b 18, b 19, b 20]) nq9 n9 rfl
    refine ⟨_, rfl, a, C, [b 21, b 22], rfl, ho.same m9.2.1, (.cons (hk 21 (by decide)) (.cons (hk 22 (by decide)) .nil)), (by simp; decide), fun q10 nq10 => ?_⟩
    have w10 := (upd_ne (o := .lst ([b 21, b 22].map V.bl)) (ne_of_none m9.1 nq10)).trans m9.1
    refine ⟨p9, q10, _, _, rfl, rfl, w10, upd_same, (by simp; decide), fun p10 n10 => ?_⟩
    have m10 : Bools b 23 H _ p10 := m9.more (bs := [b 21, b 22]) nq10 n10 rfl
    refine ⟨_, rfl, a, C, [b 23], rfl, ho.same m10.2.1, (.cons (hk 23 (by decide)) .nil), (by simp; decide), fun q11 nq11 => ?_⟩
    have w11 := (upd_ne (o := .lst ([b 23].map V.bl)) (ne_of_none m10.1 nq11)).trans m10.1
    refine ⟨p10, q11, _, _, rfl, rfl, w11, upd_same, (by simp; decide), fun p11 n11 => ?_⟩
    have m11 : Bools b 24 H _ p11 := m10.more (bs := [b 23]) nq11 n11 rfl
    obtain ⟨hf, sf, nf⟩ := m11
    refine ⟨_, rfl, p11, _, rfl, .inl (SqL.of hf), ?_⟩
    rw [List.length_map, List.length_range]
    walk_at "go"
    refine fun D nD => ?_
    have nDH : H D = none := sf.free nD
    have Dp : D ≠ p11 := (ne_of_none hf nD).symm
    refine lc_range (lo := 0) (n := ((24 : Nat) : Int).toNat) (fun i H2 => Same H H2 ∧ H2 D = some (.lst (((List.range i).filter b).map fun j : Nat => V.int (j : Int))) ∧ H2 p11 = some (.lst ((List.range 24).map fun j => V.bl (b j)))) ?_ ?_ ?_
    · exact ⟨sf.trans (same_new nD), upd_same, by rw [upd_ne Dp.symm]; exact hf⟩
    · rintro i H2 hi ⟨s2, hD, hp⟩
      have hi' : i < 24 := hi
      refine ⟨rfl, ?_⟩
      refine ⟨_, rfl, _, rfl, p11, _, _, V.bl (b i), rfl, rfl, SqL.of hp, at_of (j := i) (Int.zero_add _) (by rw [List.getElem?_map, List.getElem?_range hi']; rfl), b i, rfl, ?_⟩
      have fm := filter_more (b := b) i
      refine ite2 (fun hb => ?_) (fun hb => ?_)
      · rw [if_pos hb] at fm
        refine ⟨_, rfl, _, hD, ?_, ?_⟩
        · rw [List.length_map]
          exact small1000 (Nat.le_trans (List.length_filter_le _ _) (by rw [List.length_range]; omega))
        · refine ⟨fun b' o e => by rw [upd_ne (ne_of_none e nDH)]; exact s2 b' o e, ?_, by rw [upd_ne Dp.symm]; exact hp⟩
          rw [upd_same, fm, List.map_append, Int.zero_add]
          rfl
      · rw [if_neg hb, List.append_nil] at fm
        exact ⟨s2, by rw [fm]; exact hD, hp⟩
    · rintro H2 ⟨s2, hD, hp⟩
      exact k H2 D s2 nDH hD
def spIsErr (K : PySem.W.Frag) (L : Addr) : Sp := fun vs H Q _ => ∃ a C : Addr, vs = [.ref a] ∧ ObjX K H a C ∧ PySem.W.kitOne K (.ref C) (.ref L) = some true ∧ PySem.W.kitOne K (.ref C) (.type "ValueError") = some true ∧ Q (.bl true) H
theorem sc_iserr : FnScope ["_law_error"] ["_law_error"] (defScope sIsError) := ⟨rfl, rfl, rfl, by decide +kernel, rfl, by decide +kernel, by decide +kernel⟩
theorem ok_iserr {L f : Addr} {fd : FuncData} (G : Fun K "_law_is_error" "_law_is_error" sIsError f fd) (bi : mg "isinstance" = none) (bv : mg "ValueError" = none) (mL : mg "LookError" = some (.ref L)) :
    FnOk P w K mg base CX0 4 f fd ["_law_error"] (spIsErr K L) := by
  refine G.ok sc_iserr (fun vs H Q E h => ?_) (fun cdv A outer s H vs Q E hr h => ?_)
  · obtain ⟨a, C, rfl, _⟩ := h
    rfl
  · obtain ⟨a, C, rfl, ho, h1, h2, k⟩ := h
    refine ⟨_, pss_one (ps_ret (pe_and (pe_is bi (by rfl) (pv 0) (pe_glob (v := .ref L) (by rfl) mL rfl) (.own L)) (pe_one (pe_is bi (by rfl) (pv 0) (pe_bltn (v := .ty "ValueError") (by rfl) bv PyProof.Rows.Boot.«ValueError» rfl) (.ty "ValueError"))))), ?_⟩
    refine ⟨a, C, true, rfl, ho, h1, true, rfl, iteT ?_⟩
    exact ⟨a, C, true, rfl, ho, h2, k⟩
end
end My
end

section
set_option Elab.async false
set_option linter.all false
set_option maxRecDepth 100000
set_option maxHeartbeats 4000000
namespace My
local macro_rules | `(tactic| walk_at "go") => `(tactic| (repeat (first
  | (refine ⟨_, rfl, ?_⟩)
  | (refine ⟨_, _, rfl, rfl, ?_⟩)
  | (refine ⟨_, _, rfl, ?_⟩)
  | (refine ⟨rfl, ?_⟩)
  | (refine Or.inl ⟨_, rfl, ?_⟩)
  | (refine ⟨_, _, _, _, rfl, rfl, L2.SqL.of (by first | assumption | exact L2.upd_same), rfl, ?_⟩)
  | (refine ⟨_, _, _, _, rfl, rfl, (by first | assumption | exact L2.upd_same), rfl, ?_⟩)
  | (refine And.intro (by first | omega | decide | (unfold L2.CPow; decide) | (unfold L2.CMul; omega) | (unfold L2.CDiv; omega)) ?_))))
open PySem PySem.Spec PyProof.Rows L2 MyE MyR MyG
/-- what the classes answer -/
structure Ans (K : PySem.W.Frag) (c : Nat → Addr) (L : Addr) : Prop where
  ex : ∀ i, i < 25 → ExcC K (c i)
  xf : ∀ i, i < 25 → XfC K (c i)
  nv : ∀ i, i < 22 → PySem.W.findIn K (.ref (c i)) "value" = some none
  one : ∀ i j, i < 25 → j < 24 → PySem.W.kitOne K (.ref (c i)) (.ref (c j)) = some (decide (i = j))
  base : ∀ i, i < 25 → PySem.W.kitOne K (.ref (c i)) (.ref L) = some true
  ve : ∀ i, i < 25 → PySem.W.kitOne K (.ref (c i)) (.type "ValueError") = some true
theorem only_one : ∀ i, i < 22 → (List.range 24).filter (fun j => decide (i = j)) = [i] := by decide
def ones : PyData := .list ((List.range 22).map fun i : Nat => .list [.int (i : Int)])
theorem ones_eq : PyData.eqv ones ones = true := by decide +kernel
theorem ones_sh : SeqAt.shaped ones = true := by decide +kernel
theorem errs_get {H : Hp} {v : V} : ∀ {as Cs : List Addr} {i : Nat} {a : Addr}, Errs H v as Cs → as[i]? = some a → ∃ C, Cs[i]? = some C ∧ Err H a C v
  | _, _, _, _, .nil, e => by simp at e
  | _, _, 0, _, .cons r _, e => by
    simp at e
    subst e
    exact ⟨_, rfl, r⟩
  | _, _, i + 1, a, .cons _ t, e => by
    obtain ⟨C, h1, h2⟩ := errs_get (i := i) (a := a) t (by simpa using e)
    exact ⟨C, by simpa using h1, h2⟩
/-- what an error list holds: data that shows as z -/
def ShZ (H : Hp) (v : V) (z : Str) : Prop := ∃ d, Sh H v d ∧ d.showable = true ∧ d.shown.length ≤ sizeLine ∧ d.depth ≤ 60 ∧ d.shown = z
theorem ShZ.same {H H' : Hp} {v : V} {z : Str} (h : ShZ H v z) (e : Same H H') : ShZ H' v z := by
  obtain ⟨d, h1, h2⟩ := h
  exact ⟨d, h1.same e, h2⟩
def spRight (c : Nat → Addr) : Sp := fun vs H Q _ => ∃ (l : Addr) (as : List Addr) (v : V) (z : Str), vs = [.ref l, .str z] ∧ H l = some (.lst (as.map V.ref)) ∧ Errs H v as ((List.range 22).map c) ∧ ShZ H v z ∧
  ∀ H', Same H H' → Q (.bl true) H'
/-- lists of one number each -/
def Ones (H : Hp) (ps : List Addr) : Prop := ∀ (j : Nat) (p : Addr), ps[j]? = some p → H p = some (.lst [.int (j : Int)])
theorem Ones.dp {K : PySem.W.Frag} {H : Hp} {ps : List Addr} (h : Ones H ps) : DpAll K H (ps.map V.ref) ((List.range ps.length).map fun i : Nat => PyData.list [.int (i : Int)]) := by
  have go : ∀ (qs : List Addr) (k : Nat), (∀ (j : Nat) (p : Addr), qs[j]? = some p → H p = some (.lst [.int ((k + j : Nat) : Int)])) → DpAll K H (qs.map V.ref) ((List.range' k qs.length).map fun i : Nat => PyData.list [.int (i : Int)]) := by
    intro qs
    induction qs with
    | nil => intro k _; exact .nil
    | cons q qs ih =>
      intro k hq
      refine .cons (.lst (SqL.of (hq 0 q rfl)) (.cons (.int _) .nil)) (ih (k + 1) fun j p e => ?_)
      have e2 := hq (j + 1) p (by simpa using e)
      have e3 : k + (j + 1) = k + 1 + j := by omega
      rw [e3] at e2
      exact e2
  rw [List.range_eq_range']
  exact go ps 0 fun j p e => by rw [Nat.zero_add]; exact h j p e
theorem Ones.more {H H' : Hp} {ps : List Addr} {q : Addr} (h : Ones H ps) (s : Same H H') (e : H' q = some (.lst [.int (ps.length : Int)])) : Ones H' (ps ++ [q]) := fun j p z => by
  by_cases hj : j < ps.length
  · rw [List.getElem?_append_left hj] at z
    exact s _ _ (h j p z)
  · rw [List.getElem?_append_right (Nat.le_of_not_lt hj)] at z
    have hj2 : j - ps.length = 0 := by
      have := (List.getElem?_eq_some_iff.mp z).1
      simp at this
      omega
    rw [hj2] at z
    have e1 : q = p := by simpa using z
    have e2 : j = ps.length := by omega
    rw [← e1, e2]
    exact e
section
variable {P : Program} {w : World} {K : PySem.W.Frag} {mg : Str → Option Value} {base : Heap} {c fI : Nat → Addr} {fdI : Nat → FuncData}
theorem sc_right : FnScope ["_law_some", "_law_noted", "_law_error", "_law_at"] ["_law_some", "_law_noted"] (defScope sRight) := ⟨rfl, rfl, rfl, by decide +kernel, rfl, by decide +kernel, by decide +kernel⟩
theorem ok_right {L f fC fE : Addr} {fd fdC fdE : FuncData} (G : Fun K "_law_right" "_law_right" sRight f fd) (B : Bts mg) (br : mg "repr" = none) (A' : Ans K c L)
    (mC : mg "_law_code" = some (.ref fC)) (kC : PySem.W.keepIn K (.ref fC) = true) (OC : FnOk P w K mg base CX0 4 fC fdC ["_law_error"] (spCode K c)) (bC : Binds K fdC ["_law_error"] [])
    (mE : mg "_law_is_error" = some (.ref fE)) (kE : PySem.W.keepIn K (.ref fE) = true) (OE : FnOk P w K mg base CX0 4 fE fdE ["_law_error"] (spIsErr K L)) (bE : Binds K fdE ["_law_error"] []) :
    FnG P w K mg base 5 f fd ["_law_some", "_law_noted"] (spRight c) := by
  have sc := sc_right
  refine okG G sc (fun vs H Q E h => ?_) (fun cdv A outer s H vs Q E hgu hr h => ?_)
  · obtain ⟨l, as, v, z, rfl, _⟩ := h
    rfl
  · obtain ⟨l, as, v, z, rfl, hl, he, hz, k⟩ := h
    refine ⟨_, pss_cons (ps_if (pt_cmpR (op_neD hr.units)
          (pe_lc (own := [("_law_error", 2)]) (g := gName 2) (tt := tYes) rfl sc.nd (pi_list (pv 0)) (blkOk_by (N := ["_law_some", "_law_noted", "_law_error", "_law_at"]) (sc := defScope sRight) (by decide +kernel)) (fun _ _ _ _ _ => pg_name (i := 2) sc.nd rfl (Or.inl rfl)) (fun _ _ _ _ _ => pts_nil)
            (fun _ _ _ _ _ => pe_call OC hr (by rfl) mC kC bC .nil pass0 (pa_cons (pv 2) pa_nil)))
          (pe_lc (own := [("_law_at", 3)]) (g := gName 3) (tt := tYes) rfl sc.nd (pi_range1 (by rfl) B.range (pa_cons pe_int pa_nil)) (blkOk_by (N := ["_law_some", "_law_noted", "_law_error", "_law_at"]) (sc := defScope sRight) (by decide +kernel)) (fun _ _ _ _ _ => pg_name (i := 3) sc.nd rfl (Or.inl rfl)) (fun _ _ _ _ _ => pts_nil)
            (fun _ _ _ _ _ => pe_lst (pa_cons (pv 3) pa_nil))) (nomark _)) (pss_one (ps_ret pe_bl)) pss_nil)
      (pss_one (ps_ret (pe_cmpR (op_eqD hr.units)
          (pe_lc (own := [("_law_error", 2)]) (g := gName 2) (tt := tOr (tNot (tB (tCall (spIsErr K L) [] E0 (tCons (tVar 2) tNil)))) (tTest (tOp rNe (tCB rRepr (tCons (tXfl K "value" (tVar 2)) tNil)) (tVar 1)))) rfl sc.nd (pi_list (pv 0)) (blkOk_by (N := ["_law_some", "_law_noted", "_law_error", "_law_at"]) (sc := defScope sRight) (by decide +kernel)) (fun _ _ _ _ _ => pg_name (i := 2) sc.nd rfl (Or.inl rfl))
            (fun _ _ _ _ _ => pts_one (PW.pt (pw_or (pt_not (pt_val (pe_call OE hr (by rfl) mE kE bE .nil pass0 (pa_cons (pv 2) pa_nil)))) (pw_or1 (pt_cmpR op_ne (pe_callB (call_repr hgu hr.units) (by rfl) br boot_repr (pa_cons (pe_xfl (pv 2)) pa_nil)) (pv 1) (nomark _))))))
            (fun _ _ _ _ _ => pv 2))
          (pe_lst pa_nil) (nomark _)))), ?_⟩
    walk_at "go"
    have len22 : as.length = 22 := by
      have z := Paired.length he
      rw [List.length_map, List.length_range] at z
      exact z
    -- the i-th one
    have at_ : ∀ (i : Nat) (x : V), (as.map V.ref)[i]? = some x → ∃ a, x = .ref a ∧ i < 22 ∧ Err H a (c i) v := by
      intro i x e
      rw [List.getElem?_map] at e
      cases ha : as[i]? with
      | none =>
        rw [ha] at e
        cases e
      | some a =>
        rw [ha] at e
        have hi : i < 22 := by
          have := (List.getElem?_eq_some_iff.mp ha).1
          omega
        obtain ⟨C, h1, h2⟩ := errs_get he ha
        rw [List.getElem?_map, List.getElem?_range hi] at h1
        have h3 : c i = C := Option.some.inj h1
        subst h3
        exact ⟨a, (Option.some.inj e).symm, hi, h2⟩
    refine ⟨⟨_, SqL.of hl⟩, fun D1 nD1 => ?_⟩
    refine lc_list (K := K) (a := l) (xs := as.map V.ref) (fun i H2 => ∃ ps : List Addr, ps.length = i ∧ Same H H2 ∧ H2 D1 = some (.lst (ps.map V.ref)) ∧ Ones H2 ps ∧ D1 ∉ ps)
      ⟨[], rfl, same_new nD1, upd_same, fun j p e => by simp at e, by simp⟩ (fun i H2 _ ⟨_, _, s2, _⟩ => s2.seq (SqL.of hl)) ?_ ?_
    · rintro i x H2 hi ⟨ps, hlen, s2, hD, ho, nm⟩
      obtain ⟨a, rfl, hi2, er⟩ := at_ i x hi
      refine ⟨rfl, ?_⟩
      refine ⟨_, rfl, a, c i, fun j => decide (i = j), rfl, (er.same s2).obj (A'.ex i (by omega)), fun j hj => A'.one i j (by omega) hj, fun H3 q s3 nq hq => ?_⟩
      rw [only_one i hi2] at hq
      have hD3 := s3 _ _ hD
      have dq : D1 ≠ q := fun z => by
        rw [z, nq] at hD
        cases hD
      refine ⟨ps.map V.ref, hD3, by rw [List.length_map, hlen]; exact small1000 (by omega), ps ++ [q], by rw [List.length_append, hlen]; rfl, ?_, by rw [upd_same, List.map_append]; rfl, ?_, ?_⟩
      · intro b o e
        rw [upd_ne (ne_of_none e nD1)]
        exact s3 b o (s2 b o e)
      · intro j p e
        by_cases hp : p = D1
        · rcases List.mem_append.mp (List.mem_of_getElem? e) with z | z
          · exact absurd (hp ▸ z) nm
          · rw [List.mem_singleton] at z
            exact absurd (hp.symm.trans z) dq
        · rw [upd_ne hp]
          exact ho.more s3 (by rw [hlen]; exact hq) j p e
      · intro z
        rcases List.mem_append.mp z with z | z
        · exact nm z
        · rw [List.mem_singleton] at z
          exact dq z
    · rintro H2 ⟨ps, hlen, s2, hD, ho, nm⟩
      rw [List.length_map, len22] at hlen
      walk_at "go"
      refine fun D2 nD2 => ?_
      have d12 : D1 ≠ D2 := ne_of_none hD nD2
      refine lc_range (lo := 0) (n := ((22 : Nat) : Int).toNat) (fun i H3 => ∃ qs : List Addr, qs.length = i ∧ Same H2 H3 ∧ H3 D2 = some (.lst (qs.map V.ref)) ∧ Ones H3 qs ∧ D2 ∉ qs)
        ⟨[], rfl, same_new nD2, upd_same, fun j p e => by simp at e, by simp⟩ ?_ ?_
      · rintro i H3 hi ⟨qs, hlen3, s3, hD3, ho3, nm3⟩
        refine ⟨rfl, ?_⟩
        refine ⟨_, rfl, ⟨(show (1 : Nat) ≤ sizeLine by decide), fun q nq => ?_⟩⟩
        have dq : D2 ≠ q := ne_of_none hD3 nq
        have w3 := (upd_ne (o := .lst [V.int (0 + (i : Int))]) dq).trans hD3
        refine ⟨qs.map V.ref, w3, by rw [List.length_map, hlen3]; exact small1000 (by have : i < 22 := hi; omega), qs ++ [q], by rw [List.length_append, hlen3]; rfl, ?_, by rw [upd_same, List.map_append]; rfl, ?_, ?_⟩
        · intro b o e
          have e3 := s3 b o e
          rw [upd_ne (ne_of_none e nD2), upd_ne (ne_of_none e3 nq)]
          exact e3
        · intro j p e
          by_cases hp : p = D2
          · rcases List.mem_append.mp (List.mem_of_getElem? e) with z | z
            · exact absurd (hp ▸ z) nm3
            · rw [List.mem_singleton] at z
              exact absurd (hp.symm.trans z) dq
          · rw [upd_ne hp]
            exact ho3.more (same_new nq) (by rw [upd_same, hlen3, Int.zero_add]) j p e
        · intro z
          rcases List.mem_append.mp z with z | z
          · exact nm3 z
          · rw [List.mem_singleton] at z
            exact dq z
      · rintro H3 ⟨qs, hlen3, s3, hD3, ho3, nm3⟩
        have hlen3' : qs.length = 22 := hlen3
        have g1 := (show Ones H3 ps from fun j p e => s3 _ _ (ho j p e)).dp (K := K)
        have g2 := ho3.dp (K := K)
        rw [hlen] at g1
        rw [hlen3'] at g2
        refine ⟨ones, ones, .lst (SqL.of (s3 _ _ hD)) g1, .lst (SqL.of hD3) g2, ones_sh, ones_sh, false, by rw [ones_eq]; rfl, iteF ?_⟩
        have sH3 : Same H H3 := s2.trans s3
        refine ⟨_, rfl, l, rfl, ⟨_, SqL.of (sH3 _ _ hl)⟩, fun D4 nD4 => ?_⟩
        have nD4H : H D4 = none := sH3.free nD4
        refine lc_list (K := K) (a := l) (xs := as.map V.ref) (fun i H4 => Same H H4 ∧ H4 D4 = some (.lst [])) ⟨sH3.trans (same_new nD4), upd_same⟩ (fun i H4 _ ⟨s4, _⟩ => s4.seq (SqL.of hl)) ?_ ?_
        · rintro i x H4 hi ⟨s4, hD4⟩
          obtain ⟨a, rfl, hi2, er⟩ := at_ i x hi
          have er4 := er.same s4
          refine ⟨rfl, ?_⟩
          refine ⟨_, rfl, a, c i, rfl, er4.obj (A'.ex i (by omega)), A'.base i (by omega), A'.ve i (by omega), true, rfl, iteF ?_⟩
          obtain ⟨dx, z0, h1, h2⟩ := er4
          obtain ⟨d, z1, z2, z3, z4, z5⟩ := hz.same s4
          refine ⟨_, rfl, a, c i, dx, _, v, rfl, A'.xf i (by omega), A'.nv i hi2, h1, h2, rfl, v, d, rfl, z1, z2, z3, z4, _, rfl, rfl, false, by rw [z5]; simp, iteF ⟨s4, hD4⟩⟩
        · rintro H4 ⟨s4, hD4⟩
          refine ⟨Nat.zero_le _, fun q nq => ?_⟩
          have dq : D4 ≠ q := ne_of_none hD4 nq
          refine ⟨.list [], .list [], .lst (SqL.of (by rw [upd_ne dq]; exact hD4)) .nil, .lst (SqL.of upd_same) .nil, rfl, rfl, ?_⟩
          exact k _ (s4.trans (same_new nq))
end
end My
end

section
set_option Elab.async false
set_option linter.all false
set_option maxRecDepth 100000
set_option maxHeartbeats 4000000
namespace My
open PySem PySem.Spec PyProof.Rows L2 MyE MyR MyG TL
/-! ### how long a shown thing is -/
def piles (ts : List Str) : Nat := (ts.map fun t => t.length + 2).sum
theorem textFrom_le : ∀ (ts : List Str) (k : Nat) (acc : Str), (textFrom k acc ts).length ≤ acc.length + piles ts
  | [], k, acc => by
    show acc.length ≤ acc.length + 0
    omega
  | t :: ts, k, acc => by
    have ih := textFrom_le ts (k + 1) (acc ++ (if k > 0 then ", " else "" : String) ++ t)
    have e : (acc ++ (if k > 0 then ", " else "" : String) ++ t).length ≤ acc.length + 2 + t.length := by
      rw [strLen_append, strLen_append]
      have : (Str.ofString (if k > 0 then ", " else "" : String)).length ≤ 2 := by
        by_cases h : k > 0
        · rw [if_pos h]
          decide
        · rw [if_neg h]
          decide
      omega
    have e2 : piles (t :: ts) = t.length + 2 + piles ts := by simp [piles]
    rw [e2]
    have e3 : (textFrom k acc (t :: ts)) = textFrom (k + 1) (acc ++ (if k > 0 then ", " else "" : String) ++ t) ts := rfl
    rw [e3]
    omega
theorem join_le : ∀ (ts : List Str), (Str.join ", " ts).length ≤ piles ts
  | [] => Nat.le_of_eq rfl
  | [x] => by
    show x.length ≤ piles [x]
    simp [piles]
  | x :: y :: r => by
    have ih := join_le (y :: r)
    have e2 : piles (x :: y :: r) = x.length + 2 + piles (y :: r) := by simp [piles]
    show (x ++ ", " ++ Str.join ", " (y :: r)).length ≤ _
    rw [strLen_append, strLen_append, e2]
    have : (Str.ofString ", ").length = 2 := rfl
    omega
theorem listText_le (ts : List Str) : (listText ts).length ≤ 2 + piles ts := by
  have h := textFrom_le ts 0 "["
  have h1 : (Str.ofString "[").length = 1 := rfl
  have h2 : (Str.ofString "]").length = 1 := rfl
  show (textFrom 0 "[" ts ++ "]").length ≤ _
  rw [strLen_append]
  omega
theorem tupleText_le (ts : List Str) : (tupleText ts).length ≤ 3 + piles ts := by
  have h := join_le ts
  unfold tupleText
  rw [strLen_append, strLen_append]
  have h1 : (Str.ofString "(").length = 1 := rfl
  have h2 : (Str.ofString (if ts.length == 1 then ",)" else ")" : String)).length ≤ 2 := by
    split
    · decide
    · decide
  omega
theorem dictText_le (ts : List Str) : (dictText ts).length ≤ 2 + piles ts := by
  have h := join_le ts
  unfold dictText
  rw [strLen_append, strLen_append]
  have h1 : (Str.ofString "{").length = 1 := rfl
  have h2 : (Str.ofString "}").length = 1 := rfl
  omega
theorem low_repr {w : Str} (h : Low w) : (reprText w).length ≤ 82 := by
  have := PySem.StrLaws.reprText_len w fun c hc => Nat.lt_of_le_of_lt (h.2.2 c hc).2 (by decide)
  have := h.1
  omega
/-! ### the thing that is drawn -/
inductive Thing (H : Hp) (w : Str) : V → Prop
  | non : Thing H w .non
  | bl (b : Bool) : Thing H w (.bl b)
  | int (i : Int) : i.natAbs < 2 ^ 40 → Thing H w (.int i)
  | str : Thing H w (.str w)
  | tup {a : Addr} : H a = some (.tup [.str "says", .str w, .int 1, .int 2]) → Thing H w (.ref a)
  | pair {a q : Addr} : H a = some (.tup [.str w, .ref q]) → H q = some (.lst [.str w]) → (q == sysModules) = false → Thing H w (.ref a)
  | dct {a q : Addr} : H a = some (.dK [(.inr w, .ref q)]) → H q = some (.lst [.str w]) → (q == sysModules) = false → Thing H w (.ref a)
  | lst {a : Addr} : H a = some (.lst [.str w]) → (a == sysModules) = false → Thing H w (.ref a)
  | deep {a q d : Addr} : H a = some (.lst [.ref q, .ref d]) → (a == sysModules) = false → H q = some (.lst [.str w]) → (q == sysModules) = false → H d = some (.dK [(.inr "odd", .str w)]) → Thing H w (.ref a)
theorem Thing.same {H H' : Hp} {w : Str} {x : V} (h : Thing H w x) (e : Same H H') : Thing H' w x := by
  cases h with
  | non => exact .non
  | bl b => exact .bl b
  | int i k => exact .int i k
  | str => exact .str
  | tup h => exact .tup (e _ _ h)
  | pair h1 h2 h3 => exact .pair (e _ _ h1) (e _ _ h2) h3
  | dct h1 h2 h3 => exact .dct (e _ _ h1) (e _ _ h2) h3
  | lst h1 h2 => exact .lst (e _ _ h1) h2
  | deep h1 h2 h3 h4 h5 => exact .deep (e _ _ h1) h2 (e _ _ h3) h4 (e _ _ h5)
theorem says_len : (reprText "says").length = 6 := by decide +kernel
theorem later_len : (reprText "later").length = 7 := by decide +kernel
theorem LATER_len : (reprText "LATER").length = 7 := by decide +kernel
theorem odd_len : (reprText "odd").length = 5 := by decide +kernel
theorem big_line {n : Nat} (h : n ≤ 1000) : n ≤ sizeLine := Nat.le_of_lt (small1000 h)
theorem log_small {i : Int} (k : i.natAbs < 2 ^ 40) : i.natAbs.log2 < 1920 := by
  by_cases h : i.natAbs = 0
  · rw [h]
    decide
  · exact Nat.lt_trans ((Nat.log2_lt h).mpr k) (by decide)
theorem shz {H : Hp} {x : V} {d : PyData} (h : Sh H x d) (h1 : d.showable = true) (h2 : d.shown.length ≤ 1000) (h3 : d.depth ≤ 60) : ∃ z, ShZ H x z := ⟨_, d, h, h1, big_line h2, h3, rfl⟩
theorem shz_lst {H : Hp} {w : Str} {a : Addr} (hw : Low w) (h : H a = some (.lst [.str w])) (n : (a == sysModules) = false) : ∃ z, ShZ H (.ref a) z := by
  have := low_repr hw
  have := listText_le [reprText w]
  refine shz (.lst h n (.cons (.str w) .nil)) (by simp [PyData.showable, PyData.showableAll]) ?_ (by simp [PyData.depth, PyData.depthAll])
  simp [piles, PyData.shown, PyData.shownAll] at *
  omega
theorem shz_lst2 {H : Hp} {w : Str} {a : Addr} (hw : Low w) (h : H a = some (.lst [.str w, .str "later"])) (n : (a == sysModules) = false) : ∃ z, ShZ H (.ref a) z := by
  have := low_repr hw
  have := later_len
  have := listText_le [reprText w, reprText "later"]
  refine shz (.lst h n (.cons (.str w) (.cons (.str _) .nil))) (by simp [PyData.showable, PyData.showableAll]) ?_ (by simp [PyData.depth, PyData.depthAll])
  simp [piles, PyData.shown, PyData.shownAll] at *
  omega
/-- a tuple of the word and a list of at most two short texts -/
theorem shz_pair {H : Hp} {w : Str} {a q : Addr} {ys : List Str} (hw : Low w) (h : H a = some (.tup [.str w, .ref q])) (hq : H q = some (.lst (ys.map V.str))) (n : (q == sysModules) = false) (hy : ys = [w] ∨ ys = [w, "later"]) : ∃ z, ShZ H (.ref a) z := by
  have := low_repr hw
  have := later_len
  rcases hy with rfl | rfl
  · have := listText_le [reprText w]
    have := tupleText_le [reprText w, listText [reprText w]]
    refine shz (.tup h (.cons (.str w) (.cons (.lst hq n (.cons (.str w) .nil)) .nil))) (by simp [PyData.showable, PyData.showableAll]) ?_ (by simp [PyData.depth, PyData.depthAll])
    simp [piles, PyData.shown, PyData.shownAll] at *
    omega
  · have := listText_le [reprText w, reprText "later"]
    have := tupleText_le [reprText w, listText [reprText w, reprText "later"]]
    refine shz (.tup h (.cons (.str w) (.cons (.lst hq n (.cons (.str w) (.cons (.str _) .nil))) .nil))) (by simp [PyData.showable, PyData.showableAll]) ?_ (by simp [PyData.depth, PyData.depthAll])
    simp [piles, PyData.shown, PyData.shownAll] at *
    omega
theorem two_len : (Str.ofString ": ").length = 2 := rfl
theorem shz_dct {H : Hp} {w : Str} {a q : Addr} (hw : Low w) (h : H a = some (.dK [(.inr w, .ref q)])) (hq : H q = some (.lst [.str w])) (n : (q == sysModules) = false) : ∃ z, ShZ H (.ref a) z := by
  have := low_repr hw
  have := listText_le [reprText w]
  have := two_len
  have := dictText_le [reprText w ++ ": " ++ listText [reprText w]]
  refine shz (.dct h (ds := [_]) (.cons (.lst hq n (.cons (.str w) .nil)) .nil)) (by simp [PyData.showable, PyData.showableAll, PyData.showableKv, kd]) ?_ (by simp [PyData.depth, PyData.depthAll, PyData.depthKv, kd])
  simp [piles, PyData.shown, PyData.shownAll, PyData.shownKv, kd, strLen_append] at *
  omega
theorem shz_dct2 {H : Hp} {w : Str} {a q : Addr} (hw : Low w) (h : H a = some (.dK [(.inr w, .ref q), (.inr "LATER", .int 1)])) (hq : H q = some (.lst [.str w, .str "later"])) (n : (q == sysModules) = false) : ∃ z, ShZ H (.ref a) z := by
  have := low_repr hw
  have := later_len
  have := LATER_len
  have := listText_le [reprText w, reprText "later"]
  have := two_len
  have o1 : (toString (1 : Int) : Str).length = 1 := by decide +kernel
  have := dictText_le [reprText w ++ ": " ++ listText [reprText w, reprText "later"], reprText "LATER" ++ ": " ++ toString (1 : Int)]
  refine shz (.dct h (ds := [_, _]) (.cons (.lst hq n (.cons (.str w) (.cons (.str _) .nil))) (.cons (.int 1) .nil))) (by simp [PyData.showable, PyData.showableAll, PyData.showableKv, kd]; decide) ?_ (by simp [PyData.depth, PyData.depthAll, PyData.depthKv, kd])
  simp [piles, PyData.shown, PyData.shownAll, PyData.shownKv, kd, strLen_append] at *
  omega
theorem shz_deep {H : Hp} {w : Str} {a q d : Addr} (hw : Low w) (h : H a = some (.lst [.ref q, .ref d])) (na : (a == sysModules) = false) (hq : H q = some (.lst [.str w])) (n : (q == sysModules) = false) (hd : H d = some (.dK [(.inr "odd", .str w)])) : ∃ z, ShZ H (.ref a) z := by
  have := low_repr hw
  have := odd_len
  have := two_len
  have := listText_le [reprText w]
  have := dictText_le [reprText "odd" ++ ": " ++ reprText w]
  have := listText_le [listText [reprText w], dictText [reprText "odd" ++ ": " ++ reprText w]]
  refine shz (.lst h na (.cons (.lst hq n (.cons (.str w) .nil)) (.cons (.dct hd (ds := [_]) (.cons (.str w) .nil)) .nil))) (by simp [PyData.showable, PyData.showableAll, PyData.showableKv, kd]) ?_ (by simp [PyData.depth, PyData.depthAll, PyData.depthKv, kd])
  simp [piles, PyData.shown, PyData.shownAll, PyData.shownKv, kd, strLen_append] at *
  omega
theorem shz_deep2 {H : Hp} {w : Str} {a q d : Addr} (hw : Low w) (h : H a = some (.lst [.ref q, .ref d, .str "later"])) (na : (a == sysModules) = false) (hq : H q = some (.lst [.str w])) (n : (q == sysModules) = false) (hd : H d = some (.dK [(.inr "odd", .str w)])) : ∃ z, ShZ H (.ref a) z := by
  have := low_repr hw
  have := odd_len
  have := later_len
  have := two_len
  have := listText_le [reprText w]
  have := dictText_le [reprText "odd" ++ ": " ++ reprText w]
  have := listText_le [listText [reprText w], dictText [reprText "odd" ++ ": " ++ reprText w], reprText "later"]
  refine shz (.lst h na (.cons (.lst hq n (.cons (.str w) .nil)) (.cons (.dct hd (ds := [_]) (.cons (.str w) .nil)) (.cons (.str _) .nil)))) (by simp [PyData.showable, PyData.showableAll, PyData.showableKv, kd]) ?_ (by simp [PyData.depth, PyData.depthAll, PyData.depthKv, kd])
  simp [piles, PyData.shown, PyData.shownAll, PyData.shownKv, kd, strLen_append] at *
  omega
theorem Thing.shz {H : Hp} {w : Str} {x : V} (hw : Low w) (h : Thing H w x) : ∃ z, ShZ H x z := by
  have hr := low_repr hw
  cases h with
  | non => exact ⟨_, _, .non, by decide, by decide +kernel, by decide, rfl⟩
  | bl b => exact ⟨_, _, .bl b, by cases b <;> decide, by cases b <;> decide +kernel, by cases b <;> decide, rfl⟩
  | int i k => exact ⟨_, _, .int i, by simpa [PyData.showable] using log_small k, int_text_fits (log_small k), by simp [PyData.depth], rfl⟩
  | str => exact ⟨_, _, .str w, by simp [PyData.showable], big_line (by simp [PyData.shown]; omega), by simp [PyData.depth], rfl⟩
  | tup h =>
    refine ⟨_, _, .tup h (.cons (.str _) (.cons (.str w) (.cons (.int 1) (.cons (.int 2) .nil)))), by simp [PyData.showable, PyData.showableAll]; decide, ?_, by simp [PyData.depth, PyData.depthAll], rfl⟩
    have h1 := tupleText_le [reprText "says", reprText w, toString (1 : Int), toString (2 : Int)]
    have h2 : (toString (1 : Int) : Str).length = 1 := by decide +kernel
    have h3 : (toString (2 : Int) : Str).length = 1 := by decide +kernel
    have h4 := says_len
    refine big_line ?_
    simp [piles, PyData.shown, PyData.shownAll] at *
    omega
  | pair h1 h2 h3 => exact shz_pair (ys := [w]) hw h1 h2 h3 (.inl rfl)
  | dct h1 h2 h3 => exact shz_dct hw h1 h2 h3
  | lst h1 h2 => exact shz_lst hw h1 h2
  | deep h1 h2 h3 h4 h5 => exact shz_deep hw h1 h2 h3 h4 h5
end My
end

section
set_option Elab.async false
set_option linter.all false
set_option maxRecDepth 100000
set_option maxHeartbeats 8000000
namespace My
local macro_rules | `(tactic| walk_at "go") => `(tactic| (repeat (first
  | (refine ⟨_, rfl, ?_⟩)
  | (refine ⟨_, _, rfl, rfl, ?_⟩)
  | (refine ⟨_, _, rfl, ?_⟩)
  | (refine ⟨rfl, ?_⟩)
  | (refine Or.inl ⟨_, rfl, ?_⟩)
  | (refine ⟨_, _, _, _, rfl, rfl, L2.SqL.of (by first | assumption | exact L2.upd_same), rfl, ?_⟩)
  | (refine ⟨_, _, _, _, rfl, rfl, (by first | assumption | exact L2.upd_same), rfl, ?_⟩)
  | (refine And.intro (by first | omega | decide | (unfold L2.CPow; decide) | (unfold L2.CMul; omega) | (unfold L2.CDiv; omega)) ?_))))
open PySem PySem.Spec PyProof.Rows L2 MyE MyR MyG TL PySem.MyN
/-- what the law calls -/
structure Calls (P : Program) (w : World) (K : PySem.W.Frag) (mg : Str → Option Value) (base : Heap) (c fI : Nat → Addr) (fdI : Nat → FuncData) (L fL fPs fO fW fF fK fB fC fE fR : Addr) (dL dPs dO dW dF dK dB dC dE dR : FuncData) : Prop where
  mPs : mg "_law_purses" = some (.ref fPs)
  kPs : PySem.W.keepIn K (.ref fPs) = true
  oPs : FnOk P w K mg base CX0 3 fPs dPs ["_law_script", "_law_few"] (spPurses K)
  bPs : Binds K dPs ["_law_script", "_law_few"] []
  mO : mg "_law_one_of" = some (.ref fO)
  kO : PySem.W.keepIn K (.ref fO) = true
  oO : FnOk P w K mg base CX0 3 fO dO ["_law_purse_here", "_law_some"] (spOneOf K)
  bO : Binds K dO ["_law_purse_here", "_law_some"] []
  mW : mg "_law_word" = some (.ref fW)
  kW : PySem.W.keepIn K (.ref fW) = true
  oW : FnOk P w K mg base CX0 4 fW dW ["_law_purse_here"] spWord
  bW : Binds K dW ["_law_purse_here"] []
  mF : mg "_law_first" = some (.ref fF)
  kF : PySem.W.keepIn K (.ref fF) = true
  oF : FnOk P w K mg base CX0 4 fF dF ["_law_thing"] (spMade c)
  bF : Binds K dF ["_law_thing"] []
  mK : mg "_law_called" = some (.ref fK)
  kK : PySem.W.keepIn K (.ref fK) = true
  oK : FnOk P w K mg base CX0 4 fK dK ["_law_thing"] (spMade c)
  bK : Binds K dK ["_law_thing"] []
  mB : mg "_law_bare" = some (.ref fB)
  kB : PySem.W.keepIn K (.ref fB) = true
  oB : FnOk P w K mg base CX0 4 fB dB [] (spBare c)
  bB : Binds K dB [] []
  mC : mg "_law_code" = some (.ref fC)
  kC : PySem.W.keepIn K (.ref fC) = true
  oC : FnOk P w K mg base CX0 4 fC dC ["_law_error"] (spCode K c)
  bC : Binds K dC ["_law_error"] []
  mE : mg "_law_is_error" = some (.ref fE)
  kE : PySem.W.keepIn K (.ref fE) = true
  oE : FnOk P w K mg base CX0 4 fE dE ["_law_error"] (spIsErr K L)
  bE : Binds K dE ["_law_error"] []
  mR : mg "_law_right" = some (.ref fR)
  kR : PySem.W.keepIn K (.ref fR) = true
  oR : FnG P w K mg base 5 fR dR ["_law_some", "_law_noted"] (spRight c)
  bR : Binds K dR ["_law_some", "_law_noted"] []
  oL : FnOk P w K mg base CX0 1 fL dL ["self"] (spLE K)
  bL : Binds K dL ["self"] []
  ox : ∀ i, i < 25 → OexC K (c i)
  wd : ∀ i, i < 25 → WdC K (c i)
  iC : ∀ i, 22 ≤ i → i < 25 → PySem.W.findIn K (.ref (c i)) "__init__" = some (some (.ref fL))
  tI : PySem.W.typeIn K (.ref fL) = some (.type "function")
  ans : Ans K c L
  cL : c 24 = L
  mU : mg "NothingToUndo" = some (.ref (c 22))
  mD : mg "NothingToRedo" = some (.ref (c 23))
  mL : mg "LookError" = some (.ref (c 24))
  bi : mg "isinstance" = none
  br : mg "repr" = none
  ba : mg "all" = none
  bl : mg "list" = none
  bd : mg "dict" = none
  bt : mg "tuple" = none
section
variable {X : Cx} {x : Str} {C fL : Addr} {dL : FuncData} {p pos : Pos}
theorem pe_errN (ox : OexC X.K C) (wd : WdC X.K C) (iC : PySem.W.findIn X.K (.ref C) "__init__" = some (some (.ref fL))) (tI : PySem.W.typeIn X.K (.ref fL) = some (.type "function")) (oL : FnOk X.prog X.w X.K X.mg X.base CX0 1 fL dL ["self"] (spLE X.K)) (bL : Binds X.K dL ["self"] [])
    (hr : Room 2 X.A) (hg : Gl X x) (hm : X.mg x = some (.ref C)) (hdb : (x == ("__debug__" : Str)) = false := by decide) :
    PE X (.Call (.Name x p) [] [] pos) (fun σ H Q => ∀ (a : Addr) (H2 : Hp), H a = none → Same H H2 → ObjX X.K H2 a C → Q (.ref a) H2) := by
  refine pe_imp (pe_mk0 ox iC tI oL hr bL .nil hg hm hdb) fun σ H Q k => ⟨Nat.zero_le _, fun a na => ?_⟩
  refine ⟨a, C, rfl, ox, wd, upd_same, fun dx z nd ne => ⟨rfl, k a _ na (fun b o e => ?_) ⟨wd.ex, some dx, upd_same, fun d e => ?_⟩⟩⟩
  · have hb := ne_of_none e na
    have e2 : (upd H a (exo a C none)) b = some o := by
      rw [upd_ne hb]
      exact e
    rw [upd_ne hb, upd_ne (ne_of_none e2 nd)]
    exact e2
  · cases e
    exact ⟨_, (upd_ne ne).trans upd_same⟩
end
theorem same_dict {H : Hp} {d q : Addr} {o1 o2 o3 : HO} (n : H d = none) (nq : (upd H d o1) q = none) : Same H (upd (upd (upd H d o1) q o2) d o3) := fun b o e => by
  have h1 : b ≠ d := ne_of_none e n
  have h2 : b ≠ q := ne_of_none (same_new (o := o1) n b o e) nq
  rw [upd_ne h1, upd_ne h2, upd_ne h1]
  exact e
theorem same_dict0 {H : Hp} {d : Addr} {o1 o3 : HO} (n : H d = none) : Same H (upd (upd H d o1) d o3) := fun b o e => by
  have h1 : b ≠ d := ne_of_none e n
  rw [upd_ne h1, upd_ne h1]
  exact e
theorem Thing.purse {H : Hp} {w : Str} {x : V} {p : Addr} {i : Int} {r : List V} {o : HO} (h : Thing H w x) (hp : H p = some (.lst (.int i :: r))) : Thing (upd H p o) w x := by
  have lk : ∀ {b : Addr} {u : HO}, H b = some u → u ≠ .lst (.int i :: r) → (upd H p o) b = some u := fun {b u} e n => by
    rw [upd_ne (ne_of e hp n)]
    exact e
  cases h with
  | non => exact .non
  | bl b => exact .bl b
  | int i k => exact .int i k
  | str => exact .str
  | tup h => exact .tup (lk h (by simp))
  | pair h1 h2 h3 => exact .pair (lk h1 (by simp)) (lk h2 (by simp)) h3
  | dct h1 h2 h3 => exact .dct (lk h1 (by simp)) (lk h2 (by simp)) h3
  | lst h1 h2 => exact .lst (lk h1 (by simp)) h2
  | deep h1 h2 h3 h4 h5 => exact .deep (lk h1 (by simp)) h2 (lk h3 (by simp)) h4 (lk h5 (by simp))
theorem things_all {Hm Hn : Hp} {w : Str} {t7 t8 d9 q10 l11 : Addr} {b : Int} {x : V} (T7 : Thing Hm w (.ref t7)) (T8 : Thing Hm w (.ref t8)) (T9 : Thing Hm w (.ref d9)) (T10 : Thing Hm w (.ref q10)) (T11 : Thing Hm w (.ref l11)) (hb : b.natAbs < 2 ^ 40) (sr : Same Hm Hn)
    (hx : x ∈ ([.non, .bl true, .bl false, .int 0, .str w, .int b, .ref t7, .ref t8, .ref d9] ++ [.ref q10, .ref l11] : List V)) : Thing Hn w x := by
  simp only [List.cons_append, List.nil_append, List.mem_cons, List.mem_nil_iff, or_false] at hx
  rcases hx with rfl | rfl | rfl | rfl | rfl | rfl | rfl | rfl | rfl | rfl | rfl
  · exact .non
  · exact .bl true
  · exact .bl false
  · exact .int 0 (by decide)
  · exact .str
  · exact .int b hb
  · exact T7.same sr
  · exact T8.same sr
  · exact T9.same sr
  · exact T10.same sr
  · exact T11.same sr
theorem Err.write {H : Hp} {a C q : Addr} {v : V} {o u : HO} (h : Err H a C v) (hq : H q = some u) (nu : ∀ φ, u ≠ .ext φ) : Err (upd H q o) a C v := by
  obtain ⟨dx, z, h1, h2⟩ := h
  exact ⟨dx, z, by rw [upd_ne (ne_of h1 hq (Ne.symm (nu _)))]; exact h1, by rw [upd_ne (ne_of h2 hq (Ne.symm (nu _)))]; exact h2⟩
theorem Errs.write {H : Hp} {v : V} {q : Addr} {o u : HO} (hq : H q = some u) (nu : ∀ φ, u ≠ .ext φ) : ∀ {as Cs : List Addr}, Errs H v as Cs → Errs (upd H q o) v as Cs
  | _, _, .nil => .nil
  | _, _, .cons h t => .cons (h.write hq nu) (Errs.write hq nu t)
theorem only_two : ∀ i, i < 24 → (List.range 24).filter (fun j => decide (i = j)) = [i] := by decide
theorem only_none : (List.range 24).filter (fun j => decide (24 = j)) = [] := by decide
def twos : PyData := .list [.list [.int 22], .list [.int 23]]
theorem twos_eq : PyData.eqv twos twos = true := by decide +kernel
theorem twos_sh : SeqAt.shaped twos = true := by decide +kernel
theorem lst_ne {as : List Addr} {xs : List V} (h : as.length = 22) (hx : xs.length < 22) : HO.lst (as.map V.ref) ≠ HO.lst xs := fun z => by
  have e : as.map V.ref = xs := by injection z
  have e2 := congrArg List.length e
  rw [List.length_map, h] at e2
  omega
theorem errs_len {H : Hp} {v : V} {c : Nat → Addr} {as : List Addr} (e : Errs H v as ((List.range 22).map c)) : as.length = 22 := by
  have z := Paired.length e
  rw [List.length_map, List.length_range] at z
  exact z
theorem low_ne {w : Str} (h : Low w) : (Sum.inr w : Key) ≠ Sum.inr ("LATER" : Str) := fun e => by
  have e2 : w = "LATER" := by injection e
  have h1 := (h.2.2 76 (by rw [e2]; decide)).1
  omega
theorem put_later {w : Str} {q : V} (h : Low w) : putK [((Sum.inr w : Key), q)] (.inr "LATER") (.int 1) = [(.inr w, q), (.inr "LATER", .int 1)] := by
  unfold putK
  rw [if_neg]
  · rfl
  · simp only [List.any_cons, List.any_nil, Bool.or_false, decide_eq_true_eq]
    exact low_ne h
theorem shz_none (H : Hp) : ShZ H .non "None" := ⟨_, .non, by decide, by decide +kernel, by decide, rfl⟩
def laterD (w : Str) : PyData := .tuple [.str "later", .str w]
theorem later_sh {H : Hp} {w : Str} {a : Addr} (h : H a = some (.tup [.str "later", .str w])) : Sh H (.ref a) (laterD w) := .tup h (.cons (.str _) (.cons (.str w) .nil))
theorem later_ok {w : Str} (hw : Low w) : (laterD w).showable = true ∧ (laterD w).shown.length ≤ sizeLine ∧ (laterD w).depth ≤ 60 := by
  have h1 := low_repr hw
  have h2 := tupleText_le [reprText "later", reprText w]
  have h3 := later_len
  refine ⟨by simp [laterD, PyData.showable, PyData.showableAll], big_line ?_, by simp [laterD, PyData.depth, PyData.depthAll]⟩
  simp [laterD, piles, PyData.shown, PyData.shownAll] at *
  omega
def spLaw (K : PySem.W.Frag) : Sp := fun vs H Q _ => ∃ (a : Addr) (ns : List Int), vs = [.ref a] ∧ SqL K H a (ns.map V.int) ∧ ns.length ≤ 63 ∧ ∀ H', Q (.bl true) H'
section
variable {P : Program} {w : World} {K : PySem.W.Frag} {mg : Str → Option Value} {base : Heap} {c fI : Nat → Addr} {fdI : Nat → FuncData} {L fL fPs fO fW fF fK fB fC fE fR : Addr} {dL dPs dO dW dF dK dB dC dE dR : FuncData}
abbrev lawN : List Str := ["_law_script", "_law_purse_here", "_law_word_here", "_law_plain", "_law_thing", "_law_noted", "_law_some", "_law_called_here", "_law_later", "_law_rest", "_law_error"]
theorem sc_law : FnScope lawN ["_law_script"] (defScope sLaw) := ⟨rfl, rfl, rfl, by decide +kernel, rfl, by decide +kernel, by decide +kernel⟩
theorem ok_law {f : Addr} {fd : FuncData} (G : Fun K "law" "law" sLaw f fd) (B : Bts mg) (T : Calls P w K mg base c fI fdI L fL fPs fO fW fF fK fB fC fE fR dL dPs dO dW dF dK dB dC dE dR) : FnG P w K mg base 7 f fd ["_law_script"] (spLaw K) := by
  have sc := sc_law
  refine okG G sc (fun vs H Q E h => ?_) (fun cdv A outer s H vs Q E hgu hr h => ?_)
  · obtain ⟨a, ns, rfl, _⟩ := h
    rfl
  · obtain ⟨a, ns, rfl, hS, hlen, k⟩ := h
    have hu := hr.units
    have hu1 : (A.deeper (envOfC "law" (defScope sLaw) s.heap.objs.size f cdv)).units + 1 < cLine := hu_of hr
    have hr5 : Room 5 _ := hr.mono (by decide)
    have hr4 : Room 4 _ := hr.mono (by decide)
    have hr3 : Room 3 _ := hr.mono (by decide)
    have hr2 : Room 2 _ := hr.mono (by decide)
    refine ⟨_, pss_cons (ps_for PassesOwn.never rfl (pi_list (pe_call T.oPs hr3 (by rfl) T.mPs T.kPs T.bPs .nil pass0 (pa_cons (pv 0) (pa_cons pe_int pa_nil)))) (pg_name (i := 1) sc.nd rfl (Or.inl rfl))
        (pss_cons (ps_set (i := 2) sc.nd rfl (Or.inl rfl) (pe_call T.oW hr4 (by rfl) T.mW T.kW T.bW .nil pass0 (pa_cons (pv 1) pa_nil)))
        (pss_cons (ps_set (i := 3) sc.nd rfl (Or.inl rfl) (pe_lst (pa_cons pe_non (pa_cons pe_bl (pa_cons pe_bl (pa_cons pe_int (pa_cons (pv 2) (pa_cons (pe_un un_neg (pe_ix ix_list (pv 1) pe_int (fun _ _ => rfl)))
          (pa_cons (pe_tup (pa_cons pe_str (pa_cons (pv 2) (pa_cons pe_int (pa_cons pe_int pa_nil))))) (pa_cons (pe_tup (pa_cons (pv 2) (pa_cons (pe_lstS (pa_cons (pv 2) pa_nil)) pa_nil)))
          (pa_cons (pe_disp (pps_cons (pv 2) (pe_lstS (pa_cons (pv 2) pa_nil)) pps_nil) rfl rfl (by simp) (by decide)) pa_nil)))))))))))
        (pss_cons (ps_set (i := 4) sc.nd rfl (Or.inl rfl) (pe_call T.oO hr3 (by rfl) T.mO T.kO T.bO .nil pass0 (pa_cons (pv 1) (pa_cons (pe_op op_cat (pv 3) (pe_lst (pa_cons (pe_lstS (pa_cons (pv 2) pa_nil))
          (pa_cons (pe_lstS (pa_cons (pe_lstS (pa_cons (pv 2) pa_nil)) (pa_cons (pe_disp (pps_cons pe_str (pv 2) pps_nil) rfl rfl (by simp) (by decide)) pa_nil))) pa_nil)))) pa_nil))))
        (pss_cons (ps_set (i := 5) sc.nd rfl (Or.inl rfl) (pe_callB (call_repr hgu hu) (by rfl) T.br boot_repr (pa_cons (pv 4) pa_nil)))
        (pss_cons (ps_par3 (i := 6) (j := 7) (l := 8) rfl sc.nd rfl rfl rfl (by decide) (by decide) (by decide) rfl rfl rfl
          (pa_cons (pe_call T.oF hr4 (by rfl) T.mF T.kF T.bF .nil pass0 (pa_cons (pv 4) pa_nil)) (pa_cons (pe_call T.oK hr4 (by rfl) T.mK T.kK T.bK .nil pass0 (pa_cons (pv 4) pa_nil))
            (pa_cons (pe_call T.oF hr4 (by rfl) T.mF T.kF T.bF .nil pass0 (pa_cons (pe_tup (pa_cons pe_str (pa_cons (pv 2) pa_nil))) pa_nil)) pa_nil))) (by rfl))
        (pss_cons (ps_if (PW.pt (pw_or (pt_not (pt_val (pe_callG hgu T.oR hr5 (by rfl) T.mR T.kR T.bR .nil (pa_cons (pe_call0 T.oB hr4 (by rfl) T.mB T.kB T.bB .nil pass0) (pa_cons pe_str pa_nil)))))
            (pw_or1 (pt_not (pt_val (pe_callG hgu T.oR hr5 (by rfl) T.mR T.kR T.bR .nil (pa_cons (pv 8) (pa_cons (pe_callB (call_repr hgu hu) (by rfl) T.br boot_repr (pa_cons (pe_tup (pa_cons pe_str (pa_cons (pv 2) pa_nil))) pa_nil)) pa_nil)))))))) (pss_one (ps_ret pe_bl)) pss_nil)
        (pss_cons (ps_if (PW.pt (pw_or (pt_not (pt_val (pe_callG hgu T.oR hr5 (by rfl) T.mR T.kR T.bR .nil (pa_cons (pv 6) (pa_cons (pv 5) pa_nil)))))
            (pw_or1 (pt_not (pt_val (pe_callG hgu T.oR hr5 (by rfl) T.mR T.kR T.bR .nil (pa_cons (pv 7) (pa_cons (pv 5) pa_nil)))))))) (pss_one (ps_ret pe_bl)) pss_nil)
        (pss_cons (ps_if (pt_val (pe_callB call_isi (by rfl) T.bi boot_isinstance (pa_cons (pv 4) (pa_cons (pe_bltn (v := .ty "list") (by rfl) T.bl boot_list rfl) pa_nil))))
            (pss_one (ps_expr (pe_bm PySem.F.plainAttrs_list PySem.F.slot_list_append PySem.F.type_list_append mt_append (pv 4) (pa_cons pe_str pa_nil)))) pss_nil)
        (pss_cons (ps_if (pt_val (pe_callB call_isi (by rfl) T.bi boot_isinstance (pa_cons (pv 4) (pa_cons (pe_bltn (v := .ty "dict") (by rfl) T.bd boot_dict rfl) pa_nil))))
            (pss_cons (ps_expr (pe_bm PySem.F.plainAttrs_list PySem.F.slot_list_append PySem.F.type_list_append mt_append (pe_dget hu1 (pv 4) (pv 2) (fun _ _ => rfl)) (pa_cons pe_str pa_nil)))
            (pss_one (ps_asg pe_int (pg_sub (pv 4) pe_str (set_dict hu1))))) pss_nil)
        (pss_cons (ps_if (PW.pt (pw_and (pt_val (pe_callB call_isi (by rfl) T.bi boot_isinstance (pa_cons (pv 4) (pa_cons (pe_bltn (v := .ty "tuple") (by rfl) T.bt boot_tuple rfl) pa_nil))))
              (pw_and1 (pt_val (pe_callB call_isi (by rfl) T.bi boot_isinstance (pa_cons (pe_ix ix_tup (pv 4) pe_int (fun _ _ => rfl)) (pa_cons (pe_bltn (v := .ty "list") (by rfl) T.bl boot_list rfl) pa_nil)))))))
            (pss_one (ps_expr (pe_bm PySem.F.plainAttrs_list PySem.F.slot_list_append PySem.F.type_list_append mt_append (pe_ix ix_tup (pv 4) pe_int (fun _ _ => rfl)) (pa_cons pe_str pa_nil)))) pss_nil)
        (pss_one (ps_if (PW.pt (pw_or (pt_not (pt_val (pe_callG hgu T.oR hr5 (by rfl) T.mR T.kR T.bR .nil (pa_cons (pv 6) (pa_cons (pe_callB (call_repr hgu hu) (by rfl) T.br boot_repr (pa_cons (pv 4) pa_nil)) pa_nil)))))
            (pw_or1 (pt_not (pt_val (pe_callG hgu T.oR hr5 (by rfl) T.mR T.kR T.bR .nil (pa_cons (pv 7) (pa_cons (pe_callB (call_repr hgu hu) (by rfl) T.br boot_repr (pa_cons (pv 4) pa_nil)) pa_nil)))))))) (pss_one (ps_ret pe_bl)) pss_nil)
        ))))))))))))
      (pss_cons (ps_set (i := 9) sc.nd rfl (Or.inl rfl) (pe_lst (pa_cons (pe_errN (T.ox 22 (by decide)) (T.wd 22 (by decide)) (T.iC 22 (by decide) (by decide)) T.tI T.oL T.bL hr2 (by rfl) T.mU) (pa_cons (pe_errN (T.ox 23 (by decide)) (T.wd 23 (by decide)) (T.iC 23 (by decide) (by decide)) T.tI T.oL T.bL hr2 (by rfl) T.mD) pa_nil))))
      (pss_cons (ps_if (pt_cmpR (op_neD hu)
          (pe_lc (own := [("_law_error", 10)]) (g := gName 10) (tt := tYes) rfl sc.nd (pi_list (pv 9)) (blkOk_by (N := lawN) (sc := defScope sLaw) (by decide +kernel)) (fun _ _ _ _ _ => pg_name (i := 10) sc.nd rfl (Or.inl rfl)) (fun _ _ _ _ _ => pts_nil)
            (fun _ _ _ _ _ => pe_call T.oC hr4 (by rfl) T.mC T.kC T.bC .nil pass0 (pa_cons (pv 10) pa_nil)))
          (pe_lst (pa_cons (pe_lst (pa_cons pe_int pa_nil)) (pa_cons (pe_lst (pa_cons pe_int pa_nil)) pa_nil))) (nomark _)) (pss_one (ps_ret pe_bl)) pss_nil)
      (pss_cons (ps_expr (pe_bm PySem.F.plainAttrs_list PySem.F.slot_list_append PySem.F.type_list_append mt_append (pv 9) (pa_cons (pe_errN (T.ox 24 (by decide)) (T.wd 24 (by decide)) (T.iC 24 (by decide) (by decide)) T.tI T.oL T.bL hr2 (by rfl) T.mL) pa_nil)))
      (pss_one (ps_ret (pe_and (pe_callB (cr_all rfl) (by rfl) T.ba (by decide +kernel) (pa_cons
          (pe_lc (own := [("_law_error", 10)]) (g := gName 10) (tt := tYes) rfl sc.nd (pi_list (pv 9)) (blkOk_by (N := lawN) (sc := defScope sLaw) (by decide +kernel)) (fun _ _ _ _ _ => pg_name (i := 10) sc.nd rfl (Or.inl rfl)) (fun _ _ _ _ _ => pts_nil)
            (fun _ _ _ _ _ => pe_call T.oE hr4 (by rfl) T.mE T.kE T.bE .nil pass0 (pa_cons (pv 10) pa_nil))) pa_nil))
          (pe_one (pe_cmpR (op_eqD hu) (pe_call T.oC hr4 (by rfl) T.mC T.kC T.bC .nil pass0 (pa_cons (pe_ix ix_list (pv 9) pe_int (fun _ _ => rfl)) pa_nil)) (pe_lst pa_nil) (nomark _))))))))), ?_⟩
    walk_at "go"
    refine ⟨a, ns, 1, rfl, hS, by decide, by decide, hlen, fun H1 q ps s1 nq hq hps nm hl => ?_⟩
    obtain ⟨p, rfl⟩ : ∃ p, ps = [p] := by
      have e : ps.length = 1 := by
        rw [hl]
        simp
      match ps, e with
      | [p], _ => exact ⟨p, rfl⟩
    obtain ⟨nd, fr, pa⟩ := hps
    obtain ⟨l0, hp0, hl0⟩ := pa p (by simp)
    have nqp : q ≠ p := fun z => nm (by simp [z])
    refine ⟨q, rfl, ⟨_, SqL.of hq⟩, ?_⟩
    refine for_list (K := K) (a := q) (xs := [V.ref p]) (fun i σ H2 => H2 q = some (.lst [V.ref p]) ∧ ((i = 0 ∧ σ = L2.start lawN [V.ref a] ∧ H2 = H1) ∨ (0 < i ∧ ∃ x1 x2 x3 x4 x5 x6 x7 x8 : Option V, σ = [some (V.ref a), x1, x2, x3, x4, x5, x6, x7, x8, none, none])))
      ⟨hq, .inl ⟨rfl, rfl, rfl⟩⟩ (fun i σ H2 _ h => SqL.of h.1) ?_ ?_
    · rintro i x σ H2 hi ⟨hq2, ⟨rfl, rfl, rfl⟩ | ⟨h0, _⟩⟩
      · obtain rfl : x = V.ref p := (Option.some.inj hi).symm
        walk_at "go"
        refine ⟨p, 0, l0, rfl, hp0, hl0, by decide, fun H3 l3 w k3 hp3 hl3 low => ?_⟩
        obtain ⟨pa0, pb, pc, pd, rfl, g1, g2, g3, g4, g5, g6, g7⟩ := hl3
        walk_at "go"
        refine ⟨(show (4 : Nat) ≤ sizeLine by decide), fun t7 n7 => ?_⟩
        refine ⟨_, rfl, _, rfl, (show (1 : Nat) ≤ sizeLine by decide), fun q8 nq8 sq8 => ⟨(show (2 : Nat) ≤ sizeLine by decide), fun t8 n8 => ?_⟩⟩
        refine fun d9 n9 => ?_
        refine ⟨_, rfl, _, rfl, (show (1 : Nat) ≤ sizeLine by decide), fun q9 nq9 sq9 => ?_⟩
        refine ⟨(upd_ne (ne_of_none upd_same nq9)).trans upd_same, [(.inr w, .ref q9)], rfl, (show (1 : Nat) ≤ 15 by decide), ?_⟩
        refine ⟨(show (9 : Nat) ≤ sizeLine by decide), fun l3 n3 => ?_⟩
        walk_at "go"
        refine ⟨(show (1 : Nat) ≤ sizeLine by decide), fun q10 nq10 sq10 => ?_⟩
        refine ⟨_, rfl, (show (1 : Nat) ≤ sizeLine by decide), fun q11 nq11 sq11 => ?_⟩
        refine fun d11 n11 => ?_
        refine ⟨_, rfl, upd_same, [(.inr "odd", .str w)], rfl, (show (1 : Nat) ≤ 15 by decide), ?_⟩
        refine ⟨(show (2 : Nat) ≤ sizeLine by decide), fun l11 n11' sl11 => ⟨(show (2 : Nat) ≤ sizeLine by decide), fun m12 nm12 => ?_⟩⟩
        have s7 := same_new (o := .tup [.str "says", .str w, .int 1, .int 2]) n7
        have s8 := same_new (o := .lst [.str w]) nq8
        have s8' := same_new (o := .tup [.str w, .ref q8]) n8
        have s9 := same_dict (o2 := .lst [.str w]) (o3 := .dK [(.inr w, .ref q9)]) n9 nq9
        have s3 := same_new (o := .lst [.non, .bl true, .bl false, .int 0, .str w, .int (-pb), .ref t7, .ref t8, .ref d9]) n3
        have s10 := same_new (o := .lst [.str w]) nq10
        have s11 := same_new (o := .lst [.str w]) nq11
        have sd := same_dict0 (o1 := .dK []) (o3 := .dK [(.inr "odd", .str w)]) n11
        have sl := same_new (o := .lst [.ref q11, .ref d11]) n11'
        have sm := same_new (o := .lst [.ref q10, .ref l11]) nm12
        have z11 := sl.trans sm
        have w11 := sd.trans z11
        have w10 := s11.trans w11
        have w3 := s10.trans w10
        have w9 := s3.trans w3
        have w8' := s9.trans w9
        have w8 := s8'.trans w8'
        have w7 := s8.trans w8
        have w0 := s7.trans w7
        have q9d : q9 ≠ d9 := (ne_of_none upd_same nq9).symm
        have T7 : Thing _ w (.ref t7) := Thing.tup (w7 _ _ upd_same)
        have T8 : Thing _ w (.ref t8) := Thing.pair (w8' _ _ upd_same) (w8 _ _ upd_same) sq8
        have T9 : Thing _ w (.ref d9) := Thing.dct (w9 _ _ upd_same) (w9 _ _ ((upd_ne q9d).trans upd_same)) sq9
        have T10 : Thing _ w (.ref q10) := Thing.lst (w10 _ _ upd_same) sq10
        have T11 : Thing _ w (.ref l11) := Thing.deep (sm _ _ upd_same) sl11 (w11 _ _ upd_same) sq11 (z11 _ _ upd_same)
        have hpm := w0 _ _ hp3
        refine ⟨l3, m12, _, _, rfl, rfl, w3 _ _ upd_same, upd_same, (show (11 : Nat) ≤ sizeLine by decide), fun r nr => ?_⟩
        have sr := same_new (o := .lst ([.non, .bl true, .bl false, .int 0, .str w, .int (-pb), .ref t7, .ref t8, .ref d9] ++ [.ref q10, .ref l11])) nr
        have rp : r ≠ p := (ne_of_none hpm nr).symm
        refine ⟨p, r, 10, _, _, rfl, sr _ _ hpm, ⟨pa0, pb, pc, pd, rfl, g1, g2, g3, g4, g5, g6, g7⟩, by decide, SqL.of upd_same, rp, (show 0 < 11 by decide), (show 11 ≤ 1000 by decide), fun l4 x hl4 hx => ?_⟩
        have tx := (things_all T7 T8 T9 T10 T11 (show (-pb).natAbs < 2 ^ 40 by omega) sr hx).purse (o := .lst l4) (sr _ _ hpm)
        have k5 := fun b o (e : H2 b = some o) (nb : b ≠ p) => (upd_ne (o := .lst l4) nb).trans (sr _ _ (w0 _ _ (k3 b o e nb)))
        have hq5 := k5 _ _ hq nqp
        clear T7 T8 T9 T10 T11
        obtain ⟨z, dz, z1, z2, z3, z4, rfl⟩ := tx.shz low
        walk_at "go"
        refine ⟨x, dz, rfl, z1, z2, z3, z4, ?_⟩
        walk_at "go"
        refine fun H6 f6 as6 s6 n6 h6 e6 => ⟨_, rfl, x, rfl, fun H7 f7 as7 s7' n7' h7 e7 => ⟨_, rfl, (show (2 : Nat) ≤ sizeLine by decide), fun t10 n10 => ?_⟩⟩
        refine ⟨.ref t10, rfl, fun H8 f8 as8 s8'' n8' h8 e8 => ⟨_, _, _, rfl, ?_⟩⟩
        have st10 := same_new (o := .tup [.str "later", .str w]) n10
        -- facts at H8
        have S78 := st10.trans s8''
        have S68 := s7'.trans S78
        have S58 := s6.trans S68
        have E6 := e6.same S68
        have E7 := e7.same S78
        have h68 := S68 _ _ h6
        have h78 := S78 _ _ h7
        have ht10 := s8'' _ _ (upd_same (H := H7) (a := t10) (o := .tup [.str "later", .str w]))
        have tx8 := tx.same S58
        have hq8 := S58 _ _ hq5
        have zz8 : ShZ H8 x dz.shown := ⟨dz, z1.same S58, z2, z3, z4, rfl⟩
        have nf6 := n6
        have nf7 := s6.free n7'
        obtain ⟨lo1, lo2, lo3⟩ := later_ok low
        refine ⟨rfl, fun H9 f9 as9 s9' n9' h9 e9 => ⟨f9, as9, .non, "None", rfl, h9, e9, shz_none _, fun H10 s10' => ⟨true, rfl, iteF ?_⟩⟩⟩
        refine ⟨_, rfl, _, rfl, (show (2 : Nat) ≤ sizeLine by decide), fun t11 n11'' => ⟨.ref t11, laterD w, rfl, later_sh upd_same, lo1, lo2, lo3, ?_⟩⟩
        have S8a := (s9'.trans s10').trans (same_new (o := .tup [.str "later", .str w]) n11'')
        refine ⟨f8, as8, .ref t10, _, rfl, S8a _ _ h8, e8.same S8a, ⟨laterD w, later_sh (S8a _ _ ht10), lo1, lo2, lo3, rfl⟩, fun H11 s11' => ⟨true, rfl, iteF ?_⟩⟩
        have S8b := S8a.trans s11'
        have zzb := zz8.same S8b
        refine ⟨_, rfl, _, rfl, f6, as6, x, _, rfl, S8b _ _ h68, E6.same S8b, zzb, fun H12 s12 => ⟨true, rfl, iteF ?_⟩⟩
        have S8c := S8b.trans s12
        refine ⟨_, rfl, _, rfl, f7, as7, x, _, rfl, S8c _ _ h78, E7.same S8c, zz8.same S8c, fun H13 s13 => ⟨true, rfl, iteF ?_⟩⟩
        have S8d := S8c.trans s13
        have Sd := S58.trans S8d
        have E6d := E6.same S8d
        have E7d := E7.same S8d
        have h6d := S8d _ _ h68
        have h7d := S8d _ _ h78
        have hqd := S8d _ _ hq8
        have txd := tx8.same S8d
        have L6 := errs_len E6d
        have L7 := errs_len E7d
        have e0 : ((0 : Nat) < 0 + 1) := Nat.zero_lt_succ 0
        cases txd with
        | non =>
          refine ⟨_, rfl, .non, .ty "list", .type "NoneType", .type "list", false, rfl, .ty _, .base .non, by kernel_rfl, false, rfl, iteF ?_⟩
          refine ⟨_, rfl, .non, .ty "dict", .type "NoneType", .type "dict", false, rfl, .ty _, .base .non, by kernel_rfl, false, rfl, iteF ?_⟩
          refine ⟨_, rfl, .non, .ty "tuple", .type "NoneType", .type "tuple", false, rfl, .ty _, .base .non, by kernel_rfl, false, rfl, iteF (iteF ?_)⟩
          have hq' := hqd
          have h6' := h6d
          have h7' := h7d
          have E6' := E6d
          have E7' := E7d
          have hz := (Thing.non (H := H13) (w := w)).shz low
          obtain ⟨z', d', y1, y2, y3, y4, rfl⟩ := hz
          refine ⟨_, rfl, _, rfl, _, d', rfl, y1, y2, y3, y4, f6, as6, _, _, rfl, h6', E6', ⟨d', y1, y2, y3, y4, rfl⟩, fun H14 s14 => ⟨true, rfl, iteF ?_⟩⟩
          have y5 := y1.same s14
          refine ⟨_, rfl, _, rfl, _, d', rfl, y5, y2, y3, y4, f7, as7, _, _, rfl, s14 _ _ h7', E7'.same s14, ⟨d', y5, y2, y3, y4, rfl⟩, fun H15 s15 => ⟨true, rfl, iteF ?_⟩⟩
          exact ⟨s15 _ _ (s14 _ _ hq'), .inr ⟨e0, _, _, _, _, _, _, _, _, rfl⟩⟩
        | bl b =>
          refine ⟨_, rfl, .bl b, .ty "list", .type "bool", .type "list", false, rfl, .ty _, .base (.bl b), by kernel_rfl, false, rfl, iteF ?_⟩
          refine ⟨_, rfl, .bl b, .ty "dict", .type "bool", .type "dict", false, rfl, .ty _, .base (.bl b), by kernel_rfl, false, rfl, iteF ?_⟩
          refine ⟨_, rfl, .bl b, .ty "tuple", .type "bool", .type "tuple", false, rfl, .ty _, .base (.bl b), by kernel_rfl, false, rfl, iteF (iteF ?_)⟩
          have hq' := hqd
          have h6' := h6d
          have h7' := h7d
          have E6' := E6d
          have E7' := E7d
          have hz := (Thing.bl (H := H13) (w := w) b).shz low
          obtain ⟨z', d', y1, y2, y3, y4, rfl⟩ := hz
          refine ⟨_, rfl, _, rfl, _, d', rfl, y1, y2, y3, y4, f6, as6, _, _, rfl, h6', E6', ⟨d', y1, y2, y3, y4, rfl⟩, fun H14 s14 => ⟨true, rfl, iteF ?_⟩⟩
          have y5 := y1.same s14
          refine ⟨_, rfl, _, rfl, _, d', rfl, y5, y2, y3, y4, f7, as7, _, _, rfl, s14 _ _ h7', E7'.same s14, ⟨d', y5, y2, y3, y4, rfl⟩, fun H15 s15 => ⟨true, rfl, iteF ?_⟩⟩
          exact ⟨s15 _ _ (s14 _ _ hq'), .inr ⟨e0, _, _, _, _, _, _, _, _, rfl⟩⟩
        | int i hi =>
          refine ⟨_, rfl, .int i, .ty "list", .type "int", .type "list", false, rfl, .ty _, .base (.int i), by kernel_rfl, false, rfl, iteF ?_⟩
          refine ⟨_, rfl, .int i, .ty "dict", .type "int", .type "dict", false, rfl, .ty _, .base (.int i), by kernel_rfl, false, rfl, iteF ?_⟩
          refine ⟨_, rfl, .int i, .ty "tuple", .type "int", .type "tuple", false, rfl, .ty _, .base (.int i), by kernel_rfl, false, rfl, iteF (iteF ?_)⟩
          have hq' := hqd
          have h6' := h6d
          have h7' := h7d
          have E6' := E6d
          have E7' := E7d
          have hz := (Thing.int (H := H13) (w := w) i hi).shz low
          obtain ⟨z', d', y1, y2, y3, y4, rfl⟩ := hz
          refine ⟨_, rfl, _, rfl, _, d', rfl, y1, y2, y3, y4, f6, as6, _, _, rfl, h6', E6', ⟨d', y1, y2, y3, y4, rfl⟩, fun H14 s14 => ⟨true, rfl, iteF ?_⟩⟩
          have y5 := y1.same s14
          refine ⟨_, rfl, _, rfl, _, d', rfl, y5, y2, y3, y4, f7, as7, _, _, rfl, s14 _ _ h7', E7'.same s14, ⟨d', y5, y2, y3, y4, rfl⟩, fun H15 s15 => ⟨true, rfl, iteF ?_⟩⟩
          exact ⟨s15 _ _ (s14 _ _ hq'), .inr ⟨e0, _, _, _, _, _, _, _, _, rfl⟩⟩
        | str =>
          refine ⟨_, rfl, .str w, .ty "list", .type "str", .type "list", false, rfl, .ty _, .base (.str w), by kernel_rfl, false, rfl, iteF ?_⟩
          refine ⟨_, rfl, .str w, .ty "dict", .type "str", .type "dict", false, rfl, .ty _, .base (.str w), by kernel_rfl, false, rfl, iteF ?_⟩
          refine ⟨_, rfl, .str w, .ty "tuple", .type "str", .type "tuple", false, rfl, .ty _, .base (.str w), by kernel_rfl, false, rfl, iteF (iteF ?_)⟩
          have hq' := hqd
          have h6' := h6d
          have h7' := h7d
          have E6' := E6d
          have E7' := E7d
          have hz := (Thing.str (H := H13) (w := w)).shz low
          obtain ⟨z', d', y1, y2, y3, y4, rfl⟩ := hz
          refine ⟨_, rfl, _, rfl, _, d', rfl, y1, y2, y3, y4, f6, as6, _, _, rfl, h6', E6', ⟨d', y1, y2, y3, y4, rfl⟩, fun H14 s14 => ⟨true, rfl, iteF ?_⟩⟩
          have y5 := y1.same s14
          refine ⟨_, rfl, _, rfl, _, d', rfl, y5, y2, y3, y4, f7, as7, _, _, rfl, s14 _ _ h7', E7'.same s14, ⟨d', y5, y2, y3, y4, rfl⟩, fun H15 s15 => ⟨true, rfl, iteF ?_⟩⟩
          exact ⟨s15 _ _ (s14 _ _ hq'), .inr ⟨e0, _, _, _, _, _, _, _, _, rfl⟩⟩
        | @tup m hm =>
          refine ⟨_, rfl, .ref m, .ty "list", .type "tuple", .type "list", false, rfl, .ty _, .base (.tup hm), by kernel_rfl, false, rfl, iteF ?_⟩
          refine ⟨_, rfl, .ref m, .ty "dict", .type "tuple", .type "dict", false, rfl, .ty _, .base (.tup hm), by kernel_rfl, false, rfl, iteF ?_⟩
          refine ⟨_, rfl, .ref m, .ty "tuple", .type "tuple", .type "tuple", true, rfl, .ty _, .base (.tup hm), by kernel_rfl, true, rfl, iteT ?_⟩
          refine ⟨_, rfl, m, _, 1, .str w, rfl, rfl, SqT.of hm, rfl, .str w, .ty "list", .type "str", .type "list", false, rfl, .ty _, .base (.str w), by kernel_rfl, false, rfl, iteF ?_⟩
          have hq' := hqd
          have h6' := h6d
          have h7' := h7d
          have E6' := E6d
          have E7' := E7d
          have hz := (Thing.tup hm).shz low
          obtain ⟨z', d', y1, y2, y3, y4, rfl⟩ := hz
          refine ⟨_, rfl, _, rfl, _, d', rfl, y1, y2, y3, y4, f6, as6, _, _, rfl, h6', E6', ⟨d', y1, y2, y3, y4, rfl⟩, fun H14 s14 => ⟨true, rfl, iteF ?_⟩⟩
          have y5 := y1.same s14
          refine ⟨_, rfl, _, rfl, _, d', rfl, y5, y2, y3, y4, f7, as7, _, _, rfl, s14 _ _ h7', E7'.same s14, ⟨d', y5, y2, y3, y4, rfl⟩, fun H15 s15 => ⟨true, rfl, iteF ?_⟩⟩
          exact ⟨s15 _ _ (s14 _ _ hq'), .inr ⟨e0, _, _, _, _, _, _, _, _, rfl⟩⟩
        | @pair m g hm hg sg =>
          refine ⟨_, rfl, .ref m, .ty "list", .type "tuple", .type "list", false, rfl, .ty _, .base (.tup hm), by kernel_rfl, false, rfl, iteF ?_⟩
          refine ⟨_, rfl, .ref m, .ty "dict", .type "tuple", .type "dict", false, rfl, .ty _, .base (.tup hm), by kernel_rfl, false, rfl, iteF ?_⟩
          refine ⟨_, rfl, .ref m, .ty "tuple", .type "tuple", .type "tuple", true, rfl, .ty _, .base (.tup hm), by kernel_rfl, true, rfl, iteT ?_⟩
          refine ⟨_, rfl, m, _, 1, .ref g, rfl, rfl, SqT.of hm, rfl, .ref g, .ty "list", .type "list", .type "list", true, rfl, .ty _, .base (.lst hg), by kernel_rfl, true, rfl, iteT ?_⟩
          refine ⟨_, rfl, m, _, 1, .ref g, rfl, rfl, SqT.of hm, rfl, .inl ⟨rfl, _, SqL.of hg⟩, g, _, _, rfl, rfl, hg, (show (1 : Nat) < sizeLine by decide), ?_⟩
          have nu : ∀ φ, HO.lst [.str w] ≠ .ext φ := fun φ z => by cases z
          have hq' := (upd_ne (o := .lst [.str w, .str "later"]) (ne_of hqd hg (by simp))).trans hqd
          have h6' := (upd_ne (o := .lst [.str w, .str "later"]) (ne_of h6d hg (lst_ne L6 (by simp)))).trans h6d
          have h7' := (upd_ne (o := .lst [.str w, .str "later"]) (ne_of h7d hg (lst_ne L7 (by simp)))).trans h7d
          have E6' := E6d.write (o := .lst [.str w, .str "later"]) hg nu
          have E7' := E7d.write (o := .lst [.str w, .str "later"]) hg nu
          have hz := shz_pair (H := upd H13 g (.lst [.str w, .str "later"])) (ys := [w, "later"]) low ((upd_ne (ne_of hm hg (by simp))).trans hm) upd_same sg (.inr rfl)
          obtain ⟨z', d', y1, y2, y3, y4, rfl⟩ := hz
          refine ⟨_, rfl, _, rfl, _, d', rfl, y1, y2, y3, y4, f6, as6, _, _, rfl, h6', E6', ⟨d', y1, y2, y3, y4, rfl⟩, fun H14 s14 => ⟨true, rfl, iteF ?_⟩⟩
          have y5 := y1.same s14
          refine ⟨_, rfl, _, rfl, _, d', rfl, y5, y2, y3, y4, f7, as7, _, _, rfl, s14 _ _ h7', E7'.same s14, ⟨d', y5, y2, y3, y4, rfl⟩, fun H15 s15 => ⟨true, rfl, iteF ?_⟩⟩
          exact ⟨s15 _ _ (s14 _ _ hq'), .inr ⟨e0, _, _, _, _, _, _, _, _, rfl⟩⟩
        | @dct m g hm hg sg =>
          refine ⟨_, rfl, .ref m, .ty "list", .type "dict", .type "list", false, rfl, .ty _, .base (.dK hm), by kernel_rfl, false, rfl, iteF ?_⟩
          refine ⟨_, rfl, .ref m, .ty "dict", .type "dict", .type "dict", true, rfl, .ty _, .base (.dK hm), by kernel_rfl, true, rfl, iteT ?_⟩
          refine ⟨_, rfl, _, rfl, m, .ref g, rfl, (by have z := DGet.k (k := Sum.inr w) hm; rw [show valV [((Sum.inr w : Key), V.ref g)] (Sum.inr w) = some (.ref g) by simp [valV]] at z; exact z), .inl ⟨rfl, _, SqL.of hg⟩, g, _, _, rfl, rfl, hg, (show (1 : Nat) < sizeLine by decide), ?_⟩
          have hm2 := (upd_ne (o := .lst [.str w, .str "later"]) (ne_of hm hg (by simp))).trans hm
          refine ⟨_, rfl, m, _, rfl, DPut.k (k := .inr "LATER") hm2 (show (1 : Nat) < sizeLine by decide), ?_⟩
          rw [put_later low]
          have nu : ∀ φ, HO.lst [.str w] ≠ .ext φ := fun φ z => by cases z
          have hq1 := (upd_ne (o := .lst [.str w, .str "later"]) (ne_of hqd hg (by simp))).trans hqd
          have h61 := (upd_ne (o := .lst [.str w, .str "later"]) (ne_of h6d hg (lst_ne L6 (by simp)))).trans h6d
          have h71 := (upd_ne (o := .lst [.str w, .str "later"]) (ne_of h7d hg (lst_ne L7 (by simp)))).trans h7d
          have E61 := E6d.write (o := .lst [.str w, .str "later"]) hg nu
          have E71 := E7d.write (o := .lst [.str w, .str "later"]) hg nu
          have nd : ∀ φ, HO.dK [(.inr w, .ref g)] ≠ .ext φ := fun φ z => by cases z
          have hq' := (upd_ne (o := .dK [(.inr w, .ref g), (.inr "LATER", .int 1)]) (ne_of hq1 hm2 (by simp))).trans hq1
          have h6' := (upd_ne (o := .dK [(.inr w, .ref g), (.inr "LATER", .int 1)]) (ne_of h61 hm2 (by simp))).trans h61
          have h7' := (upd_ne (o := .dK [(.inr w, .ref g), (.inr "LATER", .int 1)]) (ne_of h71 hm2 (by simp))).trans h71
          have E6' := E61.write (o := .dK [(.inr w, .ref g), (.inr "LATER", .int 1)]) hm2 nd
          have E7' := E71.write (o := .dK [(.inr w, .ref g), (.inr "LATER", .int 1)]) hm2 nd
          have hg2 := (upd_ne (o := .dK [(.inr w, .ref g), (.inr "LATER", .int 1)]) (ne_of (upd_same (H := H13) (a := g) (o := .lst [.str w, .str "later"])) hm2 (by simp))).trans (upd_same (H := H13) (a := g) (o := .lst [.str w, .str "later"]))
          have hz := shz_dct2 low upd_same hg2 sg
          refine ⟨_, rfl, .ref m, .ty "tuple", .type "dict", .type "tuple", false, rfl, .ty _, .base (.dK upd_same), by kernel_rfl, false, rfl, iteF (iteF ?_)⟩
          obtain ⟨z', d', y1, y2, y3, y4, rfl⟩ := hz
          refine ⟨_, rfl, _, rfl, _, d', rfl, y1, y2, y3, y4, f6, as6, _, _, rfl, h6', E6', ⟨d', y1, y2, y3, y4, rfl⟩, fun H14 s14 => ⟨true, rfl, iteF ?_⟩⟩
          have y5 := y1.same s14
          refine ⟨_, rfl, _, rfl, _, d', rfl, y5, y2, y3, y4, f7, as7, _, _, rfl, s14 _ _ h7', E7'.same s14, ⟨d', y5, y2, y3, y4, rfl⟩, fun H15 s15 => ⟨true, rfl, iteF ?_⟩⟩
          exact ⟨s15 _ _ (s14 _ _ hq'), .inr ⟨e0, _, _, _, _, _, _, _, _, rfl⟩⟩
        | @lst m hm sm1 =>
          refine ⟨_, rfl, .ref m, .ty "list", .type "list", .type "list", true, rfl, .ty _, .base (.lst hm), by kernel_rfl, true, rfl, iteT ?_⟩
          refine ⟨_, rfl, .inl ⟨rfl, _, SqL.of hm⟩, m, _, _, rfl, rfl, hm, (by simp [sizeLine_eq]), ?_⟩
          have nu : ∀ φ, HO.lst [.str w] ≠ .ext φ := fun φ z => by cases z
          have hq' := (upd_ne (o := .lst [.str w, .str "later"]) (ne_of hqd hm (by simp))).trans hqd
          have h6' := (upd_ne (o := .lst [.str w, .str "later"]) (ne_of h6d hm (lst_ne L6 (by simp)))).trans h6d
          have h7' := (upd_ne (o := .lst [.str w, .str "later"]) (ne_of h7d hm (lst_ne L7 (by simp)))).trans h7d
          have E6' := E6d.write (o := .lst [.str w, .str "later"]) hm nu
          have E7' := E7d.write (o := .lst [.str w, .str "later"]) hm nu
          have hz := shz_lst2 (H := upd H13 m (.lst [.str w, .str "later"])) low upd_same sm1
          refine ⟨_, rfl, .ref m, .ty "dict", .type "list", .type "dict", false, rfl, .ty _, .base (.lst upd_same), by kernel_rfl, false, rfl, iteF ?_⟩
          refine ⟨_, rfl, .ref m, .ty "tuple", .type "list", .type "tuple", false, rfl, .ty _, .base (.lst upd_same), by kernel_rfl, false, rfl, iteF (iteF ?_)⟩
          obtain ⟨z', d', y1, y2, y3, y4, rfl⟩ := hz
          refine ⟨_, rfl, _, rfl, _, d', rfl, y1, y2, y3, y4, f6, as6, _, _, rfl, h6', E6', ⟨d', y1, y2, y3, y4, rfl⟩, fun H14 s14 => ⟨true, rfl, iteF ?_⟩⟩
          have y5 := y1.same s14
          refine ⟨_, rfl, _, rfl, _, d', rfl, y5, y2, y3, y4, f7, as7, _, _, rfl, s14 _ _ h7', E7'.same s14, ⟨d', y5, y2, y3, y4, rfl⟩, fun H15 s15 => ⟨true, rfl, iteF ?_⟩⟩
          exact ⟨s15 _ _ (s14 _ _ hq'), .inr ⟨e0, _, _, _, _, _, _, _, _, rfl⟩⟩
        | @deep m g d hm sm1 hg sg hd =>
          refine ⟨_, rfl, .ref m, .ty "list", .type "list", .type "list", true, rfl, .ty _, .base (.lst hm), by kernel_rfl, true, rfl, iteT ?_⟩
          refine ⟨_, rfl, .inl ⟨rfl, _, SqL.of hm⟩, m, _, _, rfl, rfl, hm, (by simp [sizeLine_eq]), ?_⟩
          have nu : ∀ φ, HO.lst [.ref g, .ref d] ≠ .ext φ := fun φ z => by cases z
          have hq' := (upd_ne (o := .lst [.ref g, .ref d, .str "later"]) (ne_of hqd hm (by simp))).trans hqd
          have h6' := (upd_ne (o := .lst [.ref g, .ref d, .str "later"]) (ne_of h6d hm (lst_ne L6 (by simp)))).trans h6d
          have h7' := (upd_ne (o := .lst [.ref g, .ref d, .str "later"]) (ne_of h7d hm (lst_ne L7 (by simp)))).trans h7d
          have E6' := E6d.write (o := .lst [.ref g, .ref d, .str "later"]) hm nu
          have E7' := E7d.write (o := .lst [.ref g, .ref d, .str "later"]) hm nu
          have hz := shz_deep2 (H := upd H13 m (.lst [.ref g, .ref d, .str "later"])) low upd_same sm1 ((upd_ne (ne_of hg hm (by simp))).trans hg) sg ((upd_ne (ne_of hd hm (by simp))).trans hd)
          refine ⟨_, rfl, .ref m, .ty "dict", .type "list", .type "dict", false, rfl, .ty _, .base (.lst upd_same), by kernel_rfl, false, rfl, iteF ?_⟩
          refine ⟨_, rfl, .ref m, .ty "tuple", .type "list", .type "tuple", false, rfl, .ty _, .base (.lst upd_same), by kernel_rfl, false, rfl, iteF (iteF ?_)⟩
          obtain ⟨z', d', y1, y2, y3, y4, rfl⟩ := hz
          refine ⟨_, rfl, _, rfl, _, d', rfl, y1, y2, y3, y4, f6, as6, _, _, rfl, h6', E6', ⟨d', y1, y2, y3, y4, rfl⟩, fun H14 s14 => ⟨true, rfl, iteF ?_⟩⟩
          have y5 := y1.same s14
          refine ⟨_, rfl, _, rfl, _, d', rfl, y5, y2, y3, y4, f7, as7, _, _, rfl, s14 _ _ h7', E7'.same s14, ⟨d', y5, y2, y3, y4, rfl⟩, fun H15 s15 => ⟨true, rfl, iteF ?_⟩⟩
          exact ⟨s15 _ _ (s14 _ _ hq'), .inr ⟨e0, _, _, _, _, _, _, _, _, rfl⟩⟩
      · exfalso
        have := (List.getElem?_eq_some_iff.mp hi).1
        simp at this
        omega
    · rintro σ H2 ⟨hq2, ⟨h0, _⟩ | ⟨h0, x1, x2, x3, x4, x5, x6, x7, x8, rfl⟩⟩
      · simp at h0
      · refine fun a1 Ha n1 s1 q1 => fun a2 Hb n2 s2 q2 => ⟨(show (2 : Nat) ≤ sizeLine by decide), fun l nl => ?_⟩
        have sl := same_new (o := .lst [.ref a1, .ref a2]) nl
        have o1 := q1.same (s2.trans sl)
        have o2 := q2.same sl
        have hl := upd_same (H := Hb) (a := l) (o := .lst [.ref a1, .ref a2])
        refine ⟨_, rfl, l, rfl, ⟨_, SqL.of hl⟩, ?_⟩
        generalize upd Hb l (HO.lst [V.ref a1, V.ref a2]) = Hr at *
        refine fun D nD => ?_
        have dl : D ≠ l := (ne_of_none hl nD).symm
        refine lc_list (K := K) (a := l) (xs := [.ref a1, .ref a2]) (fun i H3 => ∃ ps : List Addr, ps.length = i ∧ Same Hr H3 ∧ H3 D = some (.lst (ps.map V.ref)) ∧ (∀ (j : Nat) (p : Addr), ps[j]? = some p → H3 p = some (.lst [.int ((22 + j : Nat) : Int)])) ∧ D ∉ ps)
          ⟨[], rfl, same_new nD, upd_same, fun j p e => by simp at e, by simp⟩ (fun i H3 _ ⟨_, _, s3, _⟩ => s3.seq (SqL.of hl)) ?_ ?_
        · rintro i x H3 hi ⟨ps, hlen3, s3, hD, ho, nm⟩
          obtain ⟨ai, rfl, hi2, oi⟩ : ∃ ai, x = .ref ai ∧ i < 2 ∧ ObjX K Hr ai (c (22 + i)) := by
            match i, hi with
            | 0, hi => exact ⟨a1, (Option.some.inj hi).symm, by decide, o1⟩
            | 1, hi => exact ⟨a2, (Option.some.inj hi).symm, by decide, o2⟩
            | i + 2, hi => simp at hi
          refine ⟨rfl, ?_⟩
          refine ⟨_, rfl, ai, c (22 + i), fun j => decide (22 + i = j), rfl, oi.same s3, fun j hj => T.ans.one (22 + i) j (by omega) hj, fun H4 q4 s4 nq4 hq4 => ?_⟩
          rw [only_two (22 + i) (by omega)] at hq4
          have hD4 := s4 _ _ hD
          have dq : D ≠ q4 := fun z => by
            rw [z, nq4] at hD
            cases hD
          refine ⟨ps.map V.ref, hD4, by rw [List.length_map, hlen3]; exact small1000 (by omega), ps ++ [q4], by rw [List.length_append, hlen3]; rfl, ?_, by rw [upd_same, List.map_append]; rfl, ?_, ?_⟩
          · intro b o e
            rw [upd_ne (ne_of_none e nD)]
            exact s4 b o (s3 b o e)
          · intro j p' e
            by_cases hp : p' = D
            · rcases List.mem_append.mp (List.mem_of_getElem? e) with z | z
              · exact absurd (hp ▸ z) nm
              · rw [List.mem_singleton] at z
                exact absurd (hp.symm.trans z) dq
            · rw [upd_ne hp]
              by_cases hj : j < ps.length
              · rw [List.getElem?_append_left hj] at e
                exact s4 _ _ (ho j p' e)
              · rw [List.getElem?_append_right (Nat.le_of_not_lt hj)] at e
                have hj2 : j - ps.length = 0 := by
                  have := (List.getElem?_eq_some_iff.mp e).1
                  simp at this
                  omega
                rw [hj2] at e
                have e1 : q4 = p' := by simpa using e
                have e2 : j = i := by omega
                rw [← e1, e2]
                exact hq4
          · intro z
            rcases List.mem_append.mp z with z | z
            · exact nm z
            · rw [List.mem_singleton] at z
              exact dq z
        · rintro H3 ⟨ps, hlen3, s3, hD, ho, nm⟩
          obtain ⟨p1, p2, rfl⟩ : ∃ p1 p2, ps = [p1, p2] := by
            match ps, hlen3 with
            | [p1, p2], _ => exact ⟨p1, p2, rfl⟩
          have g1 := ho 0 p1 rfl
          have g2 := ho 1 p2 rfl
          refine ⟨(show (1 : Nat) ≤ sizeLine by decide), fun r1 nr1 => ⟨(show (1 : Nat) ≤ sizeLine by decide), fun r2 nr2 => ⟨(show (2 : Nat) ≤ sizeLine by decide), fun r3 nr3 => ?_⟩⟩⟩
          have u1 := same_new (o := .lst [.int 22]) nr1
          have u2 := same_new (o := .lst [.int 23]) nr2
          have u3 := same_new (o := .lst [.ref r1, .ref r2]) nr3
          have u13 := u1.trans (u2.trans u3)
          have k1 := (u2.trans u3) _ _ (upd_same (H := H3) (a := r1) (o := .lst [.int 22]))
          have k2 := u3 _ _ (upd_same (a := r2) (o := .lst [.int 23]))
          refine ⟨twos, twos, .lst (SqL.of (u13 _ _ hD)) (.cons (.lst (SqL.of (u13 _ _ g1)) (.cons (.int _) .nil)) (.cons (.lst (SqL.of (u13 _ _ g2)) (.cons (.int _) .nil)) .nil)),
            .lst (SqL.of upd_same) (.cons (.lst (SqL.of k1) (.cons (.int _) .nil)) (.cons (.lst (SqL.of k2) (.cons (.int _) .nil)) .nil)), twos_sh, twos_sh, false, by rw [twos_eq]; rfl, iteF ?_⟩
          have su := s3.trans u13
          have hl4 := su _ _ hl
          have o14 := o1.same su
          have o24 := o2.same su
          generalize upd (upd (upd H3 r1 (HO.lst [V.int 22])) r2 (HO.lst [V.int 23])) r3 (HO.lst [V.ref r1, V.ref r2]) = H4 at *
          refine ⟨_, rfl, .inl ⟨rfl, _, SqL.of hl4⟩, fun a3 H5 n3 s5 q3 => ?_⟩
          have hl5 := s5 _ _ hl4
          refine ⟨l, _, _, rfl, rfl, hl5, (show (2 : Nat) < sizeLine by decide), ?_⟩
          have nu : ∀ φ, HO.lst [.ref a1, .ref a2] ≠ .ext φ := fun φ z => by cases z
          have wr : ∀ {a C : Addr}, ObjX K (H5) a C → ObjX K (upd H5 l (.lst ([.ref a1, .ref a2] ++ [.ref a3]))) a C := by
            intro a C h
            obtain ⟨t, d, h1, h2⟩ := h
            refine ⟨t, d, by rw [upd_ne (ne_of h1 hl5 (Ne.symm (nu _)))]; exact h1, fun dx e => ?_⟩
            obtain ⟨fs, h3⟩ := h2 dx e
            exact ⟨fs, by rw [upd_ne (ne_of h3 hl5 (Ne.symm (nu _)))]; exact h3⟩
          have o15 := wr (o14.same s5)
          have o25 := wr (o24.same s5)
          have o35 := wr q3
          have hl6 := upd_same (H := H5) (a := l) (o := .lst ([.ref a1, .ref a2] ++ [.ref a3]))
          generalize upd (H5) l (HO.lst ([V.ref a1, V.ref a2] ++ [V.ref a3])) = H6 at *
          refine ⟨_, rfl, l, rfl, ⟨_, SqL.of hl6⟩, fun D2 nD2 => ?_⟩
          have dl2 : l ≠ D2 := ne_of_none hl6 nD2
          refine lc_list (K := K) (a := l) (xs := [.ref a1, .ref a2, .ref a3]) (fun i H7 => Same H6 H7 ∧ H7 D2 = some (.lst ((List.replicate i true).map V.bl))) ⟨same_new nD2, upd_same⟩ (fun i H7 _ ⟨s7, _⟩ => s7.seq (SqL.of hl6)) ?_ ?_
          · rintro i x H7 hi ⟨s7, hD7⟩
            obtain ⟨ai, rfl, hi2, oi⟩ : ∃ ai, x = .ref ai ∧ i < 3 ∧ ObjX K H6 ai (c (22 + i)) := by
              match i, hi with
              | 0, hi => exact ⟨a1, (Option.some.inj hi).symm, by decide, o15⟩
              | 1, hi => exact ⟨a2, (Option.some.inj hi).symm, by decide, o25⟩
              | 2, hi => exact ⟨a3, (Option.some.inj hi).symm, by decide, o35⟩
              | i + 3, hi => simp at hi
            refine ⟨rfl, ?_⟩
            refine ⟨_, rfl, ai, c (22 + i), rfl, oi.same s7, T.ans.base _ (by omega), T.ans.ve _ (by omega), _, hD7, by rw [List.length_map, List.length_replicate]; exact small1000 (by omega), ?_, ?_⟩
            · intro b o e
              rw [upd_ne (ne_of_none e nD2)]
              exact s7 b o e
            · rw [upd_same, List.replicate_succ', List.map_append]
              rfl
          · rintro H7 ⟨s7, hD7⟩
            refine ⟨D2, List.replicate 3 true, rfl, SqL.of hD7, true, rfl, iteT ?_⟩
            refine ⟨_, rfl, l, _, 2, .ref a3, rfl, rfl, SqL.of (s7 _ _ hl6), rfl, a3, c 24, fun j => decide (24 = j), rfl, o35.same s7, fun j hj => T.ans.one 24 j (by decide) hj, fun H8 q8 s8 nq8 hq8 => ?_⟩
            rw [only_none] at hq8
            refine ⟨Nat.zero_le _, fun q9 nq9 => ?_⟩
            have dq : q8 ≠ q9 := ne_of_none hq8 nq9
            exact ⟨.list [], .list [], .lst (SqL.of (by rw [upd_ne dq]; exact hq8)) .nil, .lst (SqL.of upd_same) .nil, rfl, rfl, k _⟩
end
end My
end

section
set_option Elab.async false
set_option linter.all false
set_option maxRecDepth 100000
set_option maxHeartbeats 8000000
namespace My
open PySem PySem.Spec PyProof.Rows L2 MyE MyR MyG PySem.MyN
/-- an own exception class's object, looked at -/
def excB (C : Addr) (o : Obj) : Bool := match o.data with
  | .cls cd => decide (o.cls = .type "type") && (cd.hasDict && (!cd.hasDel && ((match cd.mro with | c :: bm => decide (c = .ref C) && PySem.HandSPX.refsVE bm | [] => false) && (decide (o.slots.size = 6) && decide (o.slots[4]? = some (some (.builtin "ValueError.__new__")))))))
  | _ => false
theorem excB_ok {K : PySem.W.Frag} {C : Addr} {o : Obj} (lk : K.lookup C = some o) (h : excB C o = true) :
    ∃ nm q N bs bm sn sub ab col dd k0 k1 k2 k3 k5, K.lookup C = some (excClassObj nm q C N bs bm true sn sub ab col dd k0 k1 k2 k3 k5 "ValueError.__new__") ∧ PySem.HandSPX.refsVE bm = true := by
  obtain ⟨cls, dd, data, slots⟩ := o
  unfold excB at h
  cases data with
  | cls cd =>
    obtain ⟨nm, bs, mro, N, q, hd, sn, sub, ab, col, del⟩ := cd
    dsimp only at h
    simp only [Bool.and_eq_true, decide_eq_true_eq, Bool.not_eq_true'] at h
    obtain ⟨h1, h2, h3, h4, h5, h6⟩ := h
    cases mro with
    | nil => simp at h4
    | cons m bm =>
      simp only [Bool.and_eq_true, decide_eq_true_eq] at h4
      obtain ⟨h7, h8⟩ := h4
      subst h1 h2 h3 h7
      obtain ⟨l⟩ := slots
      match l, h5, h6 with
      | [k0, k1, k2, k3, k4, k5], _, h6 =>
        have e : k4 = some (.builtin "ValueError.__new__") := by simpa using h6
        subst e
        exact ⟨nm, q, N, bs, bm, sn, sub, ab, col, dd, k0, k1, k2, k3, k5, lk, h8⟩
  | _ => simp at h
/-- the name that a class keeps -/
def nameB (o : Obj) : Bool := match o.slots[2]? with | some (some (Value.str _ _)) => true | _ => false
theorem nameB_ok {o : Obj} (h : nameB o = true) : ∃ z t, o.slots[2]? = some (some (Value.str z t)) := by
  unfold nameB at h
  generalize o.slots[2]? = v at h ⊢
  match v, h with
  | some (some (Value.str z t)), _ => exact ⟨z, t, rfl⟩
/-- all else that is asked of a class, one look -/
def clsB (K : PySem.W.Frag) (L C : Addr) : Bool :=
  (match K.lookup C with | some o => excB C o && nameB o | none => false) &&
  (decide (PySem.W.findIn K (.ref C) "__setattr__" = some (some (.builtin "object.__setattr__"))) &&
  (decide (PySem.W.subIn K (.ref C) (.type "BaseException") = some true) &&
  (decide (PySem.W.typeIn K (.ref C) = some (.type "type")) &&
  (PySem.W.keepIn K (.ref C) &&
  (decide (PySem.W.findIn K (.ref C) "__getattribute__" = some (some (.builtin "BaseException.__getattribute__"))) &&
  (decide (PySem.W.findIn K (.ref C) "__getattr__" = some none) &&
  (PySem.W.hasDictIn K C &&
  (decide (PySem.W.findIn K (.ref C) "__class__" = some (some (.builtin "object.__class__"))) &&
  (decide (PySem.W.mroIn K C (.type "object") = some true) &&
  (decide (PySem.W.findIn K (.ref C) "value" = some none) &&
  (decide (PySem.W.kitOne K (.ref C) (.type "ValueError") = some true) &&
  (decide (PySem.W.kitOne K (.ref C) (.ref L) = some true) &&
  (PySem.W.readsIn K C (.type "type") && decide (PySem.W.findIn K (.ref C) "word" = some none))))))))))))))
structure ClsT (K : PySem.W.Frag) (L C : Addr) : Prop where
  ox : OexC K C
  wd : WdC K C
  ex : ExcC K C
  xf : XfC K C
  nv : PySem.W.findIn K (.ref C) "value" = some none
  ve : PySem.W.kitOne K (.ref C) (.type "ValueError") = some true
  ba : PySem.W.kitOne K (.ref C) (.ref L) = some true
theorem clsB_ok {K : PySem.W.Frag} {L C : Addr} (hn : PySem.W.specialIn K (.builtin "object.__class__") "__get__" = some (some (.builtin "getset_descriptor.__get__"))) (ht : PySem.W.takesIn K (.builtin "object.__class__") = some true)
    (n1 : PySem.W.findIn K (.type "type") "__name__" = some (some (.builtin "type.__name__"))) (n2 : PySem.W.specialIn K (.builtin "type.__name__") "__get__" = some (some (.builtin "getset_descriptor.__get__"))) (n3 : PySem.W.takesIn K (.builtin "type.__name__") = some true)
    (h : clsB K L C = true) : ClsT K L C := by
  unfold clsB at h
  simp only [Bool.and_eq_true, decide_eq_true_eq] at h
  obtain ⟨h0, h1, h2, h3, h4, h5, h6, h7, h8, h9, h10, h11, h12, h13, h14⟩ := h
  cases lk : K.lookup C with
  | none =>
    rw [lk] at h0
    cases h0
  | some o =>
    rw [lk] at h0
    simp only [Bool.and_eq_true] at h0
    obtain ⟨z, t, hs⟩ := nameB_ok h0.2
    exact ⟨⟨excB_ok lk h0.1, h1, h2, h3, h4⟩, ⟨⟨h5, h6, h2, h7, h8, hn, ht, h9⟩, ⟨z, h13, h3, n1, n2, n3, o, t, lk, hs⟩, h14⟩, ⟨h5, h6, h2, h7, h8, hn, ht, h9⟩, ⟨h5, h6, h2, h7⟩, h10, h11, h12⟩
def pairB (K : PySem.W.Frag) (cs : List Addr) : Bool := (List.range 25).all fun i => (List.range 24).all fun j => decide (PySem.W.kitOne K (.ref (cs.getD i 0)) (.ref (cs.getD j 0)) = some (decide (i = j)))
theorem pairB_ok {K : PySem.W.Frag} {cs : List Addr} (h : pairB K cs = true) (i j : Nat) (hi : i < 25) (hj : j < 24) : PySem.W.kitOne K (.ref (cs.getD i 0)) (.ref (cs.getD j 0)) = some (decide (i = j)) := by
  unfold pairB at h
  have h1 := List.all_eq_true.mp h i (List.mem_range.mpr hi)
  have h2 := List.all_eq_true.mp h1 j (List.mem_range.mpr hj)
  exact of_decide_eq_true h2
section
variable {P : Program} {w : World} {K : PySem.W.Frag} {mg : Str → Option Value} {L fL : Addr} {fdL : FuncData}
theorem er0 {C f T : Addr} {o : Obj} {m : Nat} {oc : Value} {od an : Option Addr} {kV doc pm cdv ct : Value} {osl : Array (Option Value)} (aC : mg "InvalidLiteral" = some (.ref C)) (X : ClsT K L C) (iC : PySem.W.findIn K (.ref C) "__init__" = some (some (.ref f))) (tI : PySem.W.typeIn K (.ref f) = some (.type "function"))
    (lI : K.lookup f = some ⟨oc, od, .func (PySem.W.fnOf "__init__" "InvalidLiteral.__init__" (defArgs (sIn 0)) (defBody (sIn 0)) (defScope (sIn 0)) (.ref T) kV doc pm an cdv ct), osl⟩) (cI : PySem.W.codeIn K cdv "InvalidLiteral.__init__" = true) (kI : PySem.W.keepIn K (.ref f) = true)
    (lT : K.lookup T = some o) (oT : o.data = .seq #[.none] m) (TB : BaseT K mg L fL) (GL : Fun K "__init__" "LookError.__init__" sLE fL fdL) (bL : Binds K fdL ["self"] []) (base : Heap) :
    ErrT P w K mg base "InvalidLiteral" C f (PySem.W.fnOf "__init__" "InvalidLiteral.__init__" (defArgs (sIn 0)) (defBody (sIn 0)) (defScope (sIn 0)) (.ref T) kV doc pm an cdv ct) := by
  have G : FunD K "__init__" "InvalidLiteral.__init__" (defArgs (sIn 0)) (defBody (sIn 0)) (defScope (sIn 0)) [.non] [] f _ := ⟨⟨_, _, _, _, _, _, _, _, _, _, rfl, lI, cI, .inr ⟨by simp, T, o, [.none], m, rfl, lT, oT, .cons rfl .nil⟩, .inl rfl⟩, kI⟩
  have b2 := G.binds1 (ps := ["self", "value"]) 2 1 (by simp) rfl (fun T kV doc pm an cdv ct us its hu hi => match us, hu, its, hi with | [_, _], _, [_], _ => ⟨_, rfl, rfl⟩)
  have b1 := G.binds1 (ps := ["self", "value"]) 1 0 (by simp) rfl (fun T kV doc pm an cdv ct us its hu hi => match us, hu, its, hi with | [_], _, [_], _ => ⟨_, rfl, rfl⟩)
  have bk := G.kbindsD (ps := ["self", "value"]) 1 ["value"] (fun us _ ws => us ++ ws) (by simp) (fun r _ rz => r.append rz) (fun T kV doc pm an cdv ct us its ws hu hi hw => match us, hu, its, hi, ws, hw with | [_], _, [_], _, [_], _ => ⟨_, rfl, rfl⟩)
  obtain ⟨ds, v2, b2⟩ := b2
  obtain ⟨its, bk⟩ := bk
  cases v2
  exact ⟨aC, X.ox, X.wd, iC, tI, ok_in0 G TB GL bL, b2, b1, bk, X.nv⟩
theorem er1 {C f T : Addr} {o : Obj} {m : Nat} {oc : Value} {od an : Option Addr} {kV doc pm cdv ct : Value} {osl : Array (Option Value)} (aC : mg "InvalidVariable" = some (.ref C)) (X : ClsT K L C) (iC : PySem.W.findIn K (.ref C) "__init__" = some (some (.ref f))) (tI : PySem.W.typeIn K (.ref f) = some (.type "function"))
    (lI : K.lookup f = some ⟨oc, od, .func (PySem.W.fnOf "__init__" "InvalidVariable.__init__" (defArgs (sIn 1)) (defBody (sIn 1)) (defScope (sIn 1)) (.ref T) kV doc pm an cdv ct), osl⟩) (cI : PySem.W.codeIn K cdv "InvalidVariable.__init__" = true) (kI : PySem.W.keepIn K (.ref f) = true)
    (lT : K.lookup T = some o) (oT : o.data = .seq #[.none] m) (TB : BaseT K mg L fL) (GL : Fun K "__init__" "LookError.__init__" sLE fL fdL) (bL : Binds K fdL ["self"] []) (base : Heap) :
    ErrT P w K mg base "InvalidVariable" C f (PySem.W.fnOf "__init__" "InvalidVariable.__init__" (defArgs (sIn 1)) (defBody (sIn 1)) (defScope (sIn 1)) (.ref T) kV doc pm an cdv ct) := by
  have G : FunD K "__init__" "InvalidVariable.__init__" (defArgs (sIn 1)) (defBody (sIn 1)) (defScope (sIn 1)) [.non] [] f _ := ⟨⟨_, _, _, _, _, _, _, _, _, _, rfl, lI, cI, .inr ⟨by simp, T, o, [.none], m, rfl, lT, oT, .cons rfl .nil⟩, .inl rfl⟩, kI⟩
  have b2 := G.binds1 (ps := ["self", "value"]) 2 1 (by simp) rfl (fun T kV doc pm an cdv ct us its hu hi => match us, hu, its, hi with | [_, _], _, [_], _ => ⟨_, rfl, rfl⟩)
  have b1 := G.binds1 (ps := ["self", "value"]) 1 0 (by simp) rfl (fun T kV doc pm an cdv ct us its hu hi => match us, hu, its, hi with | [_], _, [_], _ => ⟨_, rfl, rfl⟩)
  have bk := G.kbindsD (ps := ["self", "value"]) 1 ["value"] (fun us _ ws => us ++ ws) (by simp) (fun r _ rz => r.append rz) (fun T kV doc pm an cdv ct us its ws hu hi hw => match us, hu, its, hi, ws, hw with | [_], _, [_], _, [_], _ => ⟨_, rfl, rfl⟩)
  obtain ⟨ds, v2, b2⟩ := b2
  obtain ⟨its, bk⟩ := bk
  cases v2
  exact ⟨aC, X.ox, X.wd, iC, tI, ok_in1 G TB GL bL, b2, b1, bk, X.nv⟩
theorem er2 {C f T : Addr} {o : Obj} {m : Nat} {oc : Value} {od an : Option Addr} {kV doc pm cdv ct : Value} {osl : Array (Option Value)} (aC : mg "InvalidClause" = some (.ref C)) (X : ClsT K L C) (iC : PySem.W.findIn K (.ref C) "__init__" = some (some (.ref f))) (tI : PySem.W.typeIn K (.ref f) = some (.type "function"))
    (lI : K.lookup f = some ⟨oc, od, .func (PySem.W.fnOf "__init__" "InvalidClause.__init__" (defArgs (sIn 2)) (defBody (sIn 2)) (defScope (sIn 2)) (.ref T) kV doc pm an cdv ct), osl⟩) (cI : PySem.W.codeIn K cdv "InvalidClause.__init__" = true) (kI : PySem.W.keepIn K (.ref f) = true)
    (lT : K.lookup T = some o) (oT : o.data = .seq #[.none] m) (TB : BaseT K mg L fL) (GL : Fun K "__init__" "LookError.__init__" sLE fL fdL) (bL : Binds K fdL ["self"] []) (base : Heap) :
    ErrT P w K mg base "InvalidClause" C f (PySem.W.fnOf "__init__" "InvalidClause.__init__" (defArgs (sIn 2)) (defBody (sIn 2)) (defScope (sIn 2)) (.ref T) kV doc pm an cdv ct) := by
  have G : FunD K "__init__" "InvalidClause.__init__" (defArgs (sIn 2)) (defBody (sIn 2)) (defScope (sIn 2)) [.non] [] f _ := ⟨⟨_, _, _, _, _, _, _, _, _, _, rfl, lI, cI, .inr ⟨by simp, T, o, [.none], m, rfl, lT, oT, .cons rfl .nil⟩, .inl rfl⟩, kI⟩
  have b2 := G.binds1 (ps := ["self", "value"]) 2 1 (by simp) rfl (fun T kV doc pm an cdv ct us its hu hi => match us, hu, its, hi with | [_, _], _, [_], _ => ⟨_, rfl, rfl⟩)
  have b1 := G.binds1 (ps := ["self", "value"]) 1 0 (by simp) rfl (fun T kV doc pm an cdv ct us its hu hi => match us, hu, its, hi with | [_], _, [_], _ => ⟨_, rfl, rfl⟩)
  have bk := G.kbindsD (ps := ["self", "value"]) 1 ["value"] (fun us _ ws => us ++ ws) (by simp) (fun r _ rz => r.append rz) (fun T kV doc pm an cdv ct us its ws hu hi hw => match us, hu, its, hi, ws, hw with | [_], _, [_], _, [_], _ => ⟨_, rfl, rfl⟩)
  obtain ⟨ds, v2, b2⟩ := b2
  obtain ⟨its, bk⟩ := bk
  cases v2
  exact ⟨aC, X.ox, X.wd, iC, tI, ok_in2 G TB GL bL, b2, b1, bk, X.nv⟩
theorem er3 {C f T : Addr} {o : Obj} {m : Nat} {oc : Value} {od an : Option Addr} {kV doc pm cdv ct : Value} {osl : Array (Option Value)} (aC : mg "InvalidClauses" = some (.ref C)) (X : ClsT K L C) (iC : PySem.W.findIn K (.ref C) "__init__" = some (some (.ref f))) (tI : PySem.W.typeIn K (.ref f) = some (.type "function"))
    (lI : K.lookup f = some ⟨oc, od, .func (PySem.W.fnOf "__init__" "InvalidClauses.__init__" (defArgs (sIn 3)) (defBody (sIn 3)) (defScope (sIn 3)) (.ref T) kV doc pm an cdv ct), osl⟩) (cI : PySem.W.codeIn K cdv "InvalidClauses.__init__" = true) (kI : PySem.W.keepIn K (.ref f) = true)
    (lT : K.lookup T = some o) (oT : o.data = .seq #[.none] m) (TB : BaseT K mg L fL) (GL : Fun K "__init__" "LookError.__init__" sLE fL fdL) (bL : Binds K fdL ["self"] []) (base : Heap) :
    ErrT P w K mg base "InvalidClauses" C f (PySem.W.fnOf "__init__" "InvalidClauses.__init__" (defArgs (sIn 3)) (defBody (sIn 3)) (defScope (sIn 3)) (.ref T) kV doc pm an cdv ct) := by
  have G : FunD K "__init__" "InvalidClauses.__init__" (defArgs (sIn 3)) (defBody (sIn 3)) (defScope (sIn 3)) [.non] [] f _ := ⟨⟨_, _, _, _, _, _, _, _, _, _, rfl, lI, cI, .inr ⟨by simp, T, o, [.none], m, rfl, lT, oT, .cons rfl .nil⟩, .inl rfl⟩, kI⟩
  have b2 := G.binds1 (ps := ["self", "value"]) 2 1 (by simp) rfl (fun T kV doc pm an cdv ct us its hu hi => match us, hu, its, hi with | [_, _], _, [_], _ => ⟨_, rfl, rfl⟩)
  have b1 := G.binds1 (ps := ["self", "value"]) 1 0 (by simp) rfl (fun T kV doc pm an cdv ct us its hu hi => match us, hu, its, hi with | [_], _, [_], _ => ⟨_, rfl, rfl⟩)
  have bk := G.kbindsD (ps := ["self", "value"]) 1 ["value"] (fun us _ ws => us ++ ws) (by simp) (fun r _ rz => r.append rz) (fun T kV doc pm an cdv ct us its ws hu hi hw => match us, hu, its, hi, ws, hw with | [_], _, [_], _, [_], _ => ⟨_, rfl, rfl⟩)
  obtain ⟨ds, v2, b2⟩ := b2
  obtain ⟨its, bk⟩ := bk
  cases v2
  exact ⟨aC, X.ox, X.wd, iC, tI, ok_in3 G TB GL bL, b2, b1, bk, X.nv⟩
theorem er4 {C f T : Addr} {o : Obj} {m : Nat} {oc : Value} {od an : Option Addr} {kV doc pm cdv ct : Value} {osl : Array (Option Value)} (aC : mg "InvalidBook" = some (.ref C)) (X : ClsT K L C) (iC : PySem.W.findIn K (.ref C) "__init__" = some (some (.ref f))) (tI : PySem.W.typeIn K (.ref f) = some (.type "function"))
    (lI : K.lookup f = some ⟨oc, od, .func (PySem.W.fnOf "__init__" "InvalidBook.__init__" (defArgs (sIn 4)) (defBody (sIn 4)) (defScope (sIn 4)) (.ref T) kV doc pm an cdv ct), osl⟩) (cI : PySem.W.codeIn K cdv "InvalidBook.__init__" = true) (kI : PySem.W.keepIn K (.ref f) = true)
    (lT : K.lookup T = some o) (oT : o.data = .seq #[.none] m) (TB : BaseT K mg L fL) (GL : Fun K "__init__" "LookError.__init__" sLE fL fdL) (bL : Binds K fdL ["self"] []) (base : Heap) :
    ErrT P w K mg base "InvalidBook" C f (PySem.W.fnOf "__init__" "InvalidBook.__init__" (defArgs (sIn 4)) (defBody (sIn 4)) (defScope (sIn 4)) (.ref T) kV doc pm an cdv ct) := by
  have G : FunD K "__init__" "InvalidBook.__init__" (defArgs (sIn 4)) (defBody (sIn 4)) (defScope (sIn 4)) [.non] [] f _ := ⟨⟨_, _, _, _, _, _, _, _, _, _, rfl, lI, cI, .inr ⟨by simp, T, o, [.none], m, rfl, lT, oT, .cons rfl .nil⟩, .inl rfl⟩, kI⟩
  have b2 := G.binds1 (ps := ["self", "value"]) 2 1 (by simp) rfl (fun T kV doc pm an cdv ct us its hu hi => match us, hu, its, hi with | [_, _], _, [_], _ => ⟨_, rfl, rfl⟩)
  have b1 := G.binds1 (ps := ["self", "value"]) 1 0 (by simp) rfl (fun T kV doc pm an cdv ct us its hu hi => match us, hu, its, hi with | [_], _, [_], _ => ⟨_, rfl, rfl⟩)
  have bk := G.kbindsD (ps := ["self", "value"]) 1 ["value"] (fun us _ ws => us ++ ws) (by simp) (fun r _ rz => r.append rz) (fun T kV doc pm an cdv ct us its ws hu hi hw => match us, hu, its, hi, ws, hw with | [_], _, [_], _, [_], _ => ⟨_, rfl, rfl⟩)
  obtain ⟨ds, v2, b2⟩ := b2
  obtain ⟨its, bk⟩ := bk
  cases v2
  exact ⟨aC, X.ox, X.wd, iC, tI, ok_in4 G TB GL bL, b2, b1, bk, X.nv⟩
theorem er5 {C f T : Addr} {o : Obj} {m : Nat} {oc : Value} {od an : Option Addr} {kV doc pm cdv ct : Value} {osl : Array (Option Value)} (aC : mg "InvalidFilling" = some (.ref C)) (X : ClsT K L C) (iC : PySem.W.findIn K (.ref C) "__init__" = some (some (.ref f))) (tI : PySem.W.typeIn K (.ref f) = some (.type "function"))
    (lI : K.lookup f = some ⟨oc, od, .func (PySem.W.fnOf "__init__" "InvalidFilling.__init__" (defArgs (sIn 5)) (defBody (sIn 5)) (defScope (sIn 5)) (.ref T) kV doc pm an cdv ct), osl⟩) (cI : PySem.W.codeIn K cdv "InvalidFilling.__init__" = true) (kI : PySem.W.keepIn K (.ref f) = true)
    (lT : K.lookup T = some o) (oT : o.data = .seq #[.none] m) (TB : BaseT K mg L fL) (GL : Fun K "__init__" "LookError.__init__" sLE fL fdL) (bL : Binds K fdL ["self"] []) (base : Heap) :
    ErrT P w K mg base "InvalidFilling" C f (PySem.W.fnOf "__init__" "InvalidFilling.__init__" (defArgs (sIn 5)) (defBody (sIn 5)) (defScope (sIn 5)) (.ref T) kV doc pm an cdv ct) := by
  have G : FunD K "__init__" "InvalidFilling.__init__" (defArgs (sIn 5)) (defBody (sIn 5)) (defScope (sIn 5)) [.non] [] f _ := ⟨⟨_, _, _, _, _, _, _, _, _, _, rfl, lI, cI, .inr ⟨by simp, T, o, [.none], m, rfl, lT, oT, .cons rfl .nil⟩, .inl rfl⟩, kI⟩
  have b2 := G.binds1 (ps := ["self", "value"]) 2 1 (by simp) rfl (fun T kV doc pm an cdv ct us its hu hi => match us, hu, its, hi with | [_, _], _, [_], _ => ⟨_, rfl, rfl⟩)
  have b1 := G.binds1 (ps := ["self", "value"]) 1 0 (by simp) rfl (fun T kV doc pm an cdv ct us its hu hi => match us, hu, its, hi with | [_], _, [_], _ => ⟨_, rfl, rfl⟩)
  have bk := G.kbindsD (ps := ["self", "value"]) 1 ["value"] (fun us _ ws => us ++ ws) (by simp) (fun r _ rz => r.append rz) (fun T kV doc pm an cdv ct us its ws hu hi hw => match us, hu, its, hi, ws, hw with | [_], _, [_], _, [_], _ => ⟨_, rfl, rfl⟩)
  obtain ⟨ds, v2, b2⟩ := b2
  obtain ⟨its, bk⟩ := bk
  cases v2
  exact ⟨aC, X.ox, X.wd, iC, tI, ok_in5 G TB GL bL, b2, b1, bk, X.nv⟩
theorem er6 {C f T : Addr} {o : Obj} {m : Nat} {oc : Value} {od an : Option Addr} {kV doc pm cdv ct : Value} {osl : Array (Option Value)} (aC : mg "InvalidMap" = some (.ref C)) (X : ClsT K L C) (iC : PySem.W.findIn K (.ref C) "__init__" = some (some (.ref f))) (tI : PySem.W.typeIn K (.ref f) = some (.type "function"))
    (lI : K.lookup f = some ⟨oc, od, .func (PySem.W.fnOf "__init__" "InvalidMap.__init__" (defArgs (sIn 6)) (defBody (sIn 6)) (defScope (sIn 6)) (.ref T) kV doc pm an cdv ct), osl⟩) (cI : PySem.W.codeIn K cdv "InvalidMap.__init__" = true) (kI : PySem.W.keepIn K (.ref f) = true)
    (lT : K.lookup T = some o) (oT : o.data = .seq #[.none] m) (TB : BaseT K mg L fL) (GL : Fun K "__init__" "LookError.__init__" sLE fL fdL) (bL : Binds K fdL ["self"] []) (base : Heap) :
    ErrT P w K mg base "InvalidMap" C f (PySem.W.fnOf "__init__" "InvalidMap.__init__" (defArgs (sIn 6)) (defBody (sIn 6)) (defScope (sIn 6)) (.ref T) kV doc pm an cdv ct) := by
  have G : FunD K "__init__" "InvalidMap.__init__" (defArgs (sIn 6)) (defBody (sIn 6)) (defScope (sIn 6)) [.non] [] f _ := ⟨⟨_, _, _, _, _, _, _, _, _, _, rfl, lI, cI, .inr ⟨by simp, T, o, [.none], m, rfl, lT, oT, .cons rfl .nil⟩, .inl rfl⟩, kI⟩
  have b2 := G.binds1 (ps := ["self", "value"]) 2 1 (by simp) rfl (fun T kV doc pm an cdv ct us its hu hi => match us, hu, its, hi with | [_, _], _, [_], _ => ⟨_, rfl, rfl⟩)
  have b1 := G.binds1 (ps := ["self", "value"]) 1 0 (by simp) rfl (fun T kV doc pm an cdv ct us its hu hi => match us, hu, its, hi with | [_], _, [_], _ => ⟨_, rfl, rfl⟩)
  have bk := G.kbindsD (ps := ["self", "value"]) 1 ["value"] (fun us _ ws => us ++ ws) (by simp) (fun r _ rz => r.append rz) (fun T kV doc pm an cdv ct us its ws hu hi hw => match us, hu, its, hi, ws, hw with | [_], _, [_], _, [_], _ => ⟨_, rfl, rfl⟩)
  obtain ⟨ds, v2, b2⟩ := b2
  obtain ⟨its, bk⟩ := bk
  cases v2
  exact ⟨aC, X.ox, X.wd, iC, tI, ok_in6 G TB GL bL, b2, b1, bk, X.nv⟩
theorem er7 {C f T : Addr} {o : Obj} {m : Nat} {oc : Value} {od an : Option Addr} {kV doc pm cdv ct : Value} {osl : Array (Option Value)} (aC : mg "InvalidDepth" = some (.ref C)) (X : ClsT K L C) (iC : PySem.W.findIn K (.ref C) "__init__" = some (some (.ref f))) (tI : PySem.W.typeIn K (.ref f) = some (.type "function"))
    (lI : K.lookup f = some ⟨oc, od, .func (PySem.W.fnOf "__init__" "InvalidDepth.__init__" (defArgs (sIn 7)) (defBody (sIn 7)) (defScope (sIn 7)) (.ref T) kV doc pm an cdv ct), osl⟩) (cI : PySem.W.codeIn K cdv "InvalidDepth.__init__" = true) (kI : PySem.W.keepIn K (.ref f) = true)
    (lT : K.lookup T = some o) (oT : o.data = .seq #[.none] m) (TB : BaseT K mg L fL) (GL : Fun K "__init__" "LookError.__init__" sLE fL fdL) (bL : Binds K fdL ["self"] []) (base : Heap) :
    ErrT P w K mg base "InvalidDepth" C f (PySem.W.fnOf "__init__" "InvalidDepth.__init__" (defArgs (sIn 7)) (defBody (sIn 7)) (defScope (sIn 7)) (.ref T) kV doc pm an cdv ct) := by
  have G : FunD K "__init__" "InvalidDepth.__init__" (defArgs (sIn 7)) (defBody (sIn 7)) (defScope (sIn 7)) [.non] [] f _ := ⟨⟨_, _, _, _, _, _, _, _, _, _, rfl, lI, cI, .inr ⟨by simp, T, o, [.none], m, rfl, lT, oT, .cons rfl .nil⟩, .inl rfl⟩, kI⟩
  have b2 := G.binds1 (ps := ["self", "value"]) 2 1 (by simp) rfl (fun T kV doc pm an cdv ct us its hu hi => match us, hu, its, hi with | [_, _], _, [_], _ => ⟨_, rfl, rfl⟩)
  have b1 := G.binds1 (ps := ["self", "value"]) 1 0 (by simp) rfl (fun T kV doc pm an cdv ct us its hu hi => match us, hu, its, hi with | [_], _, [_], _ => ⟨_, rfl, rfl⟩)
  have bk := G.kbindsD (ps := ["self", "value"]) 1 ["value"] (fun us _ ws => us ++ ws) (by simp) (fun r _ rz => r.append rz) (fun T kV doc pm an cdv ct us its ws hu hi hw => match us, hu, its, hi, ws, hw with | [_], _, [_], _, [_], _ => ⟨_, rfl, rfl⟩)
  obtain ⟨ds, v2, b2⟩ := b2
  obtain ⟨its, bk⟩ := bk
  cases v2
  exact ⟨aC, X.ox, X.wd, iC, tI, ok_in7 G TB GL bL, b2, b1, bk, X.nv⟩
theorem er8 {C f T : Addr} {o : Obj} {m : Nat} {oc : Value} {od an : Option Addr} {kV doc pm cdv ct : Value} {osl : Array (Option Value)} (aC : mg "InvalidNumber" = some (.ref C)) (X : ClsT K L C) (iC : PySem.W.findIn K (.ref C) "__init__" = some (some (.ref f))) (tI : PySem.W.typeIn K (.ref f) = some (.type "function"))
    (lI : K.lookup f = some ⟨oc, od, .func (PySem.W.fnOf "__init__" "InvalidNumber.__init__" (defArgs (sIn 8)) (defBody (sIn 8)) (defScope (sIn 8)) (.ref T) kV doc pm an cdv ct), osl⟩) (cI : PySem.W.codeIn K cdv "InvalidNumber.__init__" = true) (kI : PySem.W.keepIn K (.ref f) = true)
    (lT : K.lookup T = some o) (oT : o.data = .seq #[.none] m) (TB : BaseT K mg L fL) (GL : Fun K "__init__" "LookError.__init__" sLE fL fdL) (bL : Binds K fdL ["self"] []) (base : Heap) :
    ErrT P w K mg base "InvalidNumber" C f (PySem.W.fnOf "__init__" "InvalidNumber.__init__" (defArgs (sIn 8)) (defBody (sIn 8)) (defScope (sIn 8)) (.ref T) kV doc pm an cdv ct) := by
  have G : FunD K "__init__" "InvalidNumber.__init__" (defArgs (sIn 8)) (defBody (sIn 8)) (defScope (sIn 8)) [.non] [] f _ := ⟨⟨_, _, _, _, _, _, _, _, _, _, rfl, lI, cI, .inr ⟨by simp, T, o, [.none], m, rfl, lT, oT, .cons rfl .nil⟩, .inl rfl⟩, kI⟩
  have b2 := G.binds1 (ps := ["self", "value"]) 2 1 (by simp) rfl (fun T kV doc pm an cdv ct us its hu hi => match us, hu, its, hi with | [_, _], _, [_], _ => ⟨_, rfl, rfl⟩)
  have b1 := G.binds1 (ps := ["self", "value"]) 1 0 (by simp) rfl (fun T kV doc pm an cdv ct us its hu hi => match us, hu, its, hi with | [_], _, [_], _ => ⟨_, rfl, rfl⟩)
  have bk := G.kbindsD (ps := ["self", "value"]) 1 ["value"] (fun us _ ws => us ++ ws) (by simp) (fun r _ rz => r.append rz) (fun T kV doc pm an cdv ct us its ws hu hi hw => match us, hu, its, hi, ws, hw with | [_], _, [_], _, [_], _ => ⟨_, rfl, rfl⟩)
  obtain ⟨ds, v2, b2⟩ := b2
  obtain ⟨its, bk⟩ := bk
  cases v2
  exact ⟨aC, X.ox, X.wd, iC, tI, ok_in8 G TB GL bL, b2, b1, bk, X.nv⟩
theorem er9 {C f T : Addr} {o : Obj} {m : Nat} {oc : Value} {od an : Option Addr} {kV doc pm cdv ct : Value} {osl : Array (Option Value)} (aC : mg "InvalidLook" = some (.ref C)) (X : ClsT K L C) (iC : PySem.W.findIn K (.ref C) "__init__" = some (some (.ref f))) (tI : PySem.W.typeIn K (.ref f) = some (.type "function"))
    (lI : K.lookup f = some ⟨oc, od, .func (PySem.W.fnOf "__init__" "InvalidLook.__init__" (defArgs (sIn 9)) (defBody (sIn 9)) (defScope (sIn 9)) (.ref T) kV doc pm an cdv ct), osl⟩) (cI : PySem.W.codeIn K cdv "InvalidLook.__init__" = true) (kI : PySem.W.keepIn K (.ref f) = true)
    (lT : K.lookup T = some o) (oT : o.data = .seq #[.none] m) (TB : BaseT K mg L fL) (GL : Fun K "__init__" "LookError.__init__" sLE fL fdL) (bL : Binds K fdL ["self"] []) (base : Heap) :
    ErrT P w K mg base "InvalidLook" C f (PySem.W.fnOf "__init__" "InvalidLook.__init__" (defArgs (sIn 9)) (defBody (sIn 9)) (defScope (sIn 9)) (.ref T) kV doc pm an cdv ct) := by
  have G : FunD K "__init__" "InvalidLook.__init__" (defArgs (sIn 9)) (defBody (sIn 9)) (defScope (sIn 9)) [.non] [] f _ := ⟨⟨_, _, _, _, _, _, _, _, _, _, rfl, lI, cI, .inr ⟨by simp, T, o, [.none], m, rfl, lT, oT, .cons rfl .nil⟩, .inl rfl⟩, kI⟩
  have b2 := G.binds1 (ps := ["self", "value"]) 2 1 (by simp) rfl (fun T kV doc pm an cdv ct us its hu hi => match us, hu, its, hi with | [_, _], _, [_], _ => ⟨_, rfl, rfl⟩)
  have b1 := G.binds1 (ps := ["self", "value"]) 1 0 (by simp) rfl (fun T kV doc pm an cdv ct us its hu hi => match us, hu, its, hi with | [_], _, [_], _ => ⟨_, rfl, rfl⟩)
  have bk := G.kbindsD (ps := ["self", "value"]) 1 ["value"] (fun us _ ws => us ++ ws) (by simp) (fun r _ rz => r.append rz) (fun T kV doc pm an cdv ct us its ws hu hi hw => match us, hu, its, hi, ws, hw with | [_], _, [_], _, [_], _ => ⟨_, rfl, rfl⟩)
  obtain ⟨ds, v2, b2⟩ := b2
  obtain ⟨its, bk⟩ := bk
  cases v2
  exact ⟨aC, X.ox, X.wd, iC, tI, ok_in9 G TB GL bL, b2, b1, bk, X.nv⟩
theorem er10 {C f T : Addr} {o : Obj} {m : Nat} {oc : Value} {od an : Option Addr} {kV doc pm cdv ct : Value} {osl : Array (Option Value)} (aC : mg "InvalidTree" = some (.ref C)) (X : ClsT K L C) (iC : PySem.W.findIn K (.ref C) "__init__" = some (some (.ref f))) (tI : PySem.W.typeIn K (.ref f) = some (.type "function"))
    (lI : K.lookup f = some ⟨oc, od, .func (PySem.W.fnOf "__init__" "InvalidTree.__init__" (defArgs (sIn 10)) (defBody (sIn 10)) (defScope (sIn 10)) (.ref T) kV doc pm an cdv ct), osl⟩) (cI : PySem.W.codeIn K cdv "InvalidTree.__init__" = true) (kI : PySem.W.keepIn K (.ref f) = true)
    (lT : K.lookup T = some o) (oT : o.data = .seq #[.none] m) (TB : BaseT K mg L fL) (GL : Fun K "__init__" "LookError.__init__" sLE fL fdL) (bL : Binds K fdL ["self"] []) (base : Heap) :
    ErrT P w K mg base "InvalidTree" C f (PySem.W.fnOf "__init__" "InvalidTree.__init__" (defArgs (sIn 10)) (defBody (sIn 10)) (defScope (sIn 10)) (.ref T) kV doc pm an cdv ct) := by
  have G : FunD K "__init__" "InvalidTree.__init__" (defArgs (sIn 10)) (defBody (sIn 10)) (defScope (sIn 10)) [.non] [] f _ := ⟨⟨_, _, _, _, _, _, _, _, _, _, rfl, lI, cI, .inr ⟨by simp, T, o, [.none], m, rfl, lT, oT, .cons rfl .nil⟩, .inl rfl⟩, kI⟩
  have b2 := G.binds1 (ps := ["self", "value"]) 2 1 (by simp) rfl (fun T kV doc pm an cdv ct us its hu hi => match us, hu, its, hi with | [_, _], _, [_], _ => ⟨_, rfl, rfl⟩)
  have b1 := G.binds1 (ps := ["self", "value"]) 1 0 (by simp) rfl (fun T kV doc pm an cdv ct us its hu hi => match us, hu, its, hi with | [_], _, [_], _ => ⟨_, rfl, rfl⟩)
  have bk := G.kbindsD (ps := ["self", "value"]) 1 ["value"] (fun us _ ws => us ++ ws) (by simp) (fun r _ rz => r.append rz) (fun T kV doc pm an cdv ct us its ws hu hi hw => match us, hu, its, hi, ws, hw with | [_], _, [_], _, [_], _ => ⟨_, rfl, rfl⟩)
  obtain ⟨ds, v2, b2⟩ := b2
  obtain ⟨its, bk⟩ := bk
  cases v2
  exact ⟨aC, X.ox, X.wd, iC, tI, ok_in10 G TB GL bL, b2, b1, bk, X.nv⟩
theorem er11 {C f T : Addr} {o : Obj} {m : Nat} {oc : Value} {od an : Option Addr} {kV doc pm cdv ct : Value} {osl : Array (Option Value)} (aC : mg "InvalidPoints" = some (.ref C)) (X : ClsT K L C) (iC : PySem.W.findIn K (.ref C) "__init__" = some (some (.ref f))) (tI : PySem.W.typeIn K (.ref f) = some (.type "function"))
    (lI : K.lookup f = some ⟨oc, od, .func (PySem.W.fnOf "__init__" "InvalidPoints.__init__" (defArgs (sIn 11)) (defBody (sIn 11)) (defScope (sIn 11)) (.ref T) kV doc pm an cdv ct), osl⟩) (cI : PySem.W.codeIn K cdv "InvalidPoints.__init__" = true) (kI : PySem.W.keepIn K (.ref f) = true)
    (lT : K.lookup T = some o) (oT : o.data = .seq #[.none] m) (TB : BaseT K mg L fL) (GL : Fun K "__init__" "LookError.__init__" sLE fL fdL) (bL : Binds K fdL ["self"] []) (base : Heap) :
    ErrT P w K mg base "InvalidPoints" C f (PySem.W.fnOf "__init__" "InvalidPoints.__init__" (defArgs (sIn 11)) (defBody (sIn 11)) (defScope (sIn 11)) (.ref T) kV doc pm an cdv ct) := by
  have G : FunD K "__init__" "InvalidPoints.__init__" (defArgs (sIn 11)) (defBody (sIn 11)) (defScope (sIn 11)) [.non] [] f _ := ⟨⟨_, _, _, _, _, _, _, _, _, _, rfl, lI, cI, .inr ⟨by simp, T, o, [.none], m, rfl, lT, oT, .cons rfl .nil⟩, .inl rfl⟩, kI⟩
  have b2 := G.binds1 (ps := ["self", "value"]) 2 1 (by simp) rfl (fun T kV doc pm an cdv ct us its hu hi => match us, hu, its, hi with | [_, _], _, [_], _ => ⟨_, rfl, rfl⟩)
  have b1 := G.binds1 (ps := ["self", "value"]) 1 0 (by simp) rfl (fun T kV doc pm an cdv ct us its hu hi => match us, hu, its, hi with | [_], _, [_], _ => ⟨_, rfl, rfl⟩)
  have bk := G.kbindsD (ps := ["self", "value"]) 1 ["value"] (fun us _ ws => us ++ ws) (by simp) (fun r _ rz => r.append rz) (fun T kV doc pm an cdv ct us its ws hu hi hw => match us, hu, its, hi, ws, hw with | [_], _, [_], _, [_], _ => ⟨_, rfl, rfl⟩)
  obtain ⟨ds, v2, b2⟩ := b2
  obtain ⟨its, bk⟩ := bk
  cases v2
  exact ⟨aC, X.ox, X.wd, iC, tI, ok_in11 G TB GL bL, b2, b1, bk, X.nv⟩
theorem er12 {C f T : Addr} {o : Obj} {m : Nat} {oc : Value} {od an : Option Addr} {kV doc pm cdv ct : Value} {osl : Array (Option Value)} (aC : mg "InvalidDerivation" = some (.ref C)) (X : ClsT K L C) (iC : PySem.W.findIn K (.ref C) "__init__" = some (some (.ref f))) (tI : PySem.W.typeIn K (.ref f) = some (.type "function"))
    (lI : K.lookup f = some ⟨oc, od, .func (PySem.W.fnOf "__init__" "InvalidDerivation.__init__" (defArgs (sIn 12)) (defBody (sIn 12)) (defScope (sIn 12)) (.ref T) kV doc pm an cdv ct), osl⟩) (cI : PySem.W.codeIn K cdv "InvalidDerivation.__init__" = true) (kI : PySem.W.keepIn K (.ref f) = true)
    (lT : K.lookup T = some o) (oT : o.data = .seq #[.none] m) (TB : BaseT K mg L fL) (GL : Fun K "__init__" "LookError.__init__" sLE fL fdL) (bL : Binds K fdL ["self"] []) (base : Heap) :
    ErrT P w K mg base "InvalidDerivation" C f (PySem.W.fnOf "__init__" "InvalidDerivation.__init__" (defArgs (sIn 12)) (defBody (sIn 12)) (defScope (sIn 12)) (.ref T) kV doc pm an cdv ct) := by
  have G : FunD K "__init__" "InvalidDerivation.__init__" (defArgs (sIn 12)) (defBody (sIn 12)) (defScope (sIn 12)) [.non] [] f _ := ⟨⟨_, _, _, _, _, _, _, _, _, _, rfl, lI, cI, .inr ⟨by simp, T, o, [.none], m, rfl, lT, oT, .cons rfl .nil⟩, .inl rfl⟩, kI⟩
  have b2 := G.binds1 (ps := ["self", "value"]) 2 1 (by simp) rfl (fun T kV doc pm an cdv ct us its hu hi => match us, hu, its, hi with | [_, _], _, [_], _ => ⟨_, rfl, rfl⟩)
  have b1 := G.binds1 (ps := ["self", "value"]) 1 0 (by simp) rfl (fun T kV doc pm an cdv ct us its hu hi => match us, hu, its, hi with | [_], _, [_], _ => ⟨_, rfl, rfl⟩)
  have bk := G.kbindsD (ps := ["self", "value"]) 1 ["value"] (fun us _ ws => us ++ ws) (by simp) (fun r _ rz => r.append rz) (fun T kV doc pm an cdv ct us its ws hu hi hw => match us, hu, its, hi, ws, hw with | [_], _, [_], _, [_], _ => ⟨_, rfl, rfl⟩)
  obtain ⟨ds, v2, b2⟩ := b2
  obtain ⟨its, bk⟩ := bk
  cases v2
  exact ⟨aC, X.ox, X.wd, iC, tI, ok_in12 G TB GL bL, b2, b1, bk, X.nv⟩
theorem er13 {C f T : Addr} {o : Obj} {m : Nat} {oc : Value} {od an : Option Addr} {kV doc pm cdv ct : Value} {osl : Array (Option Value)} (aC : mg "InvalidFamily" = some (.ref C)) (X : ClsT K L C) (iC : PySem.W.findIn K (.ref C) "__init__" = some (some (.ref f))) (tI : PySem.W.typeIn K (.ref f) = some (.type "function"))
    (lI : K.lookup f = some ⟨oc, od, .func (PySem.W.fnOf "__init__" "InvalidFamily.__init__" (defArgs (sIn 13)) (defBody (sIn 13)) (defScope (sIn 13)) (.ref T) kV doc pm an cdv ct), osl⟩) (cI : PySem.W.codeIn K cdv "InvalidFamily.__init__" = true) (kI : PySem.W.keepIn K (.ref f) = true)
    (lT : K.lookup T = some o) (oT : o.data = .seq #[.none] m) (TB : BaseT K mg L fL) (GL : Fun K "__init__" "LookError.__init__" sLE fL fdL) (bL : Binds K fdL ["self"] []) (base : Heap) :
    ErrT P w K mg base "InvalidFamily" C f (PySem.W.fnOf "__init__" "InvalidFamily.__init__" (defArgs (sIn 13)) (defBody (sIn 13)) (defScope (sIn 13)) (.ref T) kV doc pm an cdv ct) := by
  have G : FunD K "__init__" "InvalidFamily.__init__" (defArgs (sIn 13)) (defBody (sIn 13)) (defScope (sIn 13)) [.non] [] f _ := ⟨⟨_, _, _, _, _, _, _, _, _, _, rfl, lI, cI, .inr ⟨by simp, T, o, [.none], m, rfl, lT, oT, .cons rfl .nil⟩, .inl rfl⟩, kI⟩
  have b2 := G.binds1 (ps := ["self", "value"]) 2 1 (by simp) rfl (fun T kV doc pm an cdv ct us its hu hi => match us, hu, its, hi with | [_, _], _, [_], _ => ⟨_, rfl, rfl⟩)
  have b1 := G.binds1 (ps := ["self", "value"]) 1 0 (by simp) rfl (fun T kV doc pm an cdv ct us its hu hi => match us, hu, its, hi with | [_], _, [_], _ => ⟨_, rfl, rfl⟩)
  have bk := G.kbindsD (ps := ["self", "value"]) 1 ["value"] (fun us _ ws => us ++ ws) (by simp) (fun r _ rz => r.append rz) (fun T kV doc pm an cdv ct us its ws hu hi hw => match us, hu, its, hi, ws, hw with | [_], _, [_], _, [_], _ => ⟨_, rfl, rfl⟩)
  obtain ⟨ds, v2, b2⟩ := b2
  obtain ⟨its, bk⟩ := bk
  cases v2
  exact ⟨aC, X.ox, X.wd, iC, tI, ok_in13 G TB GL bL, b2, b1, bk, X.nv⟩
theorem er14 {C f T : Addr} {o : Obj} {m : Nat} {oc : Value} {od an : Option Addr} {kV doc pm cdv ct : Value} {osl : Array (Option Value)} (aC : mg "InvalidMake" = some (.ref C)) (X : ClsT K L C) (iC : PySem.W.findIn K (.ref C) "__init__" = some (some (.ref f))) (tI : PySem.W.typeIn K (.ref f) = some (.type "function"))
    (lI : K.lookup f = some ⟨oc, od, .func (PySem.W.fnOf "__init__" "InvalidMake.__init__" (defArgs (sIn 14)) (defBody (sIn 14)) (defScope (sIn 14)) (.ref T) kV doc pm an cdv ct), osl⟩) (cI : PySem.W.codeIn K cdv "InvalidMake.__init__" = true) (kI : PySem.W.keepIn K (.ref f) = true)
    (lT : K.lookup T = some o) (oT : o.data = .seq #[.none] m) (TB : BaseT K mg L fL) (GL : Fun K "__init__" "LookError.__init__" sLE fL fdL) (bL : Binds K fdL ["self"] []) (base : Heap) :
    ErrT P w K mg base "InvalidMake" C f (PySem.W.fnOf "__init__" "InvalidMake.__init__" (defArgs (sIn 14)) (defBody (sIn 14)) (defScope (sIn 14)) (.ref T) kV doc pm an cdv ct) := by
  have G : FunD K "__init__" "InvalidMake.__init__" (defArgs (sIn 14)) (defBody (sIn 14)) (defScope (sIn 14)) [.non] [] f _ := ⟨⟨_, _, _, _, _, _, _, _, _, _, rfl, lI, cI, .inr ⟨by simp, T, o, [.none], m, rfl, lT, oT, .cons rfl .nil⟩, .inl rfl⟩, kI⟩
  have b2 := G.binds1 (ps := ["self", "value"]) 2 1 (by simp) rfl (fun T kV doc pm an cdv ct us its hu hi => match us, hu, its, hi with | [_, _], _, [_], _ => ⟨_, rfl, rfl⟩)
  have b1 := G.binds1 (ps := ["self", "value"]) 1 0 (by simp) rfl (fun T kV doc pm an cdv ct us its hu hi => match us, hu, its, hi with | [_], _, [_], _ => ⟨_, rfl, rfl⟩)
  have bk := G.kbindsD (ps := ["self", "value"]) 1 ["value"] (fun us _ ws => us ++ ws) (by simp) (fun r _ rz => r.append rz) (fun T kV doc pm an cdv ct us its ws hu hi hw => match us, hu, its, hi, ws, hw with | [_], _, [_], _, [_], _ => ⟨_, rfl, rfl⟩)
  obtain ⟨ds, v2, b2⟩ := b2
  obtain ⟨its, bk⟩ := bk
  cases v2
  exact ⟨aC, X.ox, X.wd, iC, tI, ok_in14 G TB GL bL, b2, b1, bk, X.nv⟩
theorem er15 {C f T : Addr} {o : Obj} {m : Nat} {oc : Value} {od an : Option Addr} {kV doc pm cdv ct : Value} {osl : Array (Option Value)} (aC : mg "InvalidDesk" = some (.ref C)) (X : ClsT K L C) (iC : PySem.W.findIn K (.ref C) "__init__" = some (some (.ref f))) (tI : PySem.W.typeIn K (.ref f) = some (.type "function"))
    (lI : K.lookup f = some ⟨oc, od, .func (PySem.W.fnOf "__init__" "InvalidDesk.__init__" (defArgs (sIn 15)) (defBody (sIn 15)) (defScope (sIn 15)) (.ref T) kV doc pm an cdv ct), osl⟩) (cI : PySem.W.codeIn K cdv "InvalidDesk.__init__" = true) (kI : PySem.W.keepIn K (.ref f) = true)
    (lT : K.lookup T = some o) (oT : o.data = .seq #[.none] m) (TB : BaseT K mg L fL) (GL : Fun K "__init__" "LookError.__init__" sLE fL fdL) (bL : Binds K fdL ["self"] []) (base : Heap) :
    ErrT P w K mg base "InvalidDesk" C f (PySem.W.fnOf "__init__" "InvalidDesk.__init__" (defArgs (sIn 15)) (defBody (sIn 15)) (defScope (sIn 15)) (.ref T) kV doc pm an cdv ct) := by
  have G : FunD K "__init__" "InvalidDesk.__init__" (defArgs (sIn 15)) (defBody (sIn 15)) (defScope (sIn 15)) [.non] [] f _ := ⟨⟨_, _, _, _, _, _, _, _, _, _, rfl, lI, cI, .inr ⟨by simp, T, o, [.none], m, rfl, lT, oT, .cons rfl .nil⟩, .inl rfl⟩, kI⟩
  have b2 := G.binds1 (ps := ["self", "value"]) 2 1 (by simp) rfl (fun T kV doc pm an cdv ct us its hu hi => match us, hu, its, hi with | [_, _], _, [_], _ => ⟨_, rfl, rfl⟩)
  have b1 := G.binds1 (ps := ["self", "value"]) 1 0 (by simp) rfl (fun T kV doc pm an cdv ct us its hu hi => match us, hu, its, hi with | [_], _, [_], _ => ⟨_, rfl, rfl⟩)
  have bk := G.kbindsD (ps := ["self", "value"]) 1 ["value"] (fun us _ ws => us ++ ws) (by simp) (fun r _ rz => r.append rz) (fun T kV doc pm an cdv ct us its ws hu hi hw => match us, hu, its, hi, ws, hw with | [_], _, [_], _, [_], _ => ⟨_, rfl, rfl⟩)
  obtain ⟨ds, v2, b2⟩ := b2
  obtain ⟨its, bk⟩ := bk
  cases v2
  exact ⟨aC, X.ox, X.wd, iC, tI, ok_in15 G TB GL bL, b2, b1, bk, X.nv⟩
theorem er16 {C f T : Addr} {o : Obj} {m : Nat} {oc : Value} {od an : Option Addr} {kV doc pm cdv ct : Value} {osl : Array (Option Value)} (aC : mg "InvalidSpot" = some (.ref C)) (X : ClsT K L C) (iC : PySem.W.findIn K (.ref C) "__init__" = some (some (.ref f))) (tI : PySem.W.typeIn K (.ref f) = some (.type "function"))
    (lI : K.lookup f = some ⟨oc, od, .func (PySem.W.fnOf "__init__" "InvalidSpot.__init__" (defArgs (sIn 16)) (defBody (sIn 16)) (defScope (sIn 16)) (.ref T) kV doc pm an cdv ct), osl⟩) (cI : PySem.W.codeIn K cdv "InvalidSpot.__init__" = true) (kI : PySem.W.keepIn K (.ref f) = true)
    (lT : K.lookup T = some o) (oT : o.data = .seq #[.none] m) (TB : BaseT K mg L fL) (GL : Fun K "__init__" "LookError.__init__" sLE fL fdL) (bL : Binds K fdL ["self"] []) (base : Heap) :
    ErrT P w K mg base "InvalidSpot" C f (PySem.W.fnOf "__init__" "InvalidSpot.__init__" (defArgs (sIn 16)) (defBody (sIn 16)) (defScope (sIn 16)) (.ref T) kV doc pm an cdv ct) := by
  have G : FunD K "__init__" "InvalidSpot.__init__" (defArgs (sIn 16)) (defBody (sIn 16)) (defScope (sIn 16)) [.non] [] f _ := ⟨⟨_, _, _, _, _, _, _, _, _, _, rfl, lI, cI, .inr ⟨by simp, T, o, [.none], m, rfl, lT, oT, .cons rfl .nil⟩, .inl rfl⟩, kI⟩
  have b2 := G.binds1 (ps := ["self", "value"]) 2 1 (by simp) rfl (fun T kV doc pm an cdv ct us its hu hi => match us, hu, its, hi with | [_, _], _, [_], _ => ⟨_, rfl, rfl⟩)
  have b1 := G.binds1 (ps := ["self", "value"]) 1 0 (by simp) rfl (fun T kV doc pm an cdv ct us its hu hi => match us, hu, its, hi with | [_], _, [_], _ => ⟨_, rfl, rfl⟩)
  have bk := G.kbindsD (ps := ["self", "value"]) 1 ["value"] (fun us _ ws => us ++ ws) (by simp) (fun r _ rz => r.append rz) (fun T kV doc pm an cdv ct us its ws hu hi hw => match us, hu, its, hi, ws, hw with | [_], _, [_], _, [_], _ => ⟨_, rfl, rfl⟩)
  obtain ⟨ds, v2, b2⟩ := b2
  obtain ⟨its, bk⟩ := bk
  cases v2
  exact ⟨aC, X.ox, X.wd, iC, tI, ok_in16 G TB GL bL, b2, b1, bk, X.nv⟩
theorem er17 {C f T : Addr} {o : Obj} {m : Nat} {oc : Value} {od an : Option Addr} {kV doc pm cdv ct : Value} {osl : Array (Option Value)} (aC : mg "InvalidScript" = some (.ref C)) (X : ClsT K L C) (iC : PySem.W.findIn K (.ref C) "__init__" = some (some (.ref f))) (tI : PySem.W.typeIn K (.ref f) = some (.type "function"))
    (lI : K.lookup f = some ⟨oc, od, .func (PySem.W.fnOf "__init__" "InvalidScript.__init__" (defArgs (sIn 17)) (defBody (sIn 17)) (defScope (sIn 17)) (.ref T) kV doc pm an cdv ct), osl⟩) (cI : PySem.W.codeIn K cdv "InvalidScript.__init__" = true) (kI : PySem.W.keepIn K (.ref f) = true)
    (lT : K.lookup T = some o) (oT : o.data = .seq #[.none] m) (TB : BaseT K mg L fL) (GL : Fun K "__init__" "LookError.__init__" sLE fL fdL) (bL : Binds K fdL ["self"] []) (base : Heap) :
    ErrT P w K mg base "InvalidScript" C f (PySem.W.fnOf "__init__" "InvalidScript.__init__" (defArgs (sIn 17)) (defBody (sIn 17)) (defScope (sIn 17)) (.ref T) kV doc pm an cdv ct) := by
  have G : FunD K "__init__" "InvalidScript.__init__" (defArgs (sIn 17)) (defBody (sIn 17)) (defScope (sIn 17)) [.non] [] f _ := ⟨⟨_, _, _, _, _, _, _, _, _, _, rfl, lI, cI, .inr ⟨by simp, T, o, [.none], m, rfl, lT, oT, .cons rfl .nil⟩, .inl rfl⟩, kI⟩
  have b2 := G.binds1 (ps := ["self", "value"]) 2 1 (by simp) rfl (fun T kV doc pm an cdv ct us its hu hi => match us, hu, its, hi with | [_, _], _, [_], _ => ⟨_, rfl, rfl⟩)
  have b1 := G.binds1 (ps := ["self", "value"]) 1 0 (by simp) rfl (fun T kV doc pm an cdv ct us its hu hi => match us, hu, its, hi with | [_], _, [_], _ => ⟨_, rfl, rfl⟩)
  have bk := G.kbindsD (ps := ["self", "value"]) 1 ["value"] (fun us _ ws => us ++ ws) (by simp) (fun r _ rz => r.append rz) (fun T kV doc pm an cdv ct us its ws hu hi hw => match us, hu, its, hi, ws, hw with | [_], _, [_], _, [_], _ => ⟨_, rfl, rfl⟩)
  obtain ⟨ds, v2, b2⟩ := b2
  obtain ⟨its, bk⟩ := bk
  cases v2
  exact ⟨aC, X.ox, X.wd, iC, tI, ok_in17 G TB GL bL, b2, b1, bk, X.nv⟩
theorem er18 {C f T : Addr} {o : Obj} {m : Nat} {oc : Value} {od an : Option Addr} {kV doc pm cdv ct : Value} {osl : Array (Option Value)} (aC : mg "InvalidText" = some (.ref C)) (X : ClsT K L C) (iC : PySem.W.findIn K (.ref C) "__init__" = some (some (.ref f))) (tI : PySem.W.typeIn K (.ref f) = some (.type "function"))
    (lI : K.lookup f = some ⟨oc, od, .func (PySem.W.fnOf "__init__" "InvalidText.__init__" (defArgs (sIn 18)) (defBody (sIn 18)) (defScope (sIn 18)) (.ref T) kV doc pm an cdv ct), osl⟩) (cI : PySem.W.codeIn K cdv "InvalidText.__init__" = true) (kI : PySem.W.keepIn K (.ref f) = true)
    (lT : K.lookup T = some o) (oT : o.data = .seq #[.none] m) (TB : BaseT K mg L fL) (GL : Fun K "__init__" "LookError.__init__" sLE fL fdL) (bL : Binds K fdL ["self"] []) (base : Heap) :
    ErrT P w K mg base "InvalidText" C f (PySem.W.fnOf "__init__" "InvalidText.__init__" (defArgs (sIn 18)) (defBody (sIn 18)) (defScope (sIn 18)) (.ref T) kV doc pm an cdv ct) := by
  have G : FunD K "__init__" "InvalidText.__init__" (defArgs (sIn 18)) (defBody (sIn 18)) (defScope (sIn 18)) [.non] [] f _ := ⟨⟨_, _, _, _, _, _, _, _, _, _, rfl, lI, cI, .inr ⟨by simp, T, o, [.none], m, rfl, lT, oT, .cons rfl .nil⟩, .inl rfl⟩, kI⟩
  have b2 := G.binds1 (ps := ["self", "value"]) 2 1 (by simp) rfl (fun T kV doc pm an cdv ct us its hu hi => match us, hu, its, hi with | [_, _], _, [_], _ => ⟨_, rfl, rfl⟩)
  have b1 := G.binds1 (ps := ["self", "value"]) 1 0 (by simp) rfl (fun T kV doc pm an cdv ct us its hu hi => match us, hu, its, hi with | [_], _, [_], _ => ⟨_, rfl, rfl⟩)
  have bk := G.kbindsD (ps := ["self", "value"]) 1 ["value"] (fun us _ ws => us ++ ws) (by simp) (fun r _ rz => r.append rz) (fun T kV doc pm an cdv ct us its ws hu hi hw => match us, hu, its, hi, ws, hw with | [_], _, [_], _, [_], _ => ⟨_, rfl, rfl⟩)
  obtain ⟨ds, v2, b2⟩ := b2
  obtain ⟨its, bk⟩ := bk
  cases v2
  exact ⟨aC, X.ox, X.wd, iC, tI, ok_in18 G TB GL bL, b2, b1, bk, X.nv⟩
theorem er19 {C f T : Addr} {o : Obj} {m : Nat} {oc : Value} {od an : Option Addr} {kV doc pm cdv ct : Value} {osl : Array (Option Value)} (aC : mg "InvalidRecord" = some (.ref C)) (X : ClsT K L C) (iC : PySem.W.findIn K (.ref C) "__init__" = some (some (.ref f))) (tI : PySem.W.typeIn K (.ref f) = some (.type "function"))
    (lI : K.lookup f = some ⟨oc, od, .func (PySem.W.fnOf "__init__" "InvalidRecord.__init__" (defArgs (sIn 19)) (defBody (sIn 19)) (defScope (sIn 19)) (.ref T) kV doc pm an cdv ct), osl⟩) (cI : PySem.W.codeIn K cdv "InvalidRecord.__init__" = true) (kI : PySem.W.keepIn K (.ref f) = true)
    (lT : K.lookup T = some o) (oT : o.data = .seq #[.none] m) (TB : BaseT K mg L fL) (GL : Fun K "__init__" "LookError.__init__" sLE fL fdL) (bL : Binds K fdL ["self"] []) (base : Heap) :
    ErrT P w K mg base "InvalidRecord" C f (PySem.W.fnOf "__init__" "InvalidRecord.__init__" (defArgs (sIn 19)) (defBody (sIn 19)) (defScope (sIn 19)) (.ref T) kV doc pm an cdv ct) := by
  have G : FunD K "__init__" "InvalidRecord.__init__" (defArgs (sIn 19)) (defBody (sIn 19)) (defScope (sIn 19)) [.non] [] f _ := ⟨⟨_, _, _, _, _, _, _, _, _, _, rfl, lI, cI, .inr ⟨by simp, T, o, [.none], m, rfl, lT, oT, .cons rfl .nil⟩, .inl rfl⟩, kI⟩
  have b2 := G.binds1 (ps := ["self", "value"]) 2 1 (by simp) rfl (fun T kV doc pm an cdv ct us its hu hi => match us, hu, its, hi with | [_, _], _, [_], _ => ⟨_, rfl, rfl⟩)
  have b1 := G.binds1 (ps := ["self", "value"]) 1 0 (by simp) rfl (fun T kV doc pm an cdv ct us its hu hi => match us, hu, its, hi with | [_], _, [_], _ => ⟨_, rfl, rfl⟩)
  have bk := G.kbindsD (ps := ["self", "value"]) 1 ["value"] (fun us _ ws => us ++ ws) (by simp) (fun r _ rz => r.append rz) (fun T kV doc pm an cdv ct us its ws hu hi hw => match us, hu, its, hi, ws, hw with | [_], _, [_], _, [_], _ => ⟨_, rfl, rfl⟩)
  obtain ⟨ds, v2, b2⟩ := b2
  obtain ⟨its, bk⟩ := bk
  cases v2
  exact ⟨aC, X.ox, X.wd, iC, tI, ok_in19 G TB GL bL, b2, b1, bk, X.nv⟩
theorem er20 {C f T : Addr} {o : Obj} {m : Nat} {oc : Value} {od an : Option Addr} {kV doc pm cdv ct : Value} {osl : Array (Option Value)} (aC : mg "Filled" = some (.ref C)) (X : ClsT K L C) (iC : PySem.W.findIn K (.ref C) "__init__" = some (some (.ref f))) (tI : PySem.W.typeIn K (.ref f) = some (.type "function"))
    (lI : K.lookup f = some ⟨oc, od, .func (PySem.W.fnOf "__init__" "Filled.__init__" (defArgs (sIn 20)) (defBody (sIn 20)) (defScope (sIn 20)) (.ref T) kV doc pm an cdv ct), osl⟩) (cI : PySem.W.codeIn K cdv "Filled.__init__" = true) (kI : PySem.W.keepIn K (.ref f) = true)
    (lT : K.lookup T = some o) (oT : o.data = .seq #[.none] m) (TB : BaseT K mg L fL) (GL : Fun K "__init__" "LookError.__init__" sLE fL fdL) (bL : Binds K fdL ["self"] []) (base : Heap) :
    ErrT P w K mg base "Filled" C f (PySem.W.fnOf "__init__" "Filled.__init__" (defArgs (sIn 20)) (defBody (sIn 20)) (defScope (sIn 20)) (.ref T) kV doc pm an cdv ct) := by
  have G : FunD K "__init__" "Filled.__init__" (defArgs (sIn 20)) (defBody (sIn 20)) (defScope (sIn 20)) [.non] [] f _ := ⟨⟨_, _, _, _, _, _, _, _, _, _, rfl, lI, cI, .inr ⟨by simp, T, o, [.none], m, rfl, lT, oT, .cons rfl .nil⟩, .inl rfl⟩, kI⟩
  have b2 := G.binds1 (ps := ["self", "value"]) 2 1 (by simp) rfl (fun T kV doc pm an cdv ct us its hu hi => match us, hu, its, hi with | [_, _], _, [_], _ => ⟨_, rfl, rfl⟩)
  have b1 := G.binds1 (ps := ["self", "value"]) 1 0 (by simp) rfl (fun T kV doc pm an cdv ct us its hu hi => match us, hu, its, hi with | [_], _, [_], _ => ⟨_, rfl, rfl⟩)
  have bk := G.kbindsD (ps := ["self", "value"]) 1 ["value"] (fun us _ ws => us ++ ws) (by simp) (fun r _ rz => r.append rz) (fun T kV doc pm an cdv ct us its ws hu hi hw => match us, hu, its, hi, ws, hw with | [_], _, [_], _, [_], _ => ⟨_, rfl, rfl⟩)
  obtain ⟨ds, v2, b2⟩ := b2
  obtain ⟨its, bk⟩ := bk
  cases v2
  exact ⟨aC, X.ox, X.wd, iC, tI, ok_in20 G TB GL bL, b2, b1, bk, X.nv⟩
theorem er21 {C f T : Addr} {o : Obj} {m : Nat} {oc : Value} {od an : Option Addr} {kV doc pm cdv ct : Value} {osl : Array (Option Value)} (aC : mg "Refused" = some (.ref C)) (X : ClsT K L C) (iC : PySem.W.findIn K (.ref C) "__init__" = some (some (.ref f))) (tI : PySem.W.typeIn K (.ref f) = some (.type "function"))
    (lI : K.lookup f = some ⟨oc, od, .func (PySem.W.fnOf "__init__" "Refused.__init__" (defArgs (sIn 21)) (defBody (sIn 21)) (defScope (sIn 21)) (.ref T) kV doc pm an cdv ct), osl⟩) (cI : PySem.W.codeIn K cdv "Refused.__init__" = true) (kI : PySem.W.keepIn K (.ref f) = true)
    (lT : K.lookup T = some o) (oT : o.data = .seq #[.none] m) (TB : BaseT K mg L fL) (GL : Fun K "__init__" "LookError.__init__" sLE fL fdL) (bL : Binds K fdL ["self"] []) (base : Heap) :
    ErrT P w K mg base "Refused" C f (PySem.W.fnOf "__init__" "Refused.__init__" (defArgs (sIn 21)) (defBody (sIn 21)) (defScope (sIn 21)) (.ref T) kV doc pm an cdv ct) := by
  have G : FunD K "__init__" "Refused.__init__" (defArgs (sIn 21)) (defBody (sIn 21)) (defScope (sIn 21)) [.non] [] f _ := ⟨⟨_, _, _, _, _, _, _, _, _, _, rfl, lI, cI, .inr ⟨by simp, T, o, [.none], m, rfl, lT, oT, .cons rfl .nil⟩, .inl rfl⟩, kI⟩
  have b2 := G.binds1 (ps := ["self", "value"]) 2 1 (by simp) rfl (fun T kV doc pm an cdv ct us its hu hi => match us, hu, its, hi with | [_, _], _, [_], _ => ⟨_, rfl, rfl⟩)
  have b1 := G.binds1 (ps := ["self", "value"]) 1 0 (by simp) rfl (fun T kV doc pm an cdv ct us its hu hi => match us, hu, its, hi with | [_], _, [_], _ => ⟨_, rfl, rfl⟩)
  have bk := G.kbindsD (ps := ["self", "value"]) 1 ["value"] (fun us _ ws => us ++ ws) (by simp) (fun r _ rz => r.append rz) (fun T kV doc pm an cdv ct us its ws hu hi hw => match us, hu, its, hi, ws, hw with | [_], _, [_], _, [_], _ => ⟨_, rfl, rfl⟩)
  obtain ⟨ds, v2, b2⟩ := b2
  obtain ⟨its, bk⟩ := bk
  cases v2
  exact ⟨aC, X.ox, X.wd, iC, tI, ok_in21 G TB GL bL, b2, b1, bk, X.nv⟩
end
end My
end

section
set_option Elab.async false
set_option linter.all false
set_option maxRecDepth 100000
set_option maxHeartbeats 0
namespace My
open PySem PySem.Spec PyProof.Rows L2 MyE MyR MyG PySem.MyN
theorem walk {l : PySem.W.OpenLaw} {q : Program} {loose : List Str} {XP : (Str → Option Value) → Heap → Prop} {YP : World → Heap → Prop} {d : DefRec} {K : Params → PySem.W.Frag} (hn : l.most = some 63) (hdf : d.params.defaults = [])
    (hY : ∀ (w : World) (h : Heap), YP w h → (K w.params).In h)
    (F : ∀ (w : World) (mg : Str → Option Value) (fa : Addr) (h : Heap), (K w.params).In h → h.Ns mainGlobals mg → mg d.name = some (.ref fa) →
      ∃ fd : FuncData, (∀ (s : Shared) (u : Value), BindsTo s fd ⟨[u], []⟩ [("_law_script", u)]) ∧ ∀ base : Heap, (K w.params).In base → base.Ns mainGlobals mg → FnG l.prog w (K w.params) mg base 7 fa fd ["_law_script"] (spLaw (K w.params))) :
    PySem.W.WalkO q loose XP YP l.row.toRowW d [] (fun f vs => PySem.call f vs) :=
  walkG (n := 63) (k := 7) (x := "_law_script") (sp := fun w => spLaw (K w.params)) hn (by decide) hdf ⟨rfl, by decide, by decide⟩ hY F (fun _ _ a ns hl _ hS => ⟨a, ns, rfl, hS, hl, fun _ => rfl⟩)
theorem all_mk {l : PySem.W.OpenLaw} {w : World} {K : PySem.W.Frag} {h : Heap} {mg : Str → Option Value} {fa L fL U D : Addr} {C0 C1 C2 C3 C4 C5 C6 C7 C8 C9 C10 C11 C12 C13 C14 C15 C16 C17 C18 C19 C20 C21 : Addr} {f0 f1 f2 f3 f4 f5 f6 f7 f8 f9 f10 f11 f12 f13 f14 f15 f16 f17 f18 f19 f20 f21 : Addr} {T0 T1 T2 T3 T4 T5 T6 T7 T8 T9 T10 T11 T12 T13 T14 T15 T16 T17 T18 T19 T20 T21 : Addr} {o0 o1 o2 o3 o4 o5 o6 o7 o8 o9 o10 o11 o12 o13 o14 o15 o16 o17 o18 o19 o20 o21 : Obj} {m0 m1 m2 m3 m4 m5 m6 m7 m8 m9 m10 m11 m12 m13 m14 m15 m16 m17 m18 m19 m20 m21 : Nat}
    {oc0 kV0 doc0 pm0 cdv0 ct0 oc1 kV1 doc1 pm1 cdv1 ct1 oc2 kV2 doc2 pm2 cdv2 ct2 oc3 kV3 doc3 pm3 cdv3 ct3 oc4 kV4 doc4 pm4 cdv4 ct4 oc5 kV5 doc5 pm5 cdv5 ct5 oc6 kV6 doc6 pm6 cdv6 ct6 oc7 kV7 doc7 pm7 cdv7 ct7 oc8 kV8 doc8 pm8 cdv8 ct8 oc9 kV9 doc9 pm9 cdv9 ct9 oc10 kV10 doc10 pm10 cdv10 ct10 oc11 kV11 doc11 pm11 cdv11 ct11 oc12 kV12 doc12 pm12 cdv12 ct12 oc13 kV13 doc13 pm13 cdv13 ct13 oc14 kV14 doc14 pm14 cdv14 ct14 oc15 kV15 doc15 pm15 cdv15 ct15 oc16 kV16 doc16 pm16 cdv16 ct16 oc17 kV17 doc17 pm17 cdv17 ct17 oc18 kV18 doc18 pm18 cdv18 ct18 oc19 kV19 doc19 pm19 cdv19 ct19 oc20 kV20 doc20 pm20 cdv20 ct20 oc21 kV21 doc21 pm21 cdv21 ct21 : Value} {od0 an0 od1 an1 od2 an2 od3 an3 od4 an4 od5 an5 od6 an6 od7 an7 od8 an8 od9 an9 od10 an10 od11 an11 od12 an12 od13 an13 od14 an14 od15 an15 od16 an16 od17 an17 od18 an18 od19 an19 od20 an20 od21 an21 : Option Addr} {osl0 osl1 osl2 osl3 osl4 osl5 osl6 osl7 osl8 osl9 osl10 osl11 osl12 osl13 osl14 osl15 osl16 osl17 osl18 osl19 osl20 osl21 : Array (Option Value)}
    {gPu gMi gDr gPs gOo gWo gFi gCa gBa gCo gIe gRi gLa : Addr} {ocPu kVPu docPu pmPu cdvPu ctPu ocMi kVMi docMi pmMi cdvMi ctMi ocDr kVDr docDr pmDr cdvDr ctDr ocPs kVPs docPs pmPs cdvPs ctPs ocOo kVOo docOo pmOo cdvOo ctOo ocWo kVWo docWo pmWo cdvWo ctWo ocFi kVFi docFi pmFi cdvFi ctFi ocCa kVCa docCa pmCa cdvCa ctCa ocBa kVBa docBa pmBa cdvBa ctBa ocCo kVCo docCo pmCo cdvCo ctCo ocIe kVIe docIe pmIe cdvIe ctIe ocRi kVRi docRi pmRi cdvRi ctRi ocLa kVLa docLa pmLa cdvLa ctLa ocLe kVLe docLe pmLe cdvLe ctLe : Value} {odPu anPu odMi anMi odDr anDr odPs anPs odOo anOo odWo anWo odFi anFi odCa anCa odBa anBa odCo anCo odIe anIe odRi anRi odLa anLa odLe anLe : Option Addr} {oslPu oslMi oslDr oslPs oslOo oslWo oslFi oslCa oslBa oslCo oslIe oslRi oslLa oslLe : Array (Option Value)}
    (X : K.In h) (G : h.Ns mainGlobals mg) (hfa : mg "law" = some (.ref fa))
    (z_sum : PySem.W.nsIn K mainGlobals "sum" = some none)
    (z_int : PySem.W.nsIn K mainGlobals "int" = some none)
    (z_max : PySem.W.nsIn K mainGlobals "max" = some none)
    (z_min : PySem.W.nsIn K mainGlobals "min" = some none)
    (z_len : PySem.W.nsIn K mainGlobals "len" = some none)
    (z_range : PySem.W.nsIn K mainGlobals "range" = some none)
    (z_isinstance : PySem.W.nsIn K mainGlobals "isinstance" = some none)
    (z_repr : PySem.W.nsIn K mainGlobals "repr" = some none)
    (z_all : PySem.W.nsIn K mainGlobals "all" = some none)
    (z_list : PySem.W.nsIn K mainGlobals "list" = some none)
    (z_dict : PySem.W.nsIn K mainGlobals "dict" = some none)
    (z_tuple : PySem.W.nsIn K mainGlobals "tuple" = some none)
    (z_ValueError : PySem.W.nsIn K mainGlobals "ValueError" = some none)
    (aL : PySem.W.nsIn K mainGlobals "LookError" = some (some (.ref L)))
    (aU : PySem.W.nsIn K mainGlobals "NothingToUndo" = some (some (.ref U)))
    (aD : PySem.W.nsIn K mainGlobals "NothingToRedo" = some (some (.ref D)))
    (a0 : PySem.W.nsIn K mainGlobals "InvalidLiteral" = some (some (.ref C0)))
    (a1 : PySem.W.nsIn K mainGlobals "InvalidVariable" = some (some (.ref C1)))
    (a2 : PySem.W.nsIn K mainGlobals "InvalidClause" = some (some (.ref C2)))
    (a3 : PySem.W.nsIn K mainGlobals "InvalidClauses" = some (some (.ref C3)))
    (a4 : PySem.W.nsIn K mainGlobals "InvalidBook" = some (some (.ref C4)))
    (a5 : PySem.W.nsIn K mainGlobals "InvalidFilling" = some (some (.ref C5)))
    (a6 : PySem.W.nsIn K mainGlobals "InvalidMap" = some (some (.ref C6)))
    (a7 : PySem.W.nsIn K mainGlobals "InvalidDepth" = some (some (.ref C7)))
    (a8 : PySem.W.nsIn K mainGlobals "InvalidNumber" = some (some (.ref C8)))
    (a9 : PySem.W.nsIn K mainGlobals "InvalidLook" = some (some (.ref C9)))
    (a10 : PySem.W.nsIn K mainGlobals "InvalidTree" = some (some (.ref C10)))
    (a11 : PySem.W.nsIn K mainGlobals "InvalidPoints" = some (some (.ref C11)))
    (a12 : PySem.W.nsIn K mainGlobals "InvalidDerivation" = some (some (.ref C12)))
    (a13 : PySem.W.nsIn K mainGlobals "InvalidFamily" = some (some (.ref C13)))
    (a14 : PySem.W.nsIn K mainGlobals "InvalidMake" = some (some (.ref C14)))
    (a15 : PySem.W.nsIn K mainGlobals "InvalidDesk" = some (some (.ref C15)))
    (a16 : PySem.W.nsIn K mainGlobals "InvalidSpot" = some (some (.ref C16)))
    (a17 : PySem.W.nsIn K mainGlobals "InvalidScript" = some (some (.ref C17)))
    (a18 : PySem.W.nsIn K mainGlobals "InvalidText" = some (some (.ref C18)))
    (a19 : PySem.W.nsIn K mainGlobals "InvalidRecord" = some (some (.ref C19)))
    (a20 : PySem.W.nsIn K mainGlobals "Filled" = some (some (.ref C20)))
    (a21 : PySem.W.nsIn K mainGlobals "Refused" = some (some (.ref C21)))
    (vV : PySem.W.findCls K (.type "ValueError") (.type "type") "__init__" = some (.val (.builtin "ValueError.__init__")))
    (iL : PySem.W.findIn K (.ref L) "__init__" = some (some (.ref fL)))
    (tL : PySem.W.typeIn K (.ref fL) = some (.type "function"))
    (rdL : PySem.W.readsIn K L (.type "type") = true)
    (gaL : PySem.W.specialIn K (.ref L) "__getattribute__" = some (some (.builtin "type.__getattribute__")))
    (fvL : PySem.W.findCls K (.ref L) (.type "type") "__init__" = some (.val (.ref fL)))
    (iU : PySem.W.findIn K (.ref U) "__init__" = some (some (.ref fL)))
    (iD : PySem.W.findIn K (.ref D) "__init__" = some (some (.ref fL)))
    (hn : PySem.W.specialIn K (.builtin "object.__class__") "__get__" = some (some (.builtin "getset_descriptor.__get__")))
    (ht : PySem.W.takesIn K (.builtin "object.__class__") = some true)
    (n1 : PySem.W.findIn K (.type "type") "__name__" = some (some (.builtin "type.__name__")))
    (n2 : PySem.W.specialIn K (.builtin "type.__name__") "__get__" = some (some (.builtin "getset_descriptor.__get__")))
    (n3 : PySem.W.takesIn K (.builtin "type.__name__") = some true)
    (lLe : K.lookup fL = some ⟨ocLe, odLe, .func (PySem.W.fnOf "__init__" "LookError.__init__" (defArgs sLE) (defBody sLE) (defScope sLE) .none kVLe docLe pmLe anLe cdvLe ctLe), oslLe⟩)
    (cLe : PySem.W.codeIn K cdvLe "LookError.__init__" = true)
    (kLe : PySem.W.keepIn K (.ref fL) = true)
    (i0 : PySem.W.findIn K (.ref C0) "__init__" = some (some (.ref f0)))
    (t0 : PySem.W.typeIn K (.ref f0) = some (.type "function"))
    (l0 : K.lookup f0 = some ⟨oc0, od0, .func (PySem.W.fnOf "__init__" "InvalidLiteral.__init__" (defArgs (sIn 0)) (defBody (sIn 0)) (defScope (sIn 0)) (.ref T0) kV0 doc0 pm0 an0 cdv0 ct0), osl0⟩)
    (c0 : PySem.W.codeIn K cdv0 "InvalidLiteral.__init__" = true)
    (k0 : PySem.W.keepIn K (.ref f0) = true)
    (T0_ : K.lookup T0 = some o0)
    (O0_ : o0.data = .seq #[.none] m0)
    (i1 : PySem.W.findIn K (.ref C1) "__init__" = some (some (.ref f1)))
    (t1 : PySem.W.typeIn K (.ref f1) = some (.type "function"))
    (l1 : K.lookup f1 = some ⟨oc1, od1, .func (PySem.W.fnOf "__init__" "InvalidVariable.__init__" (defArgs (sIn 1)) (defBody (sIn 1)) (defScope (sIn 1)) (.ref T1) kV1 doc1 pm1 an1 cdv1 ct1), osl1⟩)
    (c1 : PySem.W.codeIn K cdv1 "InvalidVariable.__init__" = true)
    (k1 : PySem.W.keepIn K (.ref f1) = true)
    (T1_ : K.lookup T1 = some o1)
    (O1_ : o1.data = .seq #[.none] m1)
    (i2 : PySem.W.findIn K (.ref C2) "__init__" = some (some (.ref f2)))
    (t2 : PySem.W.typeIn K (.ref f2) = some (.type "function"))
    (l2 : K.lookup f2 = some ⟨oc2, od2, .func (PySem.W.fnOf "__init__" "InvalidClause.__init__" (defArgs (sIn 2)) (defBody (sIn 2)) (defScope (sIn 2)) (.ref T2) kV2 doc2 pm2 an2 cdv2 ct2), osl2⟩)
    (c2 : PySem.W.codeIn K cdv2 "InvalidClause.__init__" = true)
    (k2 : PySem.W.keepIn K (.ref f2) = true)
    (T2_ : K.lookup T2 = some o2)
    (O2_ : o2.data = .seq #[.none] m2)
    (i3 : PySem.W.findIn K (.ref C3) "__init__" = some (some (.ref f3)))
    (t3 : PySem.W.typeIn K (.ref f3) = some (.type "function"))
    (l3 : K.lookup f3 = some ⟨oc3, od3, .func (PySem.W.fnOf "__init__" "InvalidClauses.__init__" (defArgs (sIn 3)) (defBody (sIn 3)) (defScope (sIn 3)) (.ref T3) kV3 doc3 pm3 an3 cdv3 ct3), osl3⟩)
    (c3 : PySem.W.codeIn K cdv3 "InvalidClauses.__init__" = true)
    (k3 : PySem.W.keepIn K (.ref f3) = true)
    (T3_ : K.lookup T3 = some o3)
    (O3_ : o3.data = .seq #[.none] m3)
    (i4 : PySem.W.findIn K (.ref C4) "__init__" = some (some (.ref f4)))
    (t4 : PySem.W.typeIn K (.ref f4) = some (.type "function"))
    (l4 : K.lookup f4 = some ⟨oc4, od4, .func (PySem.W.fnOf "__init__" "InvalidBook.__init__" (defArgs (sIn 4)) (defBody (sIn 4)) (defScope (sIn 4)) (.ref T4) kV4 doc4 pm4 an4 cdv4 ct4), osl4⟩)
    (c4 : PySem.W.codeIn K cdv4 "InvalidBook.__init__" = true)
    (k4 : PySem.W.keepIn K (.ref f4) = true)
    (T4_ : K.lookup T4 = some o4)
    (O4_ : o4.data = .seq #[.none] m4)
    (i5 : PySem.W.findIn K (.ref C5) "__init__" = some (some (.ref f5)))
    (t5 : PySem.W.typeIn K (.ref f5) = some (.type "function"))
    (l5 : K.lookup f5 = some ⟨oc5, od5, .func (PySem.W.fnOf "__init__" "InvalidFilling.__init__" (defArgs (sIn 5)) (defBody (sIn 5)) (defScope (sIn 5)) (.ref T5) kV5 doc5 pm5 an5 cdv5 ct5), osl5⟩)
    (c5 : PySem.W.codeIn K cdv5 "InvalidFilling.__init__" = true)
    (k5 : PySem.W.keepIn K (.ref f5) = true)
    (T5_ : K.lookup T5 = some o5)
    (O5_ : o5.data = .seq #[.none] m5)
    (i6 : PySem.W.findIn K (.ref C6) "__init__" = some (some (.ref f6)))
    (t6 : PySem.W.typeIn K (.ref f6) = some (.type "function"))
    (l6 : K.lookup f6 = some ⟨oc6, od6, .func (PySem.W.fnOf "__init__" "InvalidMap.__init__" (defArgs (sIn 6)) (defBody (sIn 6)) (defScope (sIn 6)) (.ref T6) kV6 doc6 pm6 an6 cdv6 ct6), osl6⟩)
    (c6 : PySem.W.codeIn K cdv6 "InvalidMap.__init__" = true)
    (k6 : PySem.W.keepIn K (.ref f6) = true)
    (T6_ : K.lookup T6 = some o6)
    (O6_ : o6.data = .seq #[.none] m6)
    (i7 : PySem.W.findIn K (.ref C7) "__init__" = some (some (.ref f7)))
    (t7 : PySem.W.typeIn K (.ref f7) = some (.type "function"))
    (l7 : K.lookup f7 = some ⟨oc7, od7, .func (PySem.W.fnOf "__init__" "InvalidDepth.__init__" (defArgs (sIn 7)) (defBody (sIn 7)) (defScope (sIn 7)) (.ref T7) kV7 doc7 pm7 an7 cdv7 ct7), osl7⟩)
    (c7 : PySem.W.codeIn K cdv7 "InvalidDepth.__init__" = true)
    (k7 : PySem.W.keepIn K (.ref f7) = true)
    (T7_ : K.lookup T7 = some o7)
    (O7_ : o7.data = .seq #[.none] m7)
    (i8 : PySem.W.findIn K (.ref C8) "__init__" = some (some (.ref f8)))
    (t8 : PySem.W.typeIn K (.ref f8) = some (.type "function"))
    (l8 : K.lookup f8 = some ⟨oc8, od8, .func (PySem.W.fnOf "__init__" "InvalidNumber.__init__" (defArgs (sIn 8)) (defBody (sIn 8)) (defScope (sIn 8)) (.ref T8) kV8 doc8 pm8 an8 cdv8 ct8), osl8⟩)
    (c8 : PySem.W.codeIn K cdv8 "InvalidNumber.__init__" = true)
    (k8 : PySem.W.keepIn K (.ref f8) = true)
    (T8_ : K.lookup T8 = some o8)
    (O8_ : o8.data = .seq #[.none] m8)
    (i9 : PySem.W.findIn K (.ref C9) "__init__" = some (some (.ref f9)))
    (t9 : PySem.W.typeIn K (.ref f9) = some (.type "function"))
    (l9 : K.lookup f9 = some ⟨oc9, od9, .func (PySem.W.fnOf "__init__" "InvalidLook.__init__" (defArgs (sIn 9)) (defBody (sIn 9)) (defScope (sIn 9)) (.ref T9) kV9 doc9 pm9 an9 cdv9 ct9), osl9⟩)
    (c9 : PySem.W.codeIn K cdv9 "InvalidLook.__init__" = true)
    (k9 : PySem.W.keepIn K (.ref f9) = true)
    (T9_ : K.lookup T9 = some o9)
    (O9_ : o9.data = .seq #[.none] m9)
    (i10 : PySem.W.findIn K (.ref C10) "__init__" = some (some (.ref f10)))
    (t10 : PySem.W.typeIn K (.ref f10) = some (.type "function"))
    (l10 : K.lookup f10 = some ⟨oc10, od10, .func (PySem.W.fnOf "__init__" "InvalidTree.__init__" (defArgs (sIn 10)) (defBody (sIn 10)) (defScope (sIn 10)) (.ref T10) kV10 doc10 pm10 an10 cdv10 ct10), osl10⟩)
    (c10 : PySem.W.codeIn K cdv10 "InvalidTree.__init__" = true)
    (k10 : PySem.W.keepIn K (.ref f10) = true)
    (T10_ : K.lookup T10 = some o10)
    (O10_ : o10.data = .seq #[.none] m10)
    (i11 : PySem.W.findIn K (.ref C11) "__init__" = some (some (.ref f11)))
    (t11 : PySem.W.typeIn K (.ref f11) = some (.type "function"))
    (l11 : K.lookup f11 = some ⟨oc11, od11, .func (PySem.W.fnOf "__init__" "InvalidPoints.__init__" (defArgs (sIn 11)) (defBody (sIn 11)) (defScope (sIn 11)) (.ref T11) kV11 doc11 pm11 an11 cdv11 ct11), osl11⟩)
    (c11 : PySem.W.codeIn K cdv11 "InvalidPoints.__init__" = true)
    (k11 : PySem.W.keepIn K (.ref f11) = true)
    (T11_ : K.lookup T11 = some o11)
    (O11_ : o11.data = .seq #[.none] m11)
    (i12 : PySem.W.findIn K (.ref C12) "__init__" = some (some (.ref f12)))
    (t12 : PySem.W.typeIn K (.ref f12) = some (.type "function"))
    (l12 : K.lookup f12 = some ⟨oc12, od12, .func (PySem.W.fnOf "__init__" "InvalidDerivation.__init__" (defArgs (sIn 12)) (defBody (sIn 12)) (defScope (sIn 12)) (.ref T12) kV12 doc12 pm12 an12 cdv12 ct12), osl12⟩)
    (c12 : PySem.W.codeIn K cdv12 "InvalidDerivation.__init__" = true)
    (k12 : PySem.W.keepIn K (.ref f12) = true)
    (T12_ : K.lookup T12 = some o12)
    (O12_ : o12.data = .seq #[.none] m12)
    (i13 : PySem.W.findIn K (.ref C13) "__init__" = some (some (.ref f13)))
    (t13 : PySem.W.typeIn K (.ref f13) = some (.type "function"))
    (l13 : K.lookup f13 = some ⟨oc13, od13, .func (PySem.W.fnOf "__init__" "InvalidFamily.__init__" (defArgs (sIn 13)) (defBody (sIn 13)) (defScope (sIn 13)) (.ref T13) kV13 doc13 pm13 an13 cdv13 ct13), osl13⟩)
    (c13 : PySem.W.codeIn K cdv13 "InvalidFamily.__init__" = true)
    (k13 : PySem.W.keepIn K (.ref f13) = true)
    (T13_ : K.lookup T13 = some o13)
    (O13_ : o13.data = .seq #[.none] m13)
    (i14 : PySem.W.findIn K (.ref C14) "__init__" = some (some (.ref f14)))
    (t14 : PySem.W.typeIn K (.ref f14) = some (.type "function"))
    (l14 : K.lookup f14 = some ⟨oc14, od14, .func (PySem.W.fnOf "__init__" "InvalidMake.__init__" (defArgs (sIn 14)) (defBody (sIn 14)) (defScope (sIn 14)) (.ref T14) kV14 doc14 pm14 an14 cdv14 ct14), osl14⟩)
    (c14 : PySem.W.codeIn K cdv14 "InvalidMake.__init__" = true)
    (k14 : PySem.W.keepIn K (.ref f14) = true)
    (T14_ : K.lookup T14 = some o14)
    (O14_ : o14.data = .seq #[.none] m14)
    (i15 : PySem.W.findIn K (.ref C15) "__init__" = some (some (.ref f15)))
    (t15 : PySem.W.typeIn K (.ref f15) = some (.type "function"))
    (l15 : K.lookup f15 = some ⟨oc15, od15, .func (PySem.W.fnOf "__init__" "InvalidDesk.__init__" (defArgs (sIn 15)) (defBody (sIn 15)) (defScope (sIn 15)) (.ref T15) kV15 doc15 pm15 an15 cdv15 ct15), osl15⟩)
    (c15 : PySem.W.codeIn K cdv15 "InvalidDesk.__init__" = true)
    (k15 : PySem.W.keepIn K (.ref f15) = true)
    (T15_ : K.lookup T15 = some o15)
    (O15_ : o15.data = .seq #[.none] m15)
    (i16 : PySem.W.findIn K (.ref C16) "__init__" = some (some (.ref f16)))
    (t16 : PySem.W.typeIn K (.ref f16) = some (.type "function"))
    (l16 : K.lookup f16 = some ⟨oc16, od16, .func (PySem.W.fnOf "__init__" "InvalidSpot.__init__" (defArgs (sIn 16)) (defBody (sIn 16)) (defScope (sIn 16)) (.ref T16) kV16 doc16 pm16 an16 cdv16 ct16), osl16⟩)
    (c16 : PySem.W.codeIn K cdv16 "InvalidSpot.__init__" = true)
    (k16 : PySem.W.keepIn K (.ref f16) = true)
    (T16_ : K.lookup T16 = some o16)
    (O16_ : o16.data = .seq #[.none] m16)
    (i17 : PySem.W.findIn K (.ref C17) "__init__" = some (some (.ref f17)))
    (t17 : PySem.W.typeIn K (.ref f17) = some (.type "function"))
    (l17 : K.lookup f17 = some ⟨oc17, od17, .func (PySem.W.fnOf "__init__" "InvalidScript.__init__" (defArgs (sIn 17)) (defBody (sIn 17)) (defScope (sIn 17)) (.ref T17) kV17 doc17 pm17 an17 cdv17 ct17), osl17⟩)
    (c17 : PySem.W.codeIn K cdv17 "InvalidScript.__init__" = true)
    (k17 : PySem.W.keepIn K (.ref f17) = true)
    (T17_ : K.lookup T17 = some o17)
    (O17_ : o17.data = .seq #[.none] m17)
    (i18 : PySem.W.findIn K (.ref C18) "__init__" = some (some (.ref f18)))
    (t18 : PySem.W.typeIn K (.ref f18) = some (.type "function"))
    (l18 : K.lookup f18 = some ⟨oc18, od18, .func (PySem.W.fnOf "__init__" "InvalidText.__init__" (defArgs (sIn 18)) (defBody (sIn 18)) (defScope (sIn 18)) (.ref T18) kV18 doc18 pm18 an18 cdv18 ct18), osl18⟩)
    (c18 : PySem.W.codeIn K cdv18 "InvalidText.__init__" = true)
    (k18 : PySem.W.keepIn K (.ref f18) = true)
    (T18_ : K.lookup T18 = some o18)
    (O18_ : o18.data = .seq #[.none] m18)
    (i19 : PySem.W.findIn K (.ref C19) "__init__" = some (some (.ref f19)))
    (t19 : PySem.W.typeIn K (.ref f19) = some (.type "function"))
    (l19 : K.lookup f19 = some ⟨oc19, od19, .func (PySem.W.fnOf "__init__" "InvalidRecord.__init__" (defArgs (sIn 19)) (defBody (sIn 19)) (defScope (sIn 19)) (.ref T19) kV19 doc19 pm19 an19 cdv19 ct19), osl19⟩)
    (c19 : PySem.W.codeIn K cdv19 "InvalidRecord.__init__" = true)
    (k19 : PySem.W.keepIn K (.ref f19) = true)
    (T19_ : K.lookup T19 = some o19)
    (O19_ : o19.data = .seq #[.none] m19)
    (i20 : PySem.W.findIn K (.ref C20) "__init__" = some (some (.ref f20)))
    (t20 : PySem.W.typeIn K (.ref f20) = some (.type "function"))
    (l20 : K.lookup f20 = some ⟨oc20, od20, .func (PySem.W.fnOf "__init__" "Filled.__init__" (defArgs (sIn 20)) (defBody (sIn 20)) (defScope (sIn 20)) (.ref T20) kV20 doc20 pm20 an20 cdv20 ct20), osl20⟩)
    (c20 : PySem.W.codeIn K cdv20 "Filled.__init__" = true)
    (k20 : PySem.W.keepIn K (.ref f20) = true)
    (T20_ : K.lookup T20 = some o20)
    (O20_ : o20.data = .seq #[.none] m20)
    (i21 : PySem.W.findIn K (.ref C21) "__init__" = some (some (.ref f21)))
    (t21 : PySem.W.typeIn K (.ref f21) = some (.type "function"))
    (l21 : K.lookup f21 = some ⟨oc21, od21, .func (PySem.W.fnOf "__init__" "Refused.__init__" (defArgs (sIn 21)) (defBody (sIn 21)) (defScope (sIn 21)) (.ref T21) kV21 doc21 pm21 an21 cdv21 ct21), osl21⟩)
    (c21 : PySem.W.codeIn K cdv21 "Refused.__init__" = true)
    (k21 : PySem.W.keepIn K (.ref f21) = true)
    (T21_ : K.lookup T21 = some o21)
    (O21_ : o21.data = .seq #[.none] m21)
    (aPu : PySem.W.nsIn K mainGlobals "_law_purse" = some (some (.ref gPu)))
    (lPu : K.lookup gPu = some ⟨ocPu, odPu, .func (PySem.W.fnOf "_law_purse" "_law_purse" (defArgs sPurse) (defBody sPurse) (defScope sPurse) .none kVPu docPu pmPu anPu cdvPu ctPu), oslPu⟩)
    (cPu : PySem.W.codeIn K cdvPu "_law_purse" = true)
    (kPu : PySem.W.keepIn K (.ref gPu) = true)
    (aMi : PySem.W.nsIn K mainGlobals "_law_mixed" = some (some (.ref gMi)))
    (lMi : K.lookup gMi = some ⟨ocMi, odMi, .func (PySem.W.fnOf "_law_mixed" "_law_mixed" (defArgs sMixed) (defBody sMixed) (defScope sMixed) .none kVMi docMi pmMi anMi cdvMi ctMi), oslMi⟩)
    (cMi : PySem.W.codeIn K cdvMi "_law_mixed" = true)
    (kMi : PySem.W.keepIn K (.ref gMi) = true)
    (aDr : PySem.W.nsIn K mainGlobals "_law_draw" = some (some (.ref gDr)))
    (lDr : K.lookup gDr = some ⟨ocDr, odDr, .func (PySem.W.fnOf "_law_draw" "_law_draw" (defArgs sDraw) (defBody sDraw) (defScope sDraw) .none kVDr docDr pmDr anDr cdvDr ctDr), oslDr⟩)
    (cDr : PySem.W.codeIn K cdvDr "_law_draw" = true)
    (kDr : PySem.W.keepIn K (.ref gDr) = true)
    (aPs : PySem.W.nsIn K mainGlobals "_law_purses" = some (some (.ref gPs)))
    (lPs : K.lookup gPs = some ⟨ocPs, odPs, .func (PySem.W.fnOf "_law_purses" "_law_purses" (defArgs sPurses) (defBody sPurses) (defScope sPurses) .none kVPs docPs pmPs anPs cdvPs ctPs), oslPs⟩)
    (cPs : PySem.W.codeIn K cdvPs "_law_purses" = true)
    (kPs : PySem.W.keepIn K (.ref gPs) = true)
    (aOo : PySem.W.nsIn K mainGlobals "_law_one_of" = some (some (.ref gOo)))
    (lOo : K.lookup gOo = some ⟨ocOo, odOo, .func (PySem.W.fnOf "_law_one_of" "_law_one_of" (defArgs sOneOf) (defBody sOneOf) (defScope sOneOf) .none kVOo docOo pmOo anOo cdvOo ctOo), oslOo⟩)
    (cOo : PySem.W.codeIn K cdvOo "_law_one_of" = true)
    (kOo : PySem.W.keepIn K (.ref gOo) = true)
    (aWo : PySem.W.nsIn K mainGlobals "_law_word" = some (some (.ref gWo)))
    (lWo : K.lookup gWo = some ⟨ocWo, odWo, .func (PySem.W.fnOf "_law_word" "_law_word" (defArgs sWord) (defBody sWord) (defScope sWord) .none kVWo docWo pmWo anWo cdvWo ctWo), oslWo⟩)
    (cWo : PySem.W.codeIn K cdvWo "_law_word" = true)
    (kWo : PySem.W.keepIn K (.ref gWo) = true)
    (aFi : PySem.W.nsIn K mainGlobals "_law_first" = some (some (.ref gFi)))
    (lFi : K.lookup gFi = some ⟨ocFi, odFi, .func (PySem.W.fnOf "_law_first" "_law_first" (defArgs sFirst) (defBody sFirst) (defScope sFirst) .none kVFi docFi pmFi anFi cdvFi ctFi), oslFi⟩)
    (cFi : PySem.W.codeIn K cdvFi "_law_first" = true)
    (kFi : PySem.W.keepIn K (.ref gFi) = true)
    (aCa : PySem.W.nsIn K mainGlobals "_law_called" = some (some (.ref gCa)))
    (lCa : K.lookup gCa = some ⟨ocCa, odCa, .func (PySem.W.fnOf "_law_called" "_law_called" (defArgs sCalled) (defBody sCalled) (defScope sCalled) .none kVCa docCa pmCa anCa cdvCa ctCa), oslCa⟩)
    (cCa : PySem.W.codeIn K cdvCa "_law_called" = true)
    (kCa : PySem.W.keepIn K (.ref gCa) = true)
    (aBa : PySem.W.nsIn K mainGlobals "_law_bare" = some (some (.ref gBa)))
    (lBa : K.lookup gBa = some ⟨ocBa, odBa, .func (PySem.W.fnOf "_law_bare" "_law_bare" (defArgs sBare) (defBody sBare) (defScope sBare) .none kVBa docBa pmBa anBa cdvBa ctBa), oslBa⟩)
    (cBa : PySem.W.codeIn K cdvBa "_law_bare" = true)
    (kBa : PySem.W.keepIn K (.ref gBa) = true)
    (aCo : PySem.W.nsIn K mainGlobals "_law_code" = some (some (.ref gCo)))
    (lCo : K.lookup gCo = some ⟨ocCo, odCo, .func (PySem.W.fnOf "_law_code" "_law_code" (defArgs sCode) (defBody sCode) (defScope sCode) .none kVCo docCo pmCo anCo cdvCo ctCo), oslCo⟩)
    (cCo : PySem.W.codeIn K cdvCo "_law_code" = true)
    (kCo : PySem.W.keepIn K (.ref gCo) = true)
    (aIe : PySem.W.nsIn K mainGlobals "_law_is_error" = some (some (.ref gIe)))
    (lIe : K.lookup gIe = some ⟨ocIe, odIe, .func (PySem.W.fnOf "_law_is_error" "_law_is_error" (defArgs sIsError) (defBody sIsError) (defScope sIsError) .none kVIe docIe pmIe anIe cdvIe ctIe), oslIe⟩)
    (cIe : PySem.W.codeIn K cdvIe "_law_is_error" = true)
    (kIe : PySem.W.keepIn K (.ref gIe) = true)
    (aRi : PySem.W.nsIn K mainGlobals "_law_right" = some (some (.ref gRi)))
    (lRi : K.lookup gRi = some ⟨ocRi, odRi, .func (PySem.W.fnOf "_law_right" "_law_right" (defArgs sRight) (defBody sRight) (defScope sRight) .none kVRi docRi pmRi anRi cdvRi ctRi), oslRi⟩)
    (cRi : PySem.W.codeIn K cdvRi "_law_right" = true)
    (kRi : PySem.W.keepIn K (.ref gRi) = true)
    (aLa : PySem.W.nsIn K mainGlobals "law" = some (some (.ref gLa)))
    (lLa : K.lookup gLa = some ⟨ocLa, odLa, .func (PySem.W.fnOf "law" "law" (defArgs sLaw) (defBody sLaw) (defScope sLaw) .none kVLa docLa pmLa anLa cdvLa ctLa), oslLa⟩)
    (cLa : PySem.W.codeIn K cdvLa "law" = true)
    (kLa : PySem.W.keepIn K (.ref gLa) = true)
    (chk : ([C0, C1, C2, C3, C4, C5, C6, C7, C8, C9, C10, C11, C12, C13, C14, C15, C16, C17, C18, C19, C20, C21, U, D, L] : List Addr).all (clsB K L) = true)
    (prs : pairB K [C0, C1, C2, C3, C4, C5, C6, C7, C8, C9, C10, C11, C12, C13, C14, C15, C16, C17, C18, C19, C20, C21, U, D, L] = true) :
    ∃ fd : FuncData, (∀ (s : Shared) (u : Value), BindsTo s fd ⟨[u], []⟩ [("_law_script", u)]) ∧ ∀ base : Heap, K.In base → base.Ns mainGlobals mg → FnG l.prog w K mg base 7 fa fd ["_law_script"] (spLaw K) := by
  have e := hfa.symm.trans (PySem.W.mg_of X G aLa)
  cases e
  have no : ∀ {n : Str}, PySem.W.nsIn K mainGlobals n = some none → mg n = none := fun z => PySem.W.mg_none_of X G z
  have at_ : ∀ {n : Str} {v : Value}, PySem.W.nsIn K mainGlobals n = some (some v) → mg n = some v := fun z => PySem.W.mg_of X G z
  have B : Bts mg := ⟨no z_sum, no z_int, no z_max, no z_min, no z_len, no z_range⟩
  have TB : BaseT K mg L fL := ⟨no z_ValueError, vV, at_ aL, rdL, gaL, fvL⟩
  have GL := fun_mk (st := sLE) lLe cLe kLe
  have bL := GL.binds (ps := ["self"]) fun _ _ _ _ _ _ us hl => match us, hl with | [_], _ => rfl
  let cs : List Addr := [C0, C1, C2, C3, C4, C5, C6, C7, C8, C9, C10, C11, C12, C13, C14, C15, C16, C17, C18, C19, C20, C21, U, D, L]
  let c : Nat → Addr := fun i => cs.getD i 0
  have cl : ∀ i, i < 25 → ClsT K L (c i) := fun i hi => by
    have hi2 : i < cs.length := hi
    refine clsB_ok hn ht n1 n2 n3 (List.all_eq_true.mp chk (c i) ?_)
    show cs.getD i 0 ∈ cs
    rw [List.getD_eq_getElem?_getD, List.getElem?_eq_getElem hi2]
    exact List.getElem_mem _
  have GPu := fun_mk (st := sPurse) lPu cPu kPu
  have bPu := GPu.binds (ps := ["_law_script", "_law_at"]) fun _ _ _ _ _ _ us hl => match us, hl with | [_, _], _ => rfl
  have GMi := fun_mk (st := sMixed) lMi cMi kMi
  have bMi := GMi.binds (ps := ["_law_seed", "_law_spin", "_law_at"]) fun _ _ _ _ _ _ us hl => match us, hl with | [_, _, _], _ => rfl
  have GDr := fun_mk (st := sDraw) lDr cDr kDr
  have bDr := GDr.binds (ps := ["_law_purse_here", "_law_many"]) fun _ _ _ _ _ _ us hl => match us, hl with | [_, _], _ => rfl
  have GPs := fun_mk (st := sPurses) lPs cPs kPs
  have bPs := GPs.binds (ps := ["_law_script", "_law_few"]) fun _ _ _ _ _ _ us hl => match us, hl with | [_, _], _ => rfl
  have GOo := fun_mk (st := sOneOf) lOo cOo kOo
  have bOo := GOo.binds (ps := ["_law_purse_here", "_law_some"]) fun _ _ _ _ _ _ us hl => match us, hl with | [_, _], _ => rfl
  have GWo := fun_mk (st := sWord) lWo cWo kWo
  have bWo := GWo.binds (ps := ["_law_purse_here"]) fun _ _ _ _ _ _ us hl => match us, hl with | [_], _ => rfl
  have GFi := fun_mk (st := sFirst) lFi cFi kFi
  have bFi := GFi.binds (ps := ["_law_thing"]) fun _ _ _ _ _ _ us hl => match us, hl with | [_], _ => rfl
  have GCa := fun_mk (st := sCalled) lCa cCa kCa
  have bCa := GCa.binds (ps := ["_law_thing"]) fun _ _ _ _ _ _ us hl => match us, hl with | [_], _ => rfl
  have GBa := fun_mk (st := sBare) lBa cBa kBa
  have bBa := GBa.binds (ps := []) fun _ _ _ _ _ _ us hl => match us, hl with | [], _ => rfl
  have GCo := fun_mk (st := sCode) lCo cCo kCo
  have bCo := GCo.binds (ps := ["_law_error"]) fun _ _ _ _ _ _ us hl => match us, hl with | [_], _ => rfl
  have GIe := fun_mk (st := sIsError) lIe cIe kIe
  have bIe := GIe.binds (ps := ["_law_error"]) fun _ _ _ _ _ _ us hl => match us, hl with | [_], _ => rfl
  have GRi := fun_mk (st := sRight) lRi cRi kRi
  have bRi := GRi.binds (ps := ["_law_some", "_law_noted"]) fun _ _ _ _ _ _ us hl => match us, hl with | [_, _], _ => rfl
  have GLa := fun_mk (st := sLaw) lLa cLa kLa
  have bLa := GLa.binds (ps := ["_law_script"]) fun _ _ _ _ _ _ us hl => match us, hl with | [_], _ => rfl
  let fI : Nat → Addr := fun i => ([f0, f1, f2, f3, f4, f5, f6, f7, f8, f9, f10, f11, f12, f13, f14, f15, f16, f17, f18, f19, f20, f21] : List Addr).getD i 0
  let fdI : Nat → FuncData := fun i => ([PySem.W.fnOf "__init__" "InvalidLiteral.__init__" (defArgs (sIn 0)) (defBody (sIn 0)) (defScope (sIn 0)) (.ref T0) kV0 doc0 pm0 an0 cdv0 ct0, PySem.W.fnOf "__init__" "InvalidVariable.__init__" (defArgs (sIn 1)) (defBody (sIn 1)) (defScope (sIn 1)) (.ref T1) kV1 doc1 pm1 an1 cdv1 ct1, PySem.W.fnOf "__init__" "InvalidClause.__init__" (defArgs (sIn 2)) (defBody (sIn 2)) (defScope (sIn 2)) (.ref T2) kV2 doc2 pm2 an2 cdv2 ct2, PySem.W.fnOf "__init__" "InvalidClauses.__init__" (defArgs (sIn 3)) (defBody (sIn 3)) (defScope (sIn 3)) (.ref T3) kV3 doc3 pm3 an3 cdv3 ct3, PySem.W.fnOf "__init__" "InvalidBook.__init__" (defArgs (sIn 4)) (defBody (sIn 4)) (defScope (sIn 4)) (.ref T4) kV4 doc4 pm4 an4 cdv4 ct4, PySem.W.fnOf "__init__" "InvalidFilling.__init__" (defArgs (sIn 5)) (defBody (sIn 5)) (defScope (sIn 5)) (.ref T5) kV5 doc5 pm5 an5 cdv5 ct5, PySem.W.fnOf "__init__" "InvalidMap.__init__" (defArgs (sIn 6)) (defBody (sIn 6)) (defScope (sIn 6)) (.ref T6) kV6 doc6 pm6 an6 cdv6 ct6, PySem.W.fnOf "__init__" "InvalidDepth.__init__" (defArgs (sIn 7)) (defBody (sIn 7)) (defScope (sIn 7)) (.ref T7) kV7 doc7 pm7 an7 cdv7 ct7, PySem.W.fnOf "__init__" "InvalidNumber.__init__" (defArgs (sIn 8)) (defBody (sIn 8)) (defScope (sIn 8)) (.ref T8) kV8 doc8 pm8 an8 cdv8 ct8, PySem.W.fnOf "__init__" "InvalidLook.__init__" (defArgs (sIn 9)) (defBody (sIn 9)) (defScope (sIn 9)) (.ref T9) kV9 doc9 pm9 an9 cdv9 ct9, PySem.W.fnOf "__init__" "InvalidTree.__init__" (defArgs (sIn 10)) (defBody (sIn 10)) (defScope (sIn 10)) (.ref T10) kV10 doc10 pm10 an10 cdv10 ct10, PySem.W.fnOf "__init__" "InvalidPoints.__init__" (defArgs (sIn 11)) (defBody (sIn 11)) (defScope (sIn 11)) (.ref T11) kV11 doc11 pm11 an11 cdv11 ct11, PySem.W.fnOf "__init__" "InvalidDerivation.__init__" (defArgs (sIn 12)) (defBody (sIn 12)) (defScope (sIn 12)) (.ref T12) kV12 doc12 pm12 an12 cdv12 ct12, PySem.W.fnOf "__init__" "InvalidFamily.__init__" (defArgs (sIn 13)) (defBody (sIn 13)) (defScope (sIn 13)) (.ref T13) kV13 doc13 pm13 an13 cdv13 ct13, PySem.W.fnOf "__init__" "InvalidMake.__init__" (defArgs (sIn 14)) (defBody (sIn 14)) (defScope (sIn 14)) (.ref T14) kV14 doc14 pm14 an14 cdv14 ct14, PySem.W.fnOf "__init__" "InvalidDesk.__init__" (defArgs (sIn 15)) (defBody (sIn 15)) (defScope (sIn 15)) (.ref T15) kV15 doc15 pm15 an15 cdv15 ct15, PySem.W.fnOf "__init__" "InvalidSpot.__init__" (defArgs (sIn 16)) (defBody (sIn 16)) (defScope (sIn 16)) (.ref T16) kV16 doc16 pm16 an16 cdv16 ct16, PySem.W.fnOf "__init__" "InvalidScript.__init__" (defArgs (sIn 17)) (defBody (sIn 17)) (defScope (sIn 17)) (.ref T17) kV17 doc17 pm17 an17 cdv17 ct17, PySem.W.fnOf "__init__" "InvalidText.__init__" (defArgs (sIn 18)) (defBody (sIn 18)) (defScope (sIn 18)) (.ref T18) kV18 doc18 pm18 an18 cdv18 ct18, PySem.W.fnOf "__init__" "InvalidRecord.__init__" (defArgs (sIn 19)) (defBody (sIn 19)) (defScope (sIn 19)) (.ref T19) kV19 doc19 pm19 an19 cdv19 ct19, PySem.W.fnOf "__init__" "Filled.__init__" (defArgs (sIn 20)) (defBody (sIn 20)) (defScope (sIn 20)) (.ref T20) kV20 doc20 pm20 an20 cdv20 ct20, PySem.W.fnOf "__init__" "Refused.__init__" (defArgs (sIn 21)) (defBody (sIn 21)) (defScope (sIn 21)) (.ref T21) kV21 doc21 pm21 an21 cdv21 ct21] : List FuncData).getD i default
  refine ⟨PySem.W.fnOf "law" "law" (defArgs sLaw) (defBody sLaw) (defScope sLaw) .none kVLa docLa pmLa anLa cdvLa ctLa, fun s v => .of_eq rfl, fun base _ _ => ?_⟩
  have er : ∀ i, i < 22 → ErrT l.prog w K mg base (names.getD i Str.empty) (c i) (fI i) (fdI i) := fun i hi => match i, hi with
    | 0, _ => er0 (at_ a0) (cl 0 (by decide)) i0 t0 l0 c0 k0 T0_ O0_ TB GL bL base
    | 1, _ => er1 (at_ a1) (cl 1 (by decide)) i1 t1 l1 c1 k1 T1_ O1_ TB GL bL base
    | 2, _ => er2 (at_ a2) (cl 2 (by decide)) i2 t2 l2 c2 k2 T2_ O2_ TB GL bL base
    | 3, _ => er3 (at_ a3) (cl 3 (by decide)) i3 t3 l3 c3 k3 T3_ O3_ TB GL bL base
    | 4, _ => er4 (at_ a4) (cl 4 (by decide)) i4 t4 l4 c4 k4 T4_ O4_ TB GL bL base
    | 5, _ => er5 (at_ a5) (cl 5 (by decide)) i5 t5 l5 c5 k5 T5_ O5_ TB GL bL base
    | 6, _ => er6 (at_ a6) (cl 6 (by decide)) i6 t6 l6 c6 k6 T6_ O6_ TB GL bL base
    | 7, _ => er7 (at_ a7) (cl 7 (by decide)) i7 t7 l7 c7 k7 T7_ O7_ TB GL bL base
    | 8, _ => er8 (at_ a8) (cl 8 (by decide)) i8 t8 l8 c8 k8 T8_ O8_ TB GL bL base
    | 9, _ => er9 (at_ a9) (cl 9 (by decide)) i9 t9 l9 c9 k9 T9_ O9_ TB GL bL base
    | 10, _ => er10 (at_ a10) (cl 10 (by decide)) i10 t10 l10 c10 k10 T10_ O10_ TB GL bL base
    | 11, _ => er11 (at_ a11) (cl 11 (by decide)) i11 t11 l11 c11 k11 T11_ O11_ TB GL bL base
    | 12, _ => er12 (at_ a12) (cl 12 (by decide)) i12 t12 l12 c12 k12 T12_ O12_ TB GL bL base
    | 13, _ => er13 (at_ a13) (cl 13 (by decide)) i13 t13 l13 c13 k13 T13_ O13_ TB GL bL base
    | 14, _ => er14 (at_ a14) (cl 14 (by decide)) i14 t14 l14 c14 k14 T14_ O14_ TB GL bL base
    | 15, _ => er15 (at_ a15) (cl 15 (by decide)) i15 t15 l15 c15 k15 T15_ O15_ TB GL bL base
    | 16, _ => er16 (at_ a16) (cl 16 (by decide)) i16 t16 l16 c16 k16 T16_ O16_ TB GL bL base
    | 17, _ => er17 (at_ a17) (cl 17 (by decide)) i17 t17 l17 c17 k17 T17_ O17_ TB GL bL base
    | 18, _ => er18 (at_ a18) (cl 18 (by decide)) i18 t18 l18 c18 k18 T18_ O18_ TB GL bL base
    | 19, _ => er19 (at_ a19) (cl 19 (by decide)) i19 t19 l19 c19 k19 T19_ O19_ TB GL bL base
    | 20, _ => er20 (at_ a20) (cl 20 (by decide)) i20 t20 l20 c20 k20 T20_ O20_ TB GL bL base
    | 21, _ => er21 (at_ a21) (cl 21 (by decide)) i21 t21 l21 c21 k21 T21_ O21_ TB GL bL base
    | i + 22, hi => absurd hi (by omega)
  have T : Txt l.prog w K mg base c fI fdI := ⟨er⟩
  have mc : ∀ i, i < 24 → mg (names.getD i Str.empty) = some (.ref (c i)) := fun i hi => match i, hi with
    | 0, _ => at_ a0
    | 1, _ => at_ a1
    | 2, _ => at_ a2
    | 3, _ => at_ a3
    | 4, _ => at_ a4
    | 5, _ => at_ a5
    | 6, _ => at_ a6
    | 7, _ => at_ a7
    | 8, _ => at_ a8
    | 9, _ => at_ a9
    | 10, _ => at_ a10
    | 11, _ => at_ a11
    | 12, _ => at_ a12
    | 13, _ => at_ a13
    | 14, _ => at_ a14
    | 15, _ => at_ a15
    | 16, _ => at_ a16
    | 17, _ => at_ a17
    | 18, _ => at_ a18
    | 19, _ => at_ a19
    | 20, _ => at_ a20
    | 21, _ => at_ a21
    | 22, _ => at_ aU
    | 23, _ => at_ aD
    | i + 24, hi => absurd hi (by omega)
  have A' : Ans K c L := ⟨fun i hi => (cl i hi).ex, fun i hi => (cl i hi).xf, fun i hi => (cl i (by omega)).nv, fun i j hi hj => pairB_ok prs i j hi hj, fun i hi => (cl i hi).ba, fun i hi => (cl i hi).ve⟩
  have oMi : FnOk l.prog w K mg base CX0 1 gMi _ _ spMixed := ok_mixed GMi B
  have oDr : FnOk l.prog w K mg base CX0 2 gDr _ _ spDraw := ok_draw GDr B (at_ aMi) GMi bMi
  have oPs : FnOk l.prog w K mg base CX0 3 gPs _ _ (spPurses K) := ok_purses GPs B (at_ aPu) GPu bPu
  have oOo : FnOk l.prog w K mg base CX0 3 gOo _ _ (spOneOf K) := ok_oneof GOo B (at_ aDr) kDr oDr bDr
  have oWo : FnOk l.prog w K mg base CX0 4 gWo _ _ spWord := ok_word GWo B (at_ aDr) kDr oDr bDr
  have oFi : FnOk l.prog w K mg base CX0 4 gFi _ _ (spMade c) := ok_first GFi T
  have oCa : FnOk l.prog w K mg base CX0 4 gCa _ _ (spMade c) := ok_called GCa T
  have oBa : FnOk l.prog w K mg base CX0 4 gBa _ _ (spBare c) := ok_bare GBa T
  have oCo : FnOk l.prog w K mg base CX0 4 gCo _ _ (spCode K c) := ok_code GCo B (no z_isinstance) mc
  have oIe : FnOk l.prog w K mg base CX0 4 gIe _ _ (spIsErr K L) := ok_iserr GIe (no z_isinstance) (no z_ValueError) (at_ aL)
  have oRi : FnG l.prog w K mg base 5 gRi _ _ (spRight c) := ok_right GRi B (no z_repr) A' (at_ aCo) kCo oCo bCo (at_ aIe) kIe oIe bIe
  have oLe : FnOk l.prog w K mg base CX0 1 fL _ _ (spLE K) := ok_le GL TB
  have iC : ∀ i, 22 ≤ i → i < 25 → PySem.W.findIn K (.ref (c i)) "__init__" = some (some (.ref fL)) := fun i h1 h2 => by
    have h3 : i = 22 ∨ i = 23 ∨ i = 24 := by omega
    rcases h3 with rfl | rfl | rfl
    · exact iU
    · exact iD
    · exact iL
  exact ok_law (c := c) (fI := fI) (fdI := fdI) (L := L) (fL := fL) GLa B ⟨at_ aPs, kPs, oPs, bPs, at_ aOo, kOo, oOo, bOo, at_ aWo, kWo, oWo, bWo, at_ aFi, kFi, oFi, bFi, at_ aCa, kCa, oCa, bCa, at_ aBa, kBa, oBa, bBa,
    at_ aCo, kCo, oCo, bCo, at_ aIe, kIe, oIe, bIe, at_ aRi, kRi, oRi, bRi, oLe, bL, fun i hi => (cl i hi).ox, fun i hi => (cl i hi).wd, iC, tL, A', rfl, at_ aU, at_ aD, at_ aL, no z_isinstance, no z_repr, no z_all, no z_list, no z_dict, no z_tuple⟩
end My
end

open PySem PySem.W PyProof.Rows
set_option Elab.async false
set_option maxRecDepth 100000
set_option maxHeartbeats 0
open_top k01_head for PySem.Challenge.rw_lookdepths_k01_errors_made

set_option Elab.async false
set_option linter.all false
set_option maxRecDepth 100000
set_option maxHeartbeats 0
open PySem PySem.W PyProof.Rows
theorem PySem.Challenge.cw_lookdepths_k01_errors_made_holds : PySem.Challenge.rw_lookdepths_k01_errors_made.Holds :=
  k01_head (by
    k_fill
    refine My.walk (l := PySem.Challenge.rw_lookdepths_k01_errors_made) rfl rfl (fun w h Y => PySem.W.kIn_of Y) ?F
    case F =>
      intro w mg fa h KX G hmg
      refine' My.all_mk KX G hmg ?z_sum ?z_int ?z_max ?z_min ?z_len ?z_range ?z_isinstance ?z_repr ?z_all ?z_list ?z_dict ?z_tuple ?z_ValueError ?aL ?aU ?aD ?a0 ?a1 ?a2 ?a3 ?a4 ?a5 ?a6 ?a7 ?a8 ?a9 ?a10 ?a11 ?a12 ?a13 ?a14 ?a15 ?a16 ?a17 ?a18 ?a19 ?a20 ?a21 ?vV ?iL ?tL ?rdL ?gaL ?fvL ?iU ?iD ?hn ?ht ?n1 ?n2 ?n3 ?lLe ?cLe ?kLe ?i0 ?t0 ?l0 ?c0 ?k0 ?T0_ ?O0_ ?i1 ?t1 ?l1 ?c1 ?k1 ?T1_ ?O1_ ?i2 ?t2 ?l2 ?c2 ?k2 ?T2_ ?O2_ ?i3 ?t3 ?l3 ?c3 ?k3 ?T3_ ?O3_ ?i4 ?t4 ?l4 ?c4 ?k4 ?T4_ ?O4_ ?i5 ?t5 ?l5 ?c5 ?k5 ?T5_ ?O5_ ?i6 ?t6 ?l6 ?c6 ?k6 ?T6_ ?O6_ ?i7 ?t7 ?l7 ?c7 ?k7 ?T7_ ?O7_ ?i8 ?t8 ?l8 ?c8 ?k8 ?T8_ ?O8_ ?i9 ?t9 ?l9 ?c9 ?k9 ?T9_ ?O9_ ?i10 ?t10 ?l10 ?c10 ?k10 ?T10_ ?O10_ ?i11 ?t11 ?l11 ?c11 ?k11 ?T11_ ?O11_ ?i12 ?t12 ?l12 ?c12 ?k12 ?T12_ ?O12_ ?i13 ?t13 ?l13 ?c13 ?k13 ?T13_ ?O13_ ?i14 ?t14 ?l14 ?c14 ?k14 ?T14_ ?O14_ ?i15 ?t15 ?l15 ?c15 ?k15 ?T15_ ?O15_ ?i16 ?t16 ?l16 ?c16 ?k16 ?T16_ ?O16_ ?i17 ?t17 ?l17 ?c17 ?k17 ?T17_ ?O17_ ?i18 ?t18 ?l18 ?c18 ?k18 ?T18_ ?O18_ ?i19 ?t19 ?l19 ?c19 ?k19 ?T19_ ?O19_ ?i20 ?t20 ?l20 ?c20 ?k20 ?T20_ ?O20_ ?i21 ?t21 ?l21 ?c21 ?k21 ?T21_ ?O21_ ?aPu ?lPu ?cPu ?kPu ?aMi ?lMi ?cMi ?kMi ?aDr ?lDr ?cDr ?kDr ?aPs ?lPs ?cPs ?kPs ?aOo ?lOo ?cOo ?kOo ?aWo ?lWo ?cWo ?kWo ?aFi ?lFi ?cFi ?kFi ?aCa ?lCa ?cCa ?kCa ?aBa ?lBa ?cBa ?kBa ?aCo ?lCo ?cCo ?kCo ?aIe ?lIe ?cIe ?kIe ?aRi ?lRi ?cRi ?kRi ?aLa ?lLa ?cLa ?kLa ?chk ?prs
      (case z_sum => k_is)
      (case z_int => k_is)
      (case z_max => k_is)
      (case z_min => k_is)
      (case z_len => k_is)
      (case z_range => k_is)
      (case z_isinstance => k_is)
      (case z_repr => k_is)
      (case z_all => k_is)
      (case z_list => k_is)
      (case z_dict => k_is)
      (case z_tuple => k_is)
      (case z_ValueError => k_is)
      (case aL => k_is)
      (case aU => k_is)
      (case aD => k_is)
      (case a0 => k_is)
      (case a1 => k_is)
      (case a2 => k_is)
      (case a3 => k_is)
      (case a4 => k_is)
      (case a5 => k_is)
      (case a6 => k_is)
      (case a7 => k_is)
      (case a8 => k_is)
      (case a9 => k_is)
      (case a10 => k_is)
      (case a11 => k_is)
      (case a12 => k_is)
      (case a13 => k_is)
      (case a14 => k_is)
      (case a15 => k_is)
      (case a16 => k_is)
      (case a17 => k_is)
      (case a18 => k_is)
      (case a19 => k_is)
      (case a20 => k_is)
      (case a21 => k_is)
      (case vV => k_is)
      (case iL => k_is)
      (case tL => k_is)
      (case rdL => k_is)
      (case gaL => k_is)
      (case fvL => k_is)
      (case iU => k_is)
      (case iD => k_is)
      (case hn => k_is)
      (case ht => k_is)
      (case n1 => k_is)
      (case n2 => k_is)
      (case n3 => k_is)
      (case lLe => k_is)
      (case cLe => k_is)
      (case kLe => k_is)
      (case i0 => k_is)
      (case t0 => k_is)
      (case l0 => k_is)
      (case c0 => k_is)
      (case k0 => k_is)
      (case T0_ => k_is)
      (case O0_ => rfl)
      (case i1 => k_is)
      (case t1 => k_is)
      (case l1 => k_is)
      (case c1 => k_is)
      (case k1 => k_is)
      (case T1_ => k_is)
      (case O1_ => rfl)
      (case i2 => k_is)
      (case t2 => k_is)
      (case l2 => k_is)
      (case c2 => k_is)
      (case k2 => k_is)
      (case T2_ => k_is)
      (case O2_ => rfl)
      (case i3 => k_is)
      (case t3 => k_is)
      (case l3 => k_is)
      (case c3 => k_is)
      (case k3 => k_is)
      (case T3_ => k_is)
      (case O3_ => rfl)
      (case i4 => k_is)
      (case t4 => k_is)
      (case l4 => k_is)
      (case c4 => k_is)
      (case k4 => k_is)
      (case T4_ => k_is)
      (case O4_ => rfl)
      (case i5 => k_is)
      (case t5 => k_is)
      (case l5 => k_is)
      (case c5 => k_is)
      (case k5 => k_is)
      (case T5_ => k_is)
      (case O5_ => rfl)
      (case i6 => k_is)
      (case t6 => k_is)
      (case l6 => k_is)
      (case c6 => k_is)
      (case k6 => k_is)
      (case T6_ => k_is)
      (case O6_ => rfl)
      (case i7 => k_is)
      (case t7 => k_is)
      (case l7 => k_is)
      (case c7 => k_is)
      (case k7 => k_is)
      (case T7_ => k_is)
      (case O7_ => rfl)
      (case i8 => k_is)
      (case t8 => k_is)
      (case l8 => k_is)
      (case c8 => k_is)
      (case k8 => k_is)
      (case T8_ => k_is)
      (case O8_ => rfl)
      (case i9 => k_is)
      (case t9 => k_is)
      (case l9 => k_is)
      (case c9 => k_is)
      (case k9 => k_is)
      (case T9_ => k_is)
      (case O9_ => rfl)
      (case i10 => k_is)
      (case t10 => k_is)
      (case l10 => k_is)
      (case c10 => k_is)
      (case k10 => k_is)
      (case T10_ => k_is)
      (case O10_ => rfl)
      (case i11 => k_is)
      (case t11 => k_is)
      (case l11 => k_is)
      (case c11 => k_is)
      (case k11 => k_is)
      (case T11_ => k_is)
      (case O11_ => rfl)
      (case i12 => k_is)
      (case t12 => k_is)
      (case l12 => k_is)
      (case c12 => k_is)
      (case k12 => k_is)
      (case T12_ => k_is)
      (case O12_ => rfl)
      (case i13 => k_is)
      (case t13 => k_is)
      (case l13 => k_is)
      (case c13 => k_is)
      (case k13 => k_is)
      (case T13_ => k_is)
      (case O13_ => rfl)
      (case i14 => k_is)
      (case t14 => k_is)
      (case l14 => k_is)
      (case c14 => k_is)
      (case k14 => k_is)
      (case T14_ => k_is)
      (case O14_ => rfl)
      (case i15 => k_is)
      (case t15 => k_is)
      (case l15 => k_is)
      (case c15 => k_is)
      (case k15 => k_is)
      (case T15_ => k_is)
      (case O15_ => rfl)
      (case i16 => k_is)
      (case t16 => k_is)
      (case l16 => k_is)
      (case c16 => k_is)
      (case k16 => k_is)
      (case T16_ => k_is)
      (case O16_ => rfl)
      (case i17 => k_is)
      (case t17 => k_is)
      (case l17 => k_is)
      (case c17 => k_is)
      (case k17 => k_is)
      (case T17_ => k_is)
      (case O17_ => rfl)
      (case i18 => k_is)
      (case t18 => k_is)
      (case l18 => k_is)
      (case c18 => k_is)
      (case k18 => k_is)
      (case T18_ => k_is)
      (case O18_ => rfl)
      (case i19 => k_is)
      (case t19 => k_is)
      (case l19 => k_is)
      (case c19 => k_is)
      (case k19 => k_is)
      (case T19_ => k_is)
      (case O19_ => rfl)
      (case i20 => k_is)
      (case t20 => k_is)
      (case l20 => k_is)
      (case c20 => k_is)
      (case k20 => k_is)
      (case T20_ => k_is)
      (case O20_ => rfl)
      (case i21 => k_is)
      (case t21 => k_is)
      (case l21 => k_is)
      (case c21 => k_is)
      (case k21 => k_is)
      (case T21_ => k_is)
      (case O21_ => rfl)
      (case aPu => k_is)
      (case lPu => k_is)
      (case cPu => k_is)
      (case kPu => k_is)
      (case aMi => k_is)
      (case lMi => k_is)
      (case cMi => k_is)
      (case kMi => k_is)
      (case aDr => k_is)
      (case lDr => k_is)
      (case cDr => k_is)
      (case kDr => k_is)
      (case aPs => k_is)
      (case lPs => k_is)
      (case cPs => k_is)
      (case kPs => k_is)
      (case aOo => k_is)
      (case lOo => k_is)
      (case cOo => k_is)
      (case kOo => k_is)
      (case aWo => k_is)
      (case lWo => k_is)
      (case cWo => k_is)
      (case kWo => k_is)
      (case aFi => k_is)
      (case lFi => k_is)
      (case cFi => k_is)
      (case kFi => k_is)
      (case aCa => k_is)
      (case lCa => k_is)
      (case cCa => k_is)
      (case kCa => k_is)
      (case aBa => k_is)
      (case lBa => k_is)
      (case cBa => k_is)
      (case kBa => k_is)
      (case aCo => k_is)
      (case lCo => k_is)
      (case cCo => k_is)
      (case kCo => k_is)
      (case aIe => k_is)
      (case lIe => k_is)
      (case cIe => k_is)
      (case kIe => k_is)
      (case aRi => k_is)
      (case lRi => k_is)
      (case cRi => k_is)
      (case kRi => k_is)
      (case aLa => k_is)
      (case lLa => k_is)
      (case cLa => k_is)
      (case kLa => k_is)
      (case chk => kernel_rfl)
      (case prs => kernel_rfl))
