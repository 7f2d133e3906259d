import PyProof.Rows.All
import Wide.All
import OpenK.AllK
import Wide.FinOn
import HandS.ForMost
import HandS.Strs
import HandS.SetFor
import HandS.SetTxt0
import HandS.More
import HandS.Walk
import HandS.Zip
import HandS.TupAny
import HandS.IsInst
import HandS.StrMore
import HandS.WideBits
import KE.KxText
import KE.KDictList
import PyProof.StrBlock2
import PyProof.ListStr
import HandS.Style
import HandS.Sort
import KE.LtSeq
import HandS.DictTup
import HandS.MapObj
import KE.KDictItemsList
import KE.KDictZip
import PySem.Challenge.RW_lookdepths_k03_whole_clauses
section
set_option Elab.async false
set_option linter.all false
set_option maxRecDepth 100000
set_option maxHeartbeats 4000000
namespace MyS
open PySem PySem.Spec PyProof.Rows PySem.Froz L2
/-- the payload D holds the texts L, each once; its table rises and can be walked -/
structure Dk (P : Program) (w : World) (D : SD) (L : List Str) : Prop where
  ok : TxOk P w D L
  nd : L.Nodup
  ris : Ris D.2.2.place.toList
  led : w.params.followText "set-order" = true ∨ D.2.2.led = true
theorem tail_walk {w : World} {ep : Nat} {es : Array (Int × Value)} {t : SetTable} {b : Bool} (r : Ris t.place.toList) (l : w.params.followText "set-order" = true ∨ t.led = true) :
    Ris (tailTx ep es t b).2.2.place.toList ∧ (w.params.followText "set-order" = true ∨ (tailTx ep es t b).2.2.led = true) := by
  unfold tailTx
  split
  · exact ⟨relayAll_ris t es _, l.imp id fun z => (relayAll_led t es _).trans z⟩
  · exact ⟨r, l⟩
theorem Dk.add {P : Program} {w : World} {D : SD} {L : List Str} {k : Str} (u : Tok) (F : Dk P w D L) (hk : k ∉ L) : Dk P w (addTx (hashStr w k) (.str k u) D) (k :: L) := by
  obtain ⟨es, ep, t⟩ := D
  have r1 := layNew_ris t es (hashStr w k) (.str k u) F.ris
  have l1 : w.params.followText "set-order" = true ∨ (layNew t es (hashStr w k) (.str k u)).2.1.led = true := F.led.imp id fun z => (layNew_led t es _ _).trans z
  have q : Ris (addTx (hashStr w k) (.str k u) (es, ep, t)).2.2.place.toList ∧ (w.params.followText "set-order" = true ∨ (addTx (hashStr w k) (.str k u) (es, ep, t)).2.2.led = true) := by
    unfold addTx
    refine tail_walk ?_ ?_
    · dsimp only
      split
      · exact r1
      · exact r1
    · dsimp only
      split
      · exact l1
      · exact l1
  exact ⟨add_ok u F.ok, List.nodup_cons.mpr ⟨hk, F.nd⟩, q.1, q.2⟩
theorem dk_fresh {P : Program} {w : World} : Dk P w (#[], 0, .fresh 0 0 (!w.params.followText "set-order")) [] where
  ok := TxOk.nil (by rfl)
  nd := List.nodup_nil
  ris := List.Pairwise.nil
  led := by
    show _ ∨ (!w.params.followText "set-order") = true
    cases w.params.followText "set-order"
    · exact .inr rfl
    · exact .inl rfl
section
variable {P : Program} {w : World} {A : Around} {E : Value → Shared → Prop} {s : Shared}
/-- a text that is in is not laid again -/
theorem add_in {a : Addr} {T : String} {D : SD} {l : List Str} {k : Str} {u : Tok} {Q : Bool → Shared → Prop} (ho : s.heap.get? a = some (sObj T D)) (F : TxOk P w D l) (hk : k ∈ l) (hb : l.length < scanBound)
    (h : Q false s) : wpAny (model P w) A (setAddHashed a (.str k u) (hashStr w k)) Q E s := by
  obtain ⟨es, ep, t⟩ := D
  have z : es.size < scanBound := Nat.lt_of_le_of_lt (Nat.le_of_eq F.sz) hb
  obtain ⟨e, he, pe⟩ := (F.mem k).mp hk
  unfold setAddHashed setAddHashedIn
  refine wpAny_holding (wpAny_bind (wpAny_setState_of (es := es) (ep := ep) (t := t) ho rfl F.fit ?_))
  simp only [byScan_of (x := Value.str k u) rfl z F.el, ↓reduceIte]
  unfold setAddByScan
  refine wpAny_bind (wpAny_bind (wpAny_rule (wpAny_bind (wpAny_setScan_of (knd := strKind P w) (k := k) (is_str k u) ho rfl F.fit F.el ?_))))
  cases hf : List.findIdx? (fun e => (strKind P w).is k e.2) es.toList with
  | some j => exact wpAny_pure (wpAny_pure h)
  | none =>
    have c := List.findIdx?_eq_none_iff.mp hf e he
    rw [pe] at c
    cases c
/-- a text comes to a set, new or not -/
theorem add_any {a : Addr} {D : SD} {L : List Str} {k : Str} {u : Tok} {Q : Bool → Shared → Prop} (ho : s.heap.get? a = some (sObj "set" D)) (F : Dk P w D L) (hb : L.length + 1 < scanBound)
    (h : ∀ (b : Bool) (h' : Heap) (D' : SD) (L' : List Str), Heap.SameBut a s.heap h' → h'.get? a = some (sObj "set" D') → Dk P w D' L' → (∀ y, y ∈ L' ↔ y ∈ L ∨ y = k) → L'.length ≤ L.length + 1 → Q b { s with heap := h' }) :
    wpAny (model P w) A (setAddHashed a (.str k u) (hashStr w k)) Q E s := by
  by_cases hk : k ∈ L
  · refine add_in ho F.ok hk (by omega) (h false s.heap D L (Heap.SameBut.refl a s.heap) ho F (fun y => ⟨.inl, fun z => z.elim id fun e => e ▸ hk⟩) (by omega))
  · refine add_x ho F.ok hk hb (h true _ _ (k :: L) (Heap.SameBut.update s.heap a _) (get_upd _ ho rfl) (F.add u hk) (fun y => by rw [List.mem_cons]; exact Or.comm) (by rw [List.length_cons]; omega))
/-- what a walk gives, all texts, comes to a set -/
theorem upd_loop {I : Addr} {fp wr : List Addr} {G : Array GenState → Array GenState → Prop} {n : Nat} {Pv : Nat → Value → Prop} {St : Nat → Shared → Prop} {R : Result → Shared → Prop}
    (W : WalksS P w A.in1 I fp wr G n Pv St) (S : Addr) (nf : S ∉ fp) (ys : List Str) (hb : n + 1 < scanBound) (hv : ∀ i v, Pv i v → ∃ k t, ys[i]? = some k ∧ v = Value.str k t) :
    ∀ (m i : Nat) (s : Shared) (D : SD) (L : List Str), i + m = n → St i s → s.heap.get? S = some (sObj "set" D) → Dk P w D L → (∀ y, y ∈ L ↔ y ∈ ys.take i) → L.length ≤ i →
      (∀ s' D' L', Moved (S :: wr) G s s' → s'.heap.get? S = some (sObj "set" D') → Dk P w D' L' → (∀ y, y ∈ L' ↔ y ∈ ys.take n) → L'.length ≤ n → R (.ok (.ret .none)) s') →
      codeAny (model P w) A (.builtin "set.update.loop" ⟨[.ref S, .ref I], []⟩) R s := by
  have nw : S ∉ wr := fun h => nf (W.sub _ h)
  have up : ∀ b ∈ wr, b ∈ S :: wr := fun b hb => List.mem_cons_of_mem _ hb
  intro m
  induction m with
  | zero =>
    rintro i s D L rfl hst ho F hm hl fin
    refine codeAny_builtin PyProof.Rows.F.entry_set_update_loop ?_
    rw [Around.under_plainId PyProof.Rows.F.plain_set_update_loop _]
    refine wpAny_bind (m := pyNext (.ref I)) (W.done s _ _ hst fun s' mv => wpAny_pure (fin s' D L (mv.mono up) (mv.heap S _ nw ho) F hm hl))
  | succ m ih =>
    intro i s D L hi hst ho F hm hl fin
    refine codeAny_builtin PyProof.Rows.F.entry_set_update_loop ?_
    rw [Around.under_plainId PyProof.Rows.F.plain_set_update_loop _]
    refine wpAny_bind (m := pyNext (.ref I)) (W.item i s _ _ (by omega) hst fun v s1 hp st1 mv => ?_)
    obtain ⟨k, t, hk, rfl⟩ := hv i v hp
    refine wpAny_bind (m := holding [Value.str k t] (setAdd S (.str k t))) (wpAny_holding ?_)
    unfold setAdd
    refine wpAny_holding (wpAny_bind ((strKind P w).pyHash (k := k) (is_str k t) ?_))
    refine add_any (s := { s1 with toks := s1.toks + 1 }) (D := D) (L := L) (mv.heap S _ nw ho) F (by omega) fun b h2 D2 L2 sb ho2 F2 hm2 hl2 => ?_
    refine wpAny_pure ⟨plainId_quiet PyProof.Rows.F.plain_set_update_loop _, ih (i + 1) _ D2 L2 (by omega) (W.frame _ s1 _ _ st1 (Nat.le_succ _) fun b hb o e => (sb.2 b fun z => nf (z ▸ hb)).trans e) ho2 F2 (fun y => ?_) (by omega) fun s3 D3 L3 mv3 ho3 F3 hm3 hl3 => ?_⟩
    · rw [hm2, hm, List.take_add_one, hk, List.mem_append]
      simp
    · exact fin s3 D3 L3 (Moved.trans W.gtrans ((mv.mono up).then_heap (Nat.le_succ _) fun b o hb e => (sb.2 b fun z => hb (z ▸ List.mem_cons_self)).trans e) mv3) ho3 F3 hm3 hl3
/-- the heap with a new empty set -/
abbrev hSet (w : World) (h : Heap) : Heap := h.push (sObj "set" (#[], 0, .fresh 0 0 (!w.params.followText "set-order")))

/-- the set's filling from a list -/
theorem fill_list {S l : Addr} {items : Array Value} {ys : List Str} {Q : Shared → Prop} (hh : A.handled = none) (hS : s.heap.get? S = some (sObj "set" (#[], 0, .fresh 0 0 (!w.params.followText "set-order")))) (hl : s.heap.IsList l items) (ne : S ≠ l)
    (hi : ∀ (i : Nat) (v : Value), items[i]? = some v → ∃ k t, ys[i]? = some k ∧ v = Value.str k t) (hz : items.size = ys.length) (hb : ys.length + 1 < scanBound)
    (h : ∀ s' D L, (∀ b o, b ≠ S → s.heap.get? b = some o → s'.heap.get? b = some o) → s'.gens = s.gens → s'.drawn = s.drawn → s'.os = s.os → s'.heap.get? S = some (sObj "set" D) → Dk P w D L → (∀ y, y ∈ L ↔ y ∈ ys) → L.length ≤ ys.length → Q s') :
    wpAny (model P w) A (Builtin.Frozenset.updateFrom "set.__init__" S (.ref l)) (fun _ s' => Q s') E s := by
  obtain ⟨⟨cls, dict, data, slots⟩, hol, hcl, nl, hdl⟩ := id hl
  simp only at hcl hdl
  subst hcl; subst hdl
  have f1 := F.sub_list_set
  have f2 := F.sub_list_frozenset
  have f3 : (Value.type "list" == Value.type "dict") = false := by decide
  have big : S < s.heap.objs.size := Heap.lt_size hS
  have lbig : l < s.heap.objs.size := Heap.lt_size hol
  unfold Builtin.Frozenset.updateFrom
  generalize hPI : pyIter = PI
  wp_walk
  subst hPI
  refine wpAny_pyIter_list hl ?_
  refine wpAny_bind (wpAny_runValue ?_)
  have hI : l ≠ s.heap.objs.size := Nat.ne_of_lt lbig
  refine upd_loop ((Walks.list (A := A.in1) hh s.heap.objs.size l hI items).toS) S (by
    simp only [List.mem_cons, List.not_mem_nil, or_false, not_or]
    exact ⟨Nat.ne_of_lt big, ne⟩) ys (by rw [hz]; exact hb) hi items.size 0 _ (#[], 0, .fresh 0 0 (!w.params.followText "set-order")) [] (Nat.zero_add _) ⟨⟨_, Heap.get?_push_size _ rfl, rfl, rfl⟩, hl.push _⟩ (Heap.get?_push_of_some _ hS) dk_fresh
    (fun y => by simp) (Nat.le_refl _) fun s' D L mv ho F hm hn => ?_
  refine wpAny_pure (h s' D L (fun b o hb e => mv.heap b o (fun z => ?_) (Heap.get?_push_of_some _ e)) mv.gens mv.drawn mv.os ho F (fun y => ?_) (by rw [← hz]; exact hn))
  · rcases List.mem_cons.mp z with z | z
    · exact hb z
    · rw [List.mem_singleton] at z
      exact absurd z (Nat.ne_of_lt (Heap.lt_size e))
  · rw [hm, hz, List.take_length]

/-- set(xs) of a list of texts -/
theorem set_of_list {l : Addr} {items : Array Value} {ys : List Str} {Q : Value → Shared → Prop} (hh : A.handled = none) (hl : s.heap.IsList l items) (hi : ∀ (i : Nat) (v : Value), items[i]? = some v → ∃ k t, ys[i]? = some k ∧ v = Value.str k t)
    (hz : items.size = ys.length) (hb : ys.length + 1 < scanBound)
    (h : ∀ s' D L, (∀ b o, s.heap.get? b = some o → s'.heap.get? b = some o) → s'.gens = s.gens → s'.drawn = s.drawn → s'.os = s.os → s'.heap.get? s.heap.objs.size = some (sObj "set" D) → Dk P w D L → (∀ y, y ∈ L ↔ y ∈ ys) → L.length ≤ ys.length →
      Q (.ref s.heap.objs.size) s') : wpAny (model P w) A (call (.type "set") [.ref l]) Q E s := by
  obtain ⟨c, tl, mro⟩ := F.called_set.mro
  have g1 := F.called_set.made
  have g2 := F.called_set.sub
  have g3 := F.called_set.notType
  have g4 := F.called_set.canCreate
  have g5 := F.typeCall_set_1 (.ref l)
  refine wpAny_call (codeAny_of_tree (wpAny_pure (M := model P w) (A := A.in1) (a := _) ⟨Code.quiet_builtin _ (by decide +kernel), codeAny_builtin F.entry_type_call ?_⟩))
  rw [Around.under_plain (weight_type_call_type "set" [.ref l] []) rfl]
  repeat (any_goals (first | assumption | wp_step))
  refine codeAny_mono (code_set_led1 (.ref l) (E := E) (Q₁ := fun u s1 => u = .ref s.heap.objs.size ∧ s1 = { s with heap := hSet w s.heap }) ⟨rfl, rfl⟩) fun r s1 z => ?_
  match r, z with
  | .ok (.ret u), ⟨e1, e2⟩ =>
    subst e1; subst e2
    have hS : (hSet w s.heap).get? s.heap.objs.size = some (sObj "set" (#[], 0, .fresh 0 0 (!w.params.followText "set-order"))) := Heap.get?_push_size _ rfl
    have g6 := F.called_set.init.lookup
    have g7 := F.called_set.init.bind (.ref s.heap.objs.size)
    have ty : Shared.TypeIs { s with heap := hSet w s.heap } (.ref s.heap.objs.size) "set" := ⟨_, hS, rfl⟩
    repeat (any_goals (first | assumption | wp_step))
    refine codeAny_mono (codeAny_call_builtin (R := wants (fun u s2 => u = .none ∧ Q (.ref s.heap.objs.size) s2) E) F.called_set.init.plain F.entry_set_init (check_set_init_1 ty ?_)) fun r2 s2 z2 => ?_
    · obtain ⟨⟨cls, dict, data, slots⟩, hol, rest⟩ := id hl
      have lne : s.heap.objs.size ≠ l := Nat.ne_of_gt (Heap.lt_size hol)
      unfold Builtin.«set.__init__» noKeywords
      generalize hUF : Builtin.Frozenset.updateFrom = UF
      wp_walk
      subst hUF
      refine fill_list (s := { s with heap := hSet w s.heap }) hh hS (hl.push _) lne hi hz hb fun s' D L keep e1 e2 e3 ho F hm hn => ?_
      repeat (any_goals (first | assumption | wp_step))
      exact ⟨rfl, h s' D L (fun b o e => keep b o (Nat.ne_of_lt (Heap.lt_size e)) (Heap.get?_push_of_some _ e)) e1 e2 e3 ho F hm hn⟩
    · match r2, z2 with
      | .ok (.ret u2), ⟨e3, q⟩ =>
        repeat (any_goals (first | assumption | wp_step))
      | .error e, z2 => exact z2
  | .error e, z => exact z

/-- the set's filling from a tuple -/
theorem fill_tuple {S l : Addr} {items : Array Value} {ys : List Str} {Q : Shared → Prop} (hh : A.handled = none) (hS : s.heap.get? S = some (sObj "set" (#[], 0, .fresh 0 0 (!w.params.followText "set-order")))) (hl : s.heap.IsTuple l items) (ne : S ≠ l)
    (hi : ∀ (i : Nat) (v : Value), items[i]? = some v → ∃ k t, ys[i]? = some k ∧ v = Value.str k t) (hz : items.size = ys.length) (hb : ys.length + 1 < scanBound)
    (h : ∀ s' D L, (∀ b o, b ≠ S → s.heap.get? b = some o → s'.heap.get? b = some o) → s'.gens = s.gens → s'.drawn = s.drawn → s'.os = s.os → s'.heap.get? S = some (sObj "set" D) → Dk P w D L → (∀ y, y ∈ L ↔ y ∈ ys) → L.length ≤ ys.length → Q s') :
    wpAny (model P w) A (Builtin.Frozenset.updateFrom "set.__init__" S (.ref l)) (fun _ s' => Q s') E s := by
  obtain ⟨⟨cls, dict, data, slots⟩, hol, hcl, nl, hdl⟩ := id hl
  simp only at hcl hdl
  subst hcl; subst hdl
  have f1 := F.sub_tuple_set
  have f2 := F.sub_tuple_frozenset
  have f3 : (Value.type "tuple" == Value.type "dict") = false := by decide
  have big : S < s.heap.objs.size := Heap.lt_size hS
  have lbig : l < s.heap.objs.size := Heap.lt_size hol
  unfold Builtin.Frozenset.updateFrom
  generalize hPI : pyIter = PI
  wp_walk
  subst hPI
  refine wpAny_pyIter_tuple hl ?_
  refine wpAny_bind (wpAny_runValue ?_)
  have hI : l ≠ s.heap.objs.size := Nat.ne_of_lt lbig
  refine upd_loop ((Walks.tuple (A := A.in1) hh s.heap.objs.size l hI items).toS) S (by
    simp only [List.mem_cons, List.not_mem_nil, or_false, not_or]
    exact ⟨Nat.ne_of_lt big, ne⟩) ys (by rw [hz]; exact hb) hi items.size 0 _ (#[], 0, .fresh 0 0 (!w.params.followText "set-order")) [] (Nat.zero_add _) ⟨⟨_, Heap.get?_push_size _ rfl, rfl, rfl⟩, hl.push _⟩ (Heap.get?_push_of_some _ hS) dk_fresh
    (fun y => by simp) (Nat.le_refl _) fun s' D L mv ho F hm hn => ?_
  refine wpAny_pure (h s' D L (fun b o hb e => mv.heap b o (fun z => ?_) (Heap.get?_push_of_some _ e)) mv.gens mv.drawn mv.os ho F (fun y => ?_) (by rw [← hz]; exact hn))
  · rcases List.mem_cons.mp z with z | z
    · exact hb z
    · rw [List.mem_singleton] at z
      exact absurd z (Nat.ne_of_lt (Heap.lt_size e))
  · rw [hm, hz, List.take_length]

/-- set(xs) of a tuple of texts -/
theorem set_of_tuple {l : Addr} {items : Array Value} {ys : List Str} {Q : Value → Shared → Prop} (hh : A.handled = none) (hl : s.heap.IsTuple l items) (hi : ∀ (i : Nat) (v : Value), items[i]? = some v → ∃ k t, ys[i]? = some k ∧ v = Value.str k t)
    (hz : items.size = ys.length) (hb : ys.length + 1 < scanBound)
    (h : ∀ s' D L, (∀ b o, s.heap.get? b = some o → s'.heap.get? b = some o) → s'.gens = s.gens → s'.drawn = s.drawn → s'.os = s.os → s'.heap.get? s.heap.objs.size = some (sObj "set" D) → Dk P w D L → (∀ y, y ∈ L ↔ y ∈ ys) → L.length ≤ ys.length →
      Q (.ref s.heap.objs.size) s') : wpAny (model P w) A (call (.type "set") [.ref l]) Q E s := by
  obtain ⟨c, tl, mro⟩ := F.called_set.mro
  have g1 := F.called_set.made
  have g2 := F.called_set.sub
  have g3 := F.called_set.notType
  have g4 := F.called_set.canCreate
  have g5 := F.typeCall_set_1 (.ref l)
  refine wpAny_call (codeAny_of_tree (wpAny_pure (M := model P w) (A := A.in1) (a := _) ⟨Code.quiet_builtin _ (by decide +kernel), codeAny_builtin F.entry_type_call ?_⟩))
  rw [Around.under_plain (weight_type_call_type "set" [.ref l] []) rfl]
  repeat (any_goals (first | assumption | wp_step))
  refine codeAny_mono (code_set_led1 (.ref l) (E := E) (Q₁ := fun u s1 => u = .ref s.heap.objs.size ∧ s1 = { s with heap := hSet w s.heap }) ⟨rfl, rfl⟩) fun r s1 z => ?_
  match r, z with
  | .ok (.ret u), ⟨e1, e2⟩ =>
    subst e1; subst e2
    have hS : (hSet w s.heap).get? s.heap.objs.size = some (sObj "set" (#[], 0, .fresh 0 0 (!w.params.followText "set-order"))) := Heap.get?_push_size _ rfl
    have g6 := F.called_set.init.lookup
    have g7 := F.called_set.init.bind (.ref s.heap.objs.size)
    have ty : Shared.TypeIs { s with heap := hSet w s.heap } (.ref s.heap.objs.size) "set" := ⟨_, hS, rfl⟩
    repeat (any_goals (first | assumption | wp_step))
    refine codeAny_mono (codeAny_call_builtin (R := wants (fun u s2 => u = .none ∧ Q (.ref s.heap.objs.size) s2) E) F.called_set.init.plain F.entry_set_init (check_set_init_1 ty ?_)) fun r2 s2 z2 => ?_
    · obtain ⟨⟨cls, dict, data, slots⟩, hol, rest⟩ := id hl
      have lne : s.heap.objs.size ≠ l := Nat.ne_of_gt (Heap.lt_size hol)
      unfold Builtin.«set.__init__» noKeywords
      generalize hUF : Builtin.Frozenset.updateFrom = UF
      wp_walk
      subst hUF
      refine fill_tuple (s := { s with heap := hSet w s.heap }) hh hS (hl.push _) lne hi hz hb fun s' D L keep e1 e2 e3 ho F hm hn => ?_
      repeat (any_goals (first | assumption | wp_step))
      exact ⟨rfl, h s' D L (fun b o e => keep b o (Nat.ne_of_lt (Heap.lt_size e)) (Heap.get?_push_of_some _ e)) e1 e2 e3 ho F hm hn⟩
    · match r2, z2 with
      | .ok (.ret u2), ⟨e3, q⟩ =>
        repeat (any_goals (first | assumption | wp_step))
      | .error e, z2 => exact z2
  | .error e, z => exact z
end
end MyS
end

section
set_option Elab.async false
set_option linter.all false
set_option maxRecDepth 100000
set_option maxHeartbeats 4000000
namespace MyS
open PySem PySem.Spec PyProof.Rows PySem.Froz L2
/-- the set of the texts L at a, in no order -/
def SetTx (P : Program) (w : World) (a : Addr) (L : List Str) : HO := .ext fun h => ∃ D, h.get? a = some (sObj "set" D) ∧ Dk P w D L
theorem settx_ok {P : Program} {w : World} {H : Hp} {h : Heap} {a : Addr} {L : List Str} (R : ∃ D, h.get? a = some (sObj "set" D) ∧ Dk P w D L) : ObjOk P w H h a (SetTx P w a L) := by
  obtain ⟨D, ho, F⟩ := id R
  exact ⟨R, ⟨_, ho⟩, fun h1 h2 p k => by
    obtain ⟨D2, ho2, F2⟩ := p
    exact ⟨D2, k _ ho2, F2⟩⟩
theorem elems_strs : ∀ {l : List Value}, (∀ v ∈ l, ∃ k t, v = Value.str k t) → ∃ ss : List Str, StrsAre l ss
  | [], _ => ⟨[], .nil⟩
  | v :: l, h => by
    obtain ⟨k, t, rfl⟩ := h v (List.mem_cons_self ..)
    obtain ⟨ss, hs⟩ := elems_strs fun u hu => h u (List.mem_cons_of_mem _ hu)
    exact ⟨k :: ss, .cons k t hs⟩
theorem is_of {P : Program} {w : World} {k : Str} {v : Value} (h : (strKind P w).is k v = true) : ∃ t, v = Value.str k t := Value.isStrOf_shape (x := k) (v := v) h
theorem perm_of_sub : ∀ {L ss : List Str}, L.Nodup → (∀ y, y ∈ L → y ∈ ss) → ss.length ≤ L.length → L.Perm ss
  | [], ss, _, _, h => by
    have e : ss = [] := List.eq_nil_of_length_eq_zero (Nat.le_zero.mp h)
    rw [e]
  | x :: L, ss, n, m, h => by
    obtain ⟨n1, n2⟩ := List.nodup_cons.mp n
    have hx := m x (List.mem_cons_self ..)
    have hz := List.length_erase_of_mem hx
    rw [List.length_cons] at h
    have q := perm_of_sub (ss := ss.erase x) n2 (fun y hy => (List.mem_erase_of_ne fun (e : y = x) => n1 (e ▸ hy)).mpr (m y (List.mem_cons_of_mem _ hy))) (by omega)
    exact (q.cons x).trans (List.perm_cons_erase hx).symm
theorem strs_mem : ∀ {l : List Value} {ss : List Str}, StrsAre l ss → ∀ {y : Str} {t : Tok}, Value.str y t ∈ l → y ∈ ss
  | _, _, .nil, y, t, h => by cases h
  | _, _, .cons k u r, y, t, h => by
    rcases List.mem_cons.mp h with z | z
    · injection z with z1 z2
      rw [z1]
      exact List.mem_cons_self ..
    · exact List.mem_cons_of_mem _ (strs_mem r z)
section
variable {X : Cx}
theorem seq_vals {ys : List Str} {its : List Value} (r : Vals (ys.map V.str) its) : (∀ (i : Nat) (v : Value), its.toArray[i]? = some v → ∃ k t, ys[i]? = some k ∧ v = Value.str k t) ∧ its.toArray.size = ys.length := by
  have hl : its.toArray.size = ys.length := by rw [List.size_toArray, ← r.length, List.length_map]
  refine ⟨fun i v hv => ?_, hl⟩
  have hi : i < ys.length := by rw [← hl]; exact (Array.getElem?_eq_some_iff.mp hv).1
  obtain ⟨u, hu, t, e⟩ := r.get (i := i) (x := .str ys[i]) (by simp [hi])
  have e2 : its[i]? = some v := by simpa using hv
  rw [hu] at e2
  cases e2
  exact ⟨ys[i], t, List.getElem?_eq_getElem hi, e⟩
theorem inv_back {pins : List (Addr × Obj)} {σ : L2.St} {H : Hp} {s s' : Shared} {a : Addr} {o : HO} (I : Inv X pins σ H s) (k : ∀ b u, s.heap.get? b = some u → s'.heap.get? b = some u) (g : s'.gens = s.gens) (os : s'.os = s.os)
    (la : s.heap.objs.size ≤ a) (ok : ObjOk X.prog X.w (upd H a o) s'.heap a o) : Inv X pins σ (upd H a o) s' := by
  have J : Inv X pins σ (upd H a o) { heap := s'.heap, gens := s'.gens, drawn := s'.drawn, toks := s'.toks, os := s.os } :=
    I.call (ch := []) (Un.laid k la (I.hok.fresh la)) (I.hok.laid k la ok) (by rw [g]; exact I.bare) (fun _ z => nomatch z)
  cases s'
  cases os
  exact J
/-- set(xs) of a list or a tuple of texts -/
def rSetTx (K : PySem.W.Frag) (P : Program) (w : World) : List V → Hp → VK → Prop := fun xs H Q => ∃ (l : Addr) (ys : List Str), xs = [V.ref l] ∧ (SqL K H l (ys.map V.str) ∨ SqT K H l (ys.map V.str)) ∧ ys.length + 1 < 4096 ∧
  ∀ a L, H a = none → L.Nodup → (∀ y, y ∈ L ↔ y ∈ ys) → L.length ≤ ys.length → Q (.ref a) (upd H a (SetTx P w a L))
theorem cr_setTx (hc : X.calm = true) : CallR X (.type "set") (rSetTx X.K X.prog X.w) := by
  intro pins s σ H xs us Q I r h
  obtain ⟨l, ys, rfl, hl, hb, q⟩ := h
  rw [Vals.ref1 r]
  have fin : ∀ s' D L, (∀ b o, s.heap.get? b = some o → s'.heap.get? b = some o) → s'.gens = s.gens → s'.drawn = s.drawn → s'.os = s.os → s'.heap.get? s.heap.objs.size = some (sObj "set" D) → Dk X.prog X.w D L → (∀ y, y ∈ L ↔ y ∈ ys) → L.length ≤ ys.length →
      EP X pins σ Q (.ref s.heap.objs.size) s' := fun s' D L k g d os ho F hm hn =>
    ⟨.ref _, _, inv_back I k g os (Nat.le_refl _) (settx_ok ⟨D, ho, F⟩), rfl, q _ L (I.hok.fresh (Nat.le_refl _)) F.nd hm hn⟩
  rcases hl with hl | hl
  · obtain ⟨its, rv, pl, hz⟩ := I.list hl
    exact set_of_list (I.ok.hd hc) pl.isList (seq_vals rv).1 (seq_vals rv).2 hb fin
  · obtain ⟨its, rv, pl, hz⟩ := I.tuple hl
    exact set_of_tuple (I.ok.hd hc) pl (seq_vals rv).1 (seq_vals rv).2 hb fin
theorem settx_at {pins : List (Addr × Obj)} {σ : L2.St} {H : Hp} {s : Shared} {a : Addr} {L : List Str} (I : Inv X pins σ H s) (ha : H a = some (SetTx X.prog X.w a L)) : ∃ D, s.heap.get? a = some (sObj "set" D) ∧ Dk X.prog X.w D L := (I.hok a _ ha).1
/-- the payload's texts, in its own order -/
theorem dk_texts {P : Program} {w : World} {D : SD} {L : List Str} (F : Dk P w D L) : ∃ ss, StrsAre (D.1.toList.map (·.2)) ss ∧ ss.Perm L := by
  obtain ⟨ss, hs⟩ := elems_strs (l := D.1.toList.map (·.2)) fun v hv => by
    obtain ⟨e, he, rfl⟩ := List.mem_map.mp hv
    obtain ⟨⟨k, q, _⟩, _⟩ := F.ok.el e he
    obtain ⟨t, z⟩ := is_of q
    exact ⟨k, t, z⟩
  refine ⟨ss, hs, ?_⟩
  have len : ss.length = L.length := by
    have e := hs.length
    rw [List.length_map, Array.length_toList, F.ok.sz] at e
    exact e.symm
  have mem : ∀ y, y ∈ L → y ∈ ss := fun y hy => by
    obtain ⟨e, he, q⟩ := (F.ok.mem y).mp hy
    obtain ⟨t, z⟩ := is_of q
    exact strs_mem hs (t := t) (List.mem_map.mpr ⟨e, he, z⟩)
  exact (perm_of_sub F.nd mem (Nat.le_of_eq len)).symm
/-- sorted(s) of a set of texts -/
def rSortTx (P : Program) (w : World) : List V → Hp → VK → Prop := fun xs H Q => ∃ (a : Addr) (L : List Str), xs = [V.ref a] ∧ H a = some (SetTx P w a L) ∧ L.length < 64 ∧
  ∀ ys p, ys.Perm L → sortedS ys = true → H p = none → Q (.ref p) (upd H p (.lst (ys.map V.str)))
theorem cr_sortTx (hc : X.calm = true) : CallR X (.builtin "sorted") (rSortTx X.prog X.w) := by
  intro pins s σ H xs us Q I r h
  obtain ⟨a, L, rfl, ha, few, q⟩ := h
  rw [Vals.ref1 r]
  obtain ⟨⟨es, ep, t⟩, ho, F⟩ := settx_at I ha
  obtain ⟨ss, hs, pm⟩ := dk_texts F
  have sz : es.size = L.length := F.ok.sz
  refine Calls.call_function_entry PyProof.Rows.kind_sorted PyProof.Rows.plain_sorted PyProof.Rows.entry_sorted (PyProof.Rows.args_sorted1 _) ?_
  unfold Builtin.«sorted»
  refine wpAny_bind (m := checkCount "sorted" 1 1 _) (wpAny_pure (wpAny_bind (collect_set (A := X.A.in1) (I.ok.hd hc) ⟨_, ho, rfl, rfl⟩ F.ok.fit (by rw [sz]; unfold scanBound; omega) F.ris F.led fun s1 out k1 z1 g1 o1 p1 => ?_)))
  obtain ⟨so, hso⟩ := elems_strs (l := out) fun v hv => by
    obtain ⟨k, t, e⟩ := hs.all v (p1.mem_iff.mp hv)
    exact ⟨k, t, e⟩
  have po : so.Perm ss := by
    have e1 := p1.map strOf
    rw [hso.strs, hs.strs] at e1
    exact e1
  have ol : out.length < 64 := by
    rw [hso.length, po.length_eq, pm.length_eq]
    exact few
  refine wpAny_bind (wpAny_newList ?_ (by rw [sizeLine_eq]; omega))
  have hoL : (s1.heap.push (seqObj "list" out.toArray 0)).get? s1.heap.objs.size = some (seqObj "list" out.toArray 0) := Heap.get?_push_size _ rfl
  refine wpAny_bind (wpAny_holding (wpAny_call_entry PyProof.Rows.slot_list_sort ⟨_, hoL, rfl⟩ PyProof.Rows.entry_list_sort (list_sort_treeK strKind_oneLt hoL hso.keysOf (fun v₁ v₂ rest e => keyKind_strs (by rw [← e]; exact hso)) ol fun st' hp hq => ⟨_, rfl, ?_⟩)
    (PyProof.Rows.args_list_sort _)))
  obtain ⟨ys, y1, y2, y3⟩ := sorted_out_str hso hp hq
  obtain ⟨c, hc2⟩ := PyProof.Rows.sortedHeap_at (vs := out) (out := (arrOf st').map (·.2)) hoL
  have old : ∀ b u, s.heap.get? b = some u → (sortedHeap (s1.heap.push (seqObj "list" out.toArray 0)) s1.heap.objs.size out ((arrOf st').map (·.2))).get? b = some u := fun b u e => by
    have e1 := k1 b u e
    have lt := Heap.lt_size e1
    rw [PyProof.Rows.sortedHeap_old (Nat.ne_of_lt lt) (by rw [size_push']; exact Nat.lt_succ_of_lt lt)]
    exact Heap.get?_push_of_some _ e1
  have len : (ys.map V.str).length ≤ sizeLine := by
    rw [List.length_map, y2.length_eq, po.length_eq, pm.length_eq, sizeLine_eq]
    omega
  exact wpAny_pure ⟨_, rfl, .ref s1.heap.objs.size, _, inv_back (o := .lst (ys.map V.str)) I old g1 o1 z1 (show ObjOk X.prog X.w _ _ _ (.lst (ys.map V.str)) from ⟨len, ((arrOf st').map (·.2)).toList, c, vals_of_strs y1, by rw [Array.toArray_toList]; exact hc2⟩), rfl,
    q ys _ (y2.trans (po.trans pm)) y3 (I.hok.fresh z1)⟩
/-- len(s) of a set of texts -/
def rLenTx (P : Program) (w : World) : List V → Hp → VK → Prop := fun xs H Q => ∃ (a : Addr) (L : List Str), xs = [V.ref a] ∧ H a = some (SetTx P w a L) ∧ L.length < 4096 ∧ Q (.int L.length) H
theorem cr_lenTx : CallR X (.builtin "len") (rLenTx X.prog X.w) := by
  intro pins s σ H xs us Q I r h
  obtain ⟨a, L, rfl, ha, few, q⟩ := h
  rw [Vals.ref1 r]
  obtain ⟨⟨es, ep, t⟩, ho, F⟩ := settx_at I ha
  have sz : es.size = L.length := F.ok.sz
  exact call_len_set ho ⟨rfl, rfl, rfl⟩ rfl F.ok.fit (by show (es.size : Int) < 2 ^ 63; omega) ⟨.int L.length, H, I.tok _, ⟨_, by rw [sz]⟩, q⟩
end
end MyS
end

section
set_option Elab.async false
set_option linter.all false
set_option maxRecDepth 100000
set_option maxHeartbeats 4000000
namespace MyF
open PySem PySem.Spec PyProof.Rows L2
theorem same_refl (H : Hp) : Same H H := fun _ _ e => e
theorem same_new {H : Hp} {p : Addr} {o : HO} (n : H p = none) : Same H (upd H p o) := fun b u e => by
  rw [upd_ne (ne_of_none e n)]
  exact e
theorem same_trans {H H1 H2 : Hp} (a : Same H H1) (b : Same H1 H2) : Same H H2 := fun c u e => b c u (a c u e)
theorem same_free {H H1 : Hp} (a : Same H H1) {p : Addr} (n : H1 p = none) : H p = none := by
  cases e : H p with
  | none => rfl
  | some o =>
    rw [a p o e] at n
    cases n
/-- what a comprehension of n turns makes, where nothing that stood is changed: F i is the item of turn i, if it has one -/
theorem fm_it {J : It} {n : Nat} {G : Hp → Prop} {Y : Nat → Hp → V → Hp → Prop} (w : Walk J n G Y) {g : TG} {tt : TT} {te : TE} {vs : List Nat} {σ : L2.St} {H1 : Hp} {D : Addr} {Qd : Hp → Prop} (F : Nat → Option V) (nD : H1 D = none) (few : n < sizeLine)
    (hG : ∀ H, Same H1 H → G H)
    (turn : ∀ i x H H' (Ψ : V → Hp → Prop) (Θ : Hp → Prop), i < n → Same H1 H → Y i H x H' → (∀ y H5, F i = some y → Same H H5 → Ψ y H5) → (∀ H5, F i = none → Same H H5 → Θ H5) →
      g x (wipe σ vs) H' fun σ2 H2 => wipe σ2 vs = wipe σ vs ∧ tt σ2 H2 fun b H3 => if b = true then te σ2 H3 Ψ else Θ H3)
    (done : ∀ H2, Same H1 H2 → H2 D = some (.lst ((List.range n).filterMap F)) → Qd H2) :
    ∃ W : Nat → Nat → Hp → Prop, (∃ m, W 0 m (upd H1 D (.lst []))) ∧ ∀ i m H, W i m H →
      (J.stop i H ∧ Qd H) ∨ (J.go i H ∧ ∃ Nx : Hp → Prop, (∀ H', Nx H' → ∃ m', m' < m ∧ W (i + 1) m' H') ∧ ∀ x H', J.yld i H x H' → g x (wipe σ vs) H' fun σ2 H2 => wipe σ2 vs = wipe σ vs ∧ tt σ2 H2 fun b H3 =>
        if b = true then te σ2 H3 fun y H4 => ∃ acc, H4 D = some (.lst acc) ∧ acc.length < sizeLine ∧ Nx (upd H4 D (.lst (acc ++ [y]))) else Nx H3) := by
  refine lc_it w (fun i H => Same H1 H ∧ H D = some (.lst ((List.range i).filterMap F)) ∧ i ≤ n) ⟨same_new nD, upd_same, Nat.zero_le _⟩ (fun i H _ h => hG H h.1) ?_ (fun H h => done H h.1 h.2.1)
  rintro i x H H' hi ⟨s, hd, _⟩ y
  refine turn i x H H' _ _ hi s y (fun z H5 e s5 => ⟨_, s5 D _ hd, ?_, ?_, ?_, hi⟩) (fun H5 e s5 => ⟨same_trans s s5, ?_, hi⟩)
  · exact Nat.lt_of_le_of_lt (Nat.le_trans (List.length_filterMap_le ..) (by rw [List.length_range]; omega)) few
  · exact fun b o e2 => by
      rw [upd_ne (ne_of_none e2 nD)]
      exact s5 b o (s b o e2)
  · rw [upd_same, List.range_succ, List.filterMap_append]
    simp [e]
  · rw [s5 D _ hd, List.range_succ, List.filterMap_append]
    simp [e]
theorem range_fm {α β : Type} (f : α → Option β) (xs : List α) : (List.range xs.length).filterMap (fun i => (xs[i]?).bind f) = xs.filterMap f := by
  have go : ∀ n, n ≤ xs.length → (List.range n).filterMap (fun i => (xs[i]?).bind f) = (xs.take n).filterMap f := by
    intro n
    induction n with
    | zero => intro _; rfl
    | succ n ih =>
      intro h
      rw [List.range_succ, List.filterMap_append, ih (by omega), List.take_add_one, List.filterMap_append]
      congr 1
      cases e : xs[n]? <;> simp [List.filterMap_cons, e]
  rw [go _ (Nat.le_refl _), List.take_length]
/-- a walk by either of two rules -/
def iOr (a b : TI) : TI := fun σ H R => a σ H R ∨ b σ H R
theorem pi_or {X : Cx} {tg it : Expr} {a b : TI} (h : PI X tg it a) (k : PI X tg it b) : PI X tg it (iOr a b) :=
  ⟨fun pins s σ H R I q => q.elim (h.run pins s σ H R I) (k.run pins s σ H R I)⟩
/-- a list or a tuple -/
def Sq (K : PySem.W.Frag) (H : Hp) (a : Addr) (xs : List V) : Prop := SqL K H a xs ∨ SqT K H a xs
theorem sqL_same {K : PySem.W.Frag} {H H' : Hp} {a : Addr} {xs : List V} (h : SqL K H a xs) (s : Same H H') : SqL K H' a xs := by
  rcases h with (h | ⟨o, h⟩) | h
  · exact .inl (.inl (s _ _ h))
  · exact .inl (.inr ⟨o, s _ _ h⟩)
  · exact .inr h
theorem sqT_same {K : PySem.W.Frag} {H H' : Hp} {a : Addr} {xs : List V} (h : SqT K H a xs) (s : Same H H') : SqT K H' a xs := by
  rcases h with (h | ⟨o, h⟩) | h
  · exact .inl (.inl (s _ _ h))
  · exact .inl (.inr ⟨o, s _ _ h⟩)
  · exact .inr h
theorem Sq.same {K : PySem.W.Frag} {H H' : Hp} {a : Addr} {xs : List V} (h : Sq K H a xs) (s : Same H H') : Sq K H' a xs := h.imp (sqL_same · s) (sqT_same · s)
abbrev iSq (K : PySem.W.Frag) (i : Nat) : TI := iOr (iList K (tVar i)) (iTup K (tVar i))
theorem pi_sq {X : Cx} {tg e : Expr} {i : Nat} (h : PE X e (tVar i)) : PI X tg e (iSq X.K i) := pi_or (pi_list h) (pi_tup h)
/-- a comprehension over slot i, a list or a tuple, that changes nothing -/
theorem seq_lc {K : PySem.W.Frag} {a : Addr} {xs : List V} {i : Nat} {g : TG} {tt : TT} {te : TE} {vs : List Nat} {σ : L2.St} {H : Hp} {Q : V → Hp → Prop} (F : V → Option V) (hσ : σ[i]? = some (some (.ref a))) (hS : Sq K H a xs) (few : xs.length < sizeLine)
    (turn : ∀ x H2 (Ψ : V → Hp → Prop) (Θ : Hp → Prop), x ∈ xs → Same H H2 → (∀ y H5, F x = some y → Same H2 H5 → Ψ y H5) → (∀ H5, F x = none → Same H2 H5 → Θ H5) →
      g x (wipe σ vs) H2 fun σ2 H2 => wipe σ2 vs = wipe σ vs ∧ tt σ2 H2 fun b H3 => if b = true then te σ2 H3 Ψ else Θ H3)
    (done : ∀ H2 D, Same H H2 → H D = none → H2 D = some (.lst (xs.filterMap F)) → Q (.ref D) H2) : tLc (iSq K i) g tt te vs σ H Q := by
  have go : ∀ (J : It) (G : Hp → Prop) (D : Addr), H D = none → Walk J xs.length G (YAt xs) → (∀ H2, Same H H2 → G H2) → _ := fun J G D nD w hG =>
    fm_it (g := g) (tt := tt) (te := te) (vs := vs) (σ := σ) (Qd := fun H2 => Q (.ref D) H2) w (fun i => (xs[i]?).bind F) nD few hG
      (fun i x H2 H3 Ψ Θ hi s2 y yes no => by
        obtain ⟨rfl, hx⟩ := y
        exact turn x H3 Ψ Θ (List.mem_of_getElem? hx) s2 (fun y H5 e s5 => yes y H5 (by rw [hx]; exact e) s5) fun H5 e s5 => no H5 (by rw [hx]; exact e) s5)
      fun H2 s2 h2 => done H2 D s2 nD (by rw [h2, range_fm])
  rcases hS with hS | hS
  · exact .inl ⟨_, hσ, a, rfl, ⟨xs, hS⟩, fun D nD => go _ _ D nD walk_list fun H2 s2 => sqL_same hS s2⟩
  · exact .inr ⟨_, hσ, a, rfl, ⟨xs, hS⟩, fun D nD => go _ _ D nD walk_tup fun H2 s2 => sqT_same hS s2⟩
/-- a comprehension over a tuple at a, that changes nothing -/
theorem tup_lc {K : PySem.W.Frag} {a : Addr} {xs : List V} {g : TG} {tt : TT} {te : TE} {vs : List Nat} {σ : L2.St} {H : Hp} {Q : V → Hp → Prop} (F : V → Option V) (hS : SqT K H a xs) (few : xs.length < sizeLine)
    (turn : ∀ x H2 (Ψ : V → Hp → Prop) (Θ : Hp → Prop), x ∈ xs → Same H H2 → (∀ y H5, F x = some y → Same H2 H5 → Ψ y H5) → (∀ H5, F x = none → Same H2 H5 → Θ H5) →
      g x (wipe σ vs) H2 fun σ2 H2 => wipe σ2 vs = wipe σ vs ∧ tt σ2 H2 fun b H3 => if b = true then te σ2 H3 Ψ else Θ H3)
    (done : ∀ H2 D, Same H H2 → H D = none → H2 D = some (.lst (xs.filterMap F)) → Q (.ref D) H2) (D : Addr) (nD : H D = none) :
    ∃ W : Nat → Nat → Hp → Prop, (∃ m, W 0 m (upd H D (.lst []))) ∧ ∀ i m H, W i m H →
      ((Itt K a).stop i H ∧ Q (.ref D) H) ∨ ((Itt K a).go i H ∧ ∃ Nx : Hp → Prop, (∀ H', Nx H' → ∃ m', m' < m ∧ W (i + 1) m' H') ∧ ∀ x H', (Itt K a).yld i H x H' → g x (wipe σ vs) H' fun σ2 H2 => wipe σ2 vs = wipe σ vs ∧ tt σ2 H2 fun b H3 =>
        if b = true then te σ2 H3 fun y H4 => ∃ acc, H4 D = some (.lst acc) ∧ acc.length < sizeLine ∧ Nx (upd H4 D (.lst (acc ++ [y]))) else Nx H3) :=
  fm_it (g := g) (tt := tt) (te := te) (vs := vs) (σ := σ) (Qd := fun H2 => Q (.ref D) H2) walk_tup (fun i => (xs[i]?).bind F) nD few (fun H2 s2 => sqT_same hS s2)
      (fun i x H2 H3 Ψ Θ hi s2 y yes no => by
        obtain ⟨rfl, hx⟩ := y
        exact turn x H3 Ψ Θ (List.mem_of_getElem? hx) s2 (fun y H5 e s5 => yes y H5 (by rw [hx]; exact e) s5) fun H5 e s5 => no H5 (by rw [hx]; exact e) s5)
      fun H2 s2 h2 => done H2 D s2 nD (by rw [h2, range_fm])
/-- t + u, in one way -/
theorem cat_any {K : PySem.W.Frag} {H : Hp} {a b : Addr} {xs ys : List V} {Q : V → Hp → Prop} (h1 : SqT K H a xs) (h2 : SqT K H b ys) (few : xs.length + ys.length ≤ sizeLine) (k : ∀ H' p, Same H H' → SqT K H' p (xs ++ ys) → Q (.ref p) H') :
    rCatA K (.ref a) (.ref b) H Q :=
  ⟨a, b, xs, ys, rfl, rfl, h1, h2, few, fun e => k H b (same_refl H) (by rw [e]; exact h2), fun _ e => k H a (same_refl H) (by rw [e, List.append_nil]; exact h1), fun _ _ p np => k _ p (same_new np) (SqT.of upd_same)⟩
/-- a comprehension over the sum of the tuples in slots i and j -/
theorem cat_lc {K : PySem.W.Frag} {a b : Addr} {xs ys : List V} {i j : Nat} {g : TG} {tt : TT} {te : TE} {vs : List Nat} {σ : L2.St} {H : Hp} {Q : V → Hp → Prop} (F : V → Option V) (e1 : σ[i]? = some (some (.ref a))) (e2 : σ[j]? = some (some (.ref b)))
    (S1 : SqT K H a xs) (S2 : SqT K H b ys) (few : (xs ++ ys).length < sizeLine)
    (turn : ∀ x H2 (Ψ : V → Hp → Prop) (Θ : Hp → Prop), x ∈ xs ++ ys → Same H H2 → (∀ y H5, F x = some y → Same H2 H5 → Ψ y H5) → (∀ H5, F x = none → Same H2 H5 → Θ H5) →
      g x (wipe σ vs) H2 fun σ2 H2 => wipe σ2 vs = wipe σ vs ∧ tt σ2 H2 fun b H3 => if b = true then te σ2 H3 Ψ else Θ H3)
    (done : ∀ H2 D, Same H H2 → H D = none → H2 D = some (.lst ((xs ++ ys).filterMap F)) → Q (.ref D) H2) : tLc (iTup K (tOp (rCatA K) (tVar i) (tVar j))) g tt te vs σ H Q := by
  refine ⟨_, e1, _, e2, cat_any S1 S2 (by rw [← List.length_append]; exact Nat.le_of_lt few) fun H2 p s2 hp => ⟨p, rfl, ⟨_, hp⟩, fun D nD => ?_⟩⟩
  exact tup_lc (Q := Q) F hp few (fun x H3 Ψ Θ hx s3 yes no => turn x H3 Ψ Θ hx (same_trans s2 s3) yes no) (fun H3 D s3 nD h3 => done H3 D (same_trans s2 s3) (same_free s2 nD) h3) D nD
/-- a comprehension over a list at a, that changes nothing, its list at D -/
theorem lstD {K : PySem.W.Frag} {a D : Addr} {xs : List V} {g : TG} {tt : TT} {te : TE} {vs : List Nat} {σ : L2.St} {H : Hp} {Qd : Hp → Prop} (F : V → Option V) (hS : SqL K H a xs) (few : xs.length < sizeLine) (nD : H D = none)
    (turn : ∀ x H2 (Ψ : V → Hp → Prop) (Θ : Hp → Prop), x ∈ xs → Same H H2 → (∀ y H5, F x = some y → Same H2 H5 → Ψ y H5) → (∀ H5, F x = none → Same H2 H5 → Θ H5) →
      g x (wipe σ vs) H2 fun σ2 H2 => wipe σ2 vs = wipe σ vs ∧ tt σ2 H2 fun b H3 => if b = true then te σ2 H3 Ψ else Θ H3)
    (done : ∀ H2, Same H H2 → H2 D = some (.lst (xs.filterMap F)) → Qd H2) :
    ∃ W : Nat → Nat → Hp → Prop, (∃ m, W 0 m (upd H D (.lst []))) ∧ ∀ i m H, W i m H →
      ((Itl K a).stop i H ∧ Qd H) ∨ ((Itl K a).go i H ∧ ∃ Nx : Hp → Prop, (∀ H', Nx H' → ∃ m', m' < m ∧ W (i + 1) m' H') ∧ ∀ x H', (Itl K a).yld i H x H' → g x (wipe σ vs) H' fun σ2 H2 => wipe σ2 vs = wipe σ vs ∧ tt σ2 H2 fun b H3 =>
        if b = true then te σ2 H3 fun y H4 => ∃ acc, H4 D = some (.lst acc) ∧ acc.length < sizeLine ∧ Nx (upd H4 D (.lst (acc ++ [y]))) else Nx H3) :=
  fm_it (g := g) (tt := tt) (te := te) (vs := vs) (σ := σ) (Qd := Qd) walk_list (fun i => (xs[i]?).bind F) nD few (fun H2 s2 => sqL_same hS s2)
      (fun i x H2 H3 Ψ Θ hi s2 y yes no => by
        obtain ⟨rfl, hx⟩ := y
        exact turn x H3 Ψ Θ (List.mem_of_getElem? hx) s2 (fun y H5 e s5 => yes y H5 (by rw [hx]; exact e) s5) fun H5 e s5 => no H5 (by rw [hx]; exact e) s5)
      fun H2 s2 h2 => done H2 s2 (by rw [h2, range_fm])
/-- new tuples ts, one for each item of xs -/
inductive Tups (H : Hp) (F : V → List V) : List Addr → List V → Prop
  | nil : Tups H F [] []
  | snoc {ts : List Addr} {xs : List V} {t : Addr} {x : V} (r : Tups H F ts xs) (h : H t = some (.tup (F x))) : Tups H F (ts ++ [t]) (xs ++ [x])
theorem Tups.same {H H' : Hp} {F : V → List V} {ts : List Addr} {xs : List V} (h : Tups H F ts xs) (s : Same H H') : Tups H' F ts xs := by
  induction h with
  | nil => exact .nil
  | snoc r e ih => exact .snoc ih (s _ _ e)
theorem Tups.len {H : Hp} {F : V → List V} {ts : List Addr} {xs : List V} (h : Tups H F ts xs) : ts.length = xs.length := by
  induction h with
  | nil => rfl
  | snoc r e ih => rw [List.length_append, List.length_append, ih]; rfl
theorem Tups.upd {H : Hp} {F : V → List V} {ts : List Addr} {xs : List V} {D : Addr} {l : List V} {o : HO} (h : Tups H F ts xs) (hd : H D = some (.lst l)) : Tups (L2.upd H D o) F ts xs := by
  induction h with
  | nil => exact .nil
  | snoc r e ih =>
    refine .snoc ih ?_
    rw [upd_ne]
    · exact e
    · rintro rfl
      rw [e] at hd
      cases hd
theorem tups_it {J : It} {xs : List V} {G : Hp → Prop} (w : Walk J xs.length G (YAt xs)) {g : TG} {tt : TT} {te : TE} {vs : List Nat} {σ : L2.St} {H1 : Hp} {D : Addr} {Qd : Hp → Prop} (F : V → List V) (nD : H1 D = none) (few : xs.length < sizeLine)
    (hG : ∀ H, Same H1 H → G H)
    (turn : ∀ x H2 (Ψ : V → Hp → Prop) (Θ : Hp → Prop), x ∈ xs → Same H1 H2 → (∀ t H5, Same H2 H5 → H5 t = some (.tup (F x)) → Ψ (.ref t) H5) →
      g x (wipe σ vs) H2 fun σ2 H2 => wipe σ2 vs = wipe σ vs ∧ tt σ2 H2 fun b H3 => if b = true then te σ2 H3 Ψ else Θ H3)
    (done : ∀ H2 ts, Same H1 H2 → H2 D = some (.lst (ts.map V.ref)) → Tups H2 F ts xs → Qd H2) :
    ∃ W : Nat → Nat → Hp → Prop, (∃ m, W 0 m (upd H1 D (.lst []))) ∧ ∀ i m H, W i m H →
      (J.stop i H ∧ Qd H) ∨ (J.go i H ∧ ∃ Nx : Hp → Prop, (∀ H', Nx H' → ∃ m', m' < m ∧ W (i + 1) m' H') ∧ ∀ x H', J.yld i H x H' → g x (wipe σ vs) H' fun σ2 H2 => wipe σ2 vs = wipe σ vs ∧ tt σ2 H2 fun b H3 =>
        if b = true then te σ2 H3 fun y H4 => ∃ acc, H4 D = some (.lst acc) ∧ acc.length < sizeLine ∧ Nx (upd H4 D (.lst (acc ++ [y]))) else Nx H3) := by
  refine lc_it w (fun i H => Same H1 H ∧ i ≤ xs.length ∧ ∃ ts, H D = some (.lst (ts.map V.ref)) ∧ Tups H F ts (xs.take i)) ⟨same_new nD, Nat.zero_le _, [], upd_same, .nil⟩ (fun i H _ h => hG H h.1) ?_
    (fun H h => by
      obtain ⟨s, _, ts, hd, tp⟩ := h
      rw [List.take_length] at tp
      exact done H ts s hd tp)
  rintro i x H H' hi ⟨s, hi2, ts, hd, tp⟩ ⟨rfl, hx⟩
  refine turn x H' _ _ (List.mem_of_getElem? hx) s fun t H5 s5 ht => ?_
  have hd5 := s5 D _ hd
  have nt : t ≠ D := by
    rintro rfl
    rw [ht] at hd5
    cases hd5
  have keep : ∀ b o, H5 b = some o → b ≠ D → upd H5 D (.lst (ts.map V.ref ++ [V.ref t])) b = some o := fun b o e ne => by rw [upd_ne ne]; exact e
  have s6 : Same H1 (upd H5 D (.lst (ts.map V.ref ++ [V.ref t]))) := fun b o e => keep b o (s5 b o (s b o e)) (ne_of_none e nD)
  refine ⟨_, hd5, ?_, s6, hi, ts ++ [t], by rw [upd_same, List.map_append]; rfl, ?_⟩
  · rw [List.length_map, tp.len, List.length_take]
    omega
  · rw [List.take_add_one, hx]
    exact .snoc ((tp.same s5).upd hd5) (keep t _ ht nt)
/-- a comprehension of new tuples over slot i, a list or a tuple -/
theorem tups_seq {K : PySem.W.Frag} {a : Addr} {xs : List V} {i : Nat} {g : TG} {tt : TT} {te : TE} {vs : List Nat} {σ : L2.St} {H : Hp} {Q : V → Hp → Prop} (F : V → List V) (hσ : σ[i]? = some (some (.ref a))) (hS : Sq K H a xs) (few : xs.length < sizeLine)
    (turn : ∀ x H2 (Ψ : V → Hp → Prop) (Θ : Hp → Prop), x ∈ xs → Same H H2 → (∀ t H5, Same H2 H5 → H5 t = some (.tup (F x)) → Ψ (.ref t) H5) →
      g x (wipe σ vs) H2 fun σ2 H2 => wipe σ2 vs = wipe σ vs ∧ tt σ2 H2 fun b H3 => if b = true then te σ2 H3 Ψ else Θ H3)
    (done : ∀ H2 D ts, Same H H2 → H D = none → H2 D = some (.lst (ts.map V.ref)) → Tups H2 F ts xs → Q (.ref D) H2) : tLc (iSq K i) g tt te vs σ H Q := by
  rcases hS with hS | hS
  · exact .inl ⟨_, hσ, a, rfl, ⟨xs, hS⟩, fun D nD => tups_it (Qd := fun H2 => Q (.ref D) H2) walk_list F nD few (fun H2 s2 => sqL_same hS s2) turn fun H2 ts s2 h2 tp => done H2 D ts s2 nD h2 tp⟩
  · exact .inr ⟨_, hσ, a, rfl, ⟨xs, hS⟩, fun D nD => tups_it (Qd := fun H2 => Q (.ref D) H2) walk_tup F nD few (fun H2 s2 => sqT_same hS s2) turn fun H2 ts s2 h2 tp => done H2 D ts s2 nD h2 tp⟩
theorem fm_congr {α β : Type} {f g : α → Option β} : ∀ {l : List α}, (∀ x ∈ l, f x = g x) → l.filterMap f = l.filterMap g
  | [], _ => rfl
  | x :: l, h => by
    rw [List.filterMap_cons, List.filterMap_cons, h x (List.mem_cons_self ..), fm_congr fun y hy => h y (List.mem_cons_of_mem _ hy)]
theorem range_map {α β : Type} (f : α → β) (xs : List α) : (List.range xs.length).filterMap (fun i => (xs[i]?).map f) = xs.map f := by
  have q := range_fm (fun x => some (f x)) xs
  rw [← List.filterMap_eq_map']
  refine Eq.trans (fm_congr fun i _ => ?_) q
  cases xs[i]? <;> rfl
end MyF
end

section
set_option Elab.async false
set_option linter.all false
set_option maxRecDepth 100000
set_option maxHeartbeats 4000000
namespace My
open PySem PySem.Spec PyProof.Rows L2 TL
/-! ### variables and literals as texts -/
def dash : Str := "-"
def abc : List Nat := (Str.cps "abcdefghijklmnopqrstuvwxyz").toList
/-- one to eight letters -/
def lowZ (z : Str) : Bool := decide (1 ≤ z.length) && decide (z.length ≤ 8) && z.cps.toList.all fun c => decide (c ∈ abc)
def bareS (z : Str) : Str := Txt.removeprefix z dash
def negS (z : Str) : Bool := Txt.startswith z dash
def oppS (z : Str) : Str := if negS z = true then bareS z else dash ++ z
def litS (z : Str) : Bool := lowZ (bareS z)
def varV : V → Bool
  | .str z => lowZ z
  | _ => false
def litV : V → Bool
  | .str z => litS z
  | _ => false
theorem bare_of_pos {z : Str} (h : ¬ negS z = true) : bareS z = z := by
  unfold bareS
  rw [StrLaws.removeprefix_eq]
  exact if_neg h
theorem bare_le (z : Str) (h : z.length ≤ sizeLine) : (bareS z).length ≤ sizeLine := by
  unfold bareS
  rw [StrLaws.removeprefix_eq]
  split
  · show ((z.cps.toList.drop dash.length).take (z.length - dash.length)).toArray.size ≤ sizeLine
    rw [List.size_toArray, List.length_take]
    omega
  · exact h
theorem lit_short {z : Str} (h : litS z = true) : z.length ≤ 9 := by
  have h8 : (bareS z).length ≤ 8 := by
    unfold litS lowZ at h
    rw [Bool.and_eq_true, Bool.and_eq_true] at h
    exact of_decide_eq_true h.1.2
  unfold bareS at h8
  rw [StrLaws.removeprefix_eq] at h8
  by_cases c : (decide (0 + dash.length ≤ z.length) && Builtin.Str.subAt z dash 0) = true
  · rw [if_pos c] at h8
    have h9 : ((z.cps.toList.drop 1).take (z.length - 1)).toArray.size ≤ 8 := h8
    rw [List.size_toArray, List.length_take, List.length_drop, Array.length_toList] at h9
    have e : z.length = z.cps.size := rfl
    omega
  · rw [if_neg c] at h8
    omega
theorem str_ext {x y : Str} (h : x.cps.toList = y.cps.toList) : x = y := by
  cases x with
  | mk a =>
    cases y with
    | mk b =>
      have e : a.toList = b.toList := h
      rw [Array.ext' e]
theorem cps_cat (x y : Str) : (x ++ y).cps.toList = x.cps.toList ++ y.cps.toList := by
  show (x.cps ++ y.cps).toList = _
  rw [Array.toList_append]
theorem dash_cps : dash.cps.toList = [45] := by decide +kernel
theorem sub_dash (z : Str) : Builtin.Str.subAt z dash 0 = decide (z.cps.toList.take 1 = [45]) := by
  show (z.cps.extract 0 (0 + dash.length) == dash.cps) = _
  have e1 : dash.length = 1 := by decide +kernel
  rw [e1]
  by_cases h : z.cps.toList.take 1 = [45]
  · rw [decide_eq_true h, beq_iff_eq]
    refine Array.ext' ?_
    rw [Array.toList_extract, dash_cps]
    simpa using h
  · rw [decide_eq_false h, beq_eq_false_iff_ne]
    intro e
    refine h ?_
    have e2 := congrArg Array.toList e
    rw [Array.toList_extract, dash_cps] at e2
    simpa using e2
theorem neg_eq (z : Str) : negS z = decide (z.cps.toList.take 1 = [45]) := by
  unfold negS Txt.startswith
  rw [sub_dash]
  by_cases h : z.cps.toList.take 1 = [45]
  · rw [decide_eq_true h, Bool.and_true]
    have e1 : dash.length = 1 := by decide +kernel
    have e2 := congrArg List.length h
    rw [List.length_take, Array.length_toList, List.length_singleton] at e2
    have e3 : z.length = z.cps.size := rfl
    exact decide_eq_true (by omega)
  · rw [decide_eq_false h, Bool.and_false]
theorem bare_eq (z : Str) : (bareS z).cps.toList = if negS z = true then z.cps.toList.drop 1 else z.cps.toList := by
  unfold bareS
  rw [StrLaws.removeprefix_eq]
  have e : (decide (0 + dash.length ≤ z.length) && Builtin.Str.subAt z dash 0) = negS z := rfl
  rw [e]
  by_cases c : negS z = true
  · rw [if_pos c, if_pos c]
    have e1 : dash.length = 1 := by decide +kernel
    show ((z.cps.toList.drop dash.length).take (z.length - dash.length)).toArray.toList = _
    rw [e1, List.toList_toArray, List.take_of_length_le]
    rw [List.length_drop, Array.length_toList]
    exact Nat.le_refl _
  · rw [if_neg c, if_neg c]
/-- the first sign -/
theorem first_cps {z : Str} (h : 1 ≤ z.length) : ∃ c, z.cps.toList[0]? = some c ∧ negS z = decide (c = 45) := by
  obtain ⟨c, r, e⟩ : ∃ c r, z.cps.toList = c :: r := by
    cases e : z.cps.toList with
    | nil =>
      have hl : z.cps.toList.length = z.length := Array.length_toList
      rw [e] at hl
      exact absurd h (by rw [← hl]; exact Nat.not_succ_le_zero 0)
    | cons c r => exact ⟨c, r, rfl⟩
  refine ⟨c, by rw [e]; rfl, ?_⟩
  rw [neg_eq, e]
  by_cases q : c = 45
  · rw [decide_eq_true q, q]
    rfl
  · rw [decide_eq_false q]
    refine decide_eq_false fun z => q ?_
    have z2 : [c] = [45] := z
    injection z2
theorem cut_one {z : Str} (h : 1 ≤ z.length) (n : negS z = true) : cutS z (some 1) none = bareS z := by
  refine str_ext ?_
  rw [bare_eq, if_pos n]
  show ((z.cps.toList.drop (HT.sIx z.length 0 (some ((1 : Nat) : Int)))).take (HT.sIx z.length z.length none - HT.sIx z.length 0 (some ((1 : Nat) : Int)))).toArray.toList = _
  rw [HT.sIx_nat, HT.sIx_none, List.toList_toArray]
  have e : min 1 z.length = 1 := by omega
  rw [e, List.take_of_length_le]
  rw [List.length_drop, Array.length_toList]
  exact Nat.le_refl _
theorem one_sign (c : Nat) : decide (V.str ⟨#[c]⟩ = V.str dash) = decide (c = 45) := by
  by_cases h : c = 45
  · subst h
    rw [decide_eq_true (show V.str ⟨#[45]⟩ = V.str dash by decide +kernel), decide_eq_true rfl]
  · rw [decide_eq_false h]
    refine decide_eq_false fun e => h ?_
    injection e with e
    have e2 : (⟨#[c]⟩ : Str).cps.toList = dash.cps.toList := by rw [e]
    rw [dash_cps] at e2
    have e3 : [c] = [45] := e2
    injection e3
/-- what the quick tests together say -/
def lowT (z : Str) : Bool := Txt.isascii z && (Txt.isalpha z && Txt.islower z)
theorem abc_ok : (abc.all fun c => decide (c < 128) && Unicode.isAlpha c && Unicode.isLower c && !(Unicode.isUpper c || Unicode.isTitle c)) = true := by decide +kernel
theorem low128 : ((List.range 128).all fun c => !Unicode.isAlpha c || (Unicode.isUpper c || Unicode.isTitle c) || decide (c ∈ abc)) = true := by decide +kernel
theorem low_fast (z : Str) : lowZ z = (decide (z.length ≤ 8) && lowT z) := by
  have hl : z.cps.toList.length = z.length := Array.length_toList
  have a1 : Txt.isascii z = z.cps.toList.all (fun c => decide (c < 128)) := (Array.all_toList ..).symm
  have a2 : Txt.isalpha z = (decide (z.length > 0) && z.cps.toList.all Unicode.isAlpha) := by
    unfold Txt.isalpha
    rw [Array.all_toList]
  have a3 : Txt.islower z = (z.cps.toList.any Unicode.isLower && !z.cps.toList.any fun c => Unicode.isUpper c || Unicode.isTitle c) := by
    unfold Txt.islower
    rw [Array.any_toList, Array.any_toList]
  unfold lowZ lowT
  rw [a1, a2, a3]
  generalize z.cps.toList = l at hl ⊢
  have ok := List.all_eq_true.mp abc_ok
  have lo := List.all_eq_true.mp low128
  rw [Bool.eq_iff_iff]
  simp only [Bool.and_eq_true, decide_eq_true_eq, List.all_eq_true, List.any_eq_true, Bool.not_eq_true', List.any_eq_false, Bool.or_eq_true] at *
  constructor
  · rintro ⟨⟨h1, h8⟩, h⟩
    refine ⟨h8, fun c hc => (ok c (h c hc)).1.1.1, ⟨h1, fun c hc => (ok c (h c hc)).1.1.2⟩, ?_, fun c hc => ?_⟩
    · cases l with
      | nil =>
        rw [← hl] at h1
        exact absurd h1 (by simp)
      | cons c r => exact ⟨c, List.mem_cons_self, (ok c (h c List.mem_cons_self)).1.2⟩
    · have q := (ok c (h c hc)).2
      intro k
      simp at q
      rcases k with k | k
      · rw [q.1] at k
        cases k
      · rw [q.2] at k
        cases k
  · rintro ⟨h8, has, ⟨h1, hal⟩, _, hup⟩
    refine ⟨⟨h1, h8⟩, fun c hc => ?_⟩
    have q := lo c (List.mem_range.mpr (has c hc))
    rcases q with (q | q) | q
    · rw [hal c hc] at q
      cases q
    · exact absurd q (hup c hc)
    · exact q
/-! ### lists of literals -/
def ltS (a b : Str) : Bool := decide (a.cps.toList < b.cps.toList)
def ascS (ys : List Str) : Bool := (ys.zip (ys.drop 1)).all fun p => ltS p.1 p.2
def hasS (ys : List Str) : Bool := ys.any fun y => decide (oppS y ∈ ys)
/-- by the signs alone -/
def conS (ys : List Str) : Bool := (ys.filter negS).any fun y => decide (bareS y ∈ ys)
theorem dash_back {y : Str} (h : ¬ negS y = true) : negS (dash ++ y) = true ∧ bareS (dash ++ y) = y := by
  have n : negS (dash ++ y) = true := by
    rw [neg_eq, cps_cat, dash_cps]
    rfl
  refine ⟨n, str_ext ?_⟩
  rw [bare_eq, if_pos n, cps_cat, dash_cps]
  rfl
theorem con_has (ys : List Str) : conS ys = hasS ys := by
  rw [Bool.eq_iff_iff]
  unfold conS hasS
  rw [List.any_eq_true, List.any_eq_true]
  constructor
  · rintro ⟨y, hy, h⟩
    obtain ⟨h1, h2⟩ := List.mem_filter.mp hy
    refine ⟨y, h1, ?_⟩
    have e : oppS y = bareS y := if_pos h2
    rw [e]
    exact h
  · rintro ⟨y, hy, h⟩
    by_cases c : negS y = true
    · have e : oppS y = bareS y := if_pos c
      rw [e] at h
      exact ⟨y, List.mem_filter.mpr ⟨hy, c⟩, h⟩
    · have e : oppS y = dash ++ y := if_neg c
      rw [e] at h
      obtain ⟨n, b⟩ := dash_back c
      refine ⟨dash ++ y, List.mem_filter.mpr ⟨of_decide_eq_true h, n⟩, decide_eq_true ?_⟩
      rw [b]
      exact hy
def strsV (xs : List V) : List Str := xs.filterMap fun | .str z => some z | _ => none
def clV (xs : List V) : Bool := xs.all litV && ascS (strsV xs) && !hasS (strsV xs)
theorem strs_of_lit : ∀ {xs : List V}, xs.all litV = true → xs = (strsV xs).map V.str
  | [], _ => rfl
  | x :: xs, h => by
    rw [List.all_cons, Bool.and_eq_true] at h
    cases x with
    | str z =>
      have e := strs_of_lit h.2
      show V.str z :: xs = V.str z :: (strsV xs).map V.str
      rw [← e]
    | _ => exact (Bool.false_ne_true h.1).elim
theorem lit_pos {z : Str} (h : litS z = true) : 1 ≤ z.length := by
  unfold litS lowZ at h
  rw [Bool.and_eq_true, Bool.and_eq_true] at h
  have h1 := of_decide_eq_true h.1.1
  by_cases n : negS z = true
  · have e := bare_eq z
    rw [if_pos n] at e
    have hl : (bareS z).cps.toList.length = (bareS z).length := Array.length_toList
    have hz : z.cps.toList.length = z.length := Array.length_toList
    rw [e, List.length_drop] at hl
    omega
  · rw [bare_of_pos n] at h1
    exact h1
/-- the walk: each a literal, greater than the one ahead -/
def walkC : Str → List V → Bool
  | _, [] => true
  | last, .str z :: xs => litS z && ltS last z && walkC z xs
  | _, _ :: _ => false
theorem walkC_cons (last : Str) (x : V) (xs : List V) (h : litV x = false) : walkC last (x :: xs) = false := by
  cases x with
  | str z =>
    have e : litS z = false := h
    show (litS z && ltS last z && walkC z xs) = false
    rw [e, Bool.false_and, Bool.false_and]
  | _ => rfl
theorem asc_two (a b : Str) (r : List Str) : ascS (a :: b :: r) = (ltS a b && ascS (b :: r)) := rfl
theorem walkC_all : ∀ (xs : List V) (last : Str), walkC last xs = (xs.all litV && ascS (last :: strsV xs))
  | [], _ => rfl
  | x :: xs, last => by
    cases x with
    | str z =>
      show (litS z && ltS last z && walkC z xs) = ((litS z && xs.all litV) && ascS (last :: z :: strsV xs))
      rw [walkC_all xs z, asc_two]
      cases litS z <;> cases ltS last z <;> cases xs.all litV <;> rfl
    | _ => rfl
theorem lt_empty {z : Str} (h : 1 ≤ z.length) : ltS "" z = true := by
  unfold ltS
  have hl : z.cps.toList.length = z.length := Array.length_toList
  cases e : z.cps.toList with
  | nil =>
    rw [e] at hl
    have : (0 : Nat) = z.length := hl
    omega
  | cons c r => exact decide_eq_true (List.nil_lt_cons c r)
theorem walkC_top (xs : List V) : walkC "" xs = (xs.all litV && ascS (strsV xs)) := by
  rw [walkC_all]
  by_cases c : xs.all litV = true
  · rw [c, Bool.true_and, Bool.true_and]
    have e := strs_of_lit c
    rw [e, List.all_map] at c
    cases s : strsV xs with
    | nil => rfl
    | cons z r =>
      rw [s] at c
      rw [List.all_cons, Bool.and_eq_true] at c
      rw [asc_two, lt_empty (lit_pos c.1), Bool.true_and]
  · rw [Bool.eq_false_iff.mpr c, Bool.false_and, Bool.false_and]
theorem clV_walk (xs : List V) : clV xs = (walkC "" xs && !hasS (strsV xs)) := by
  rw [walkC_top]
  rfl
end My
end

section
set_option Elab.async false
set_option linter.all false
set_option maxRecDepth 100000
set_option maxHeartbeats 4000000
namespace My
local macro_rules | `(tactic| walk_at "go") => `(tactic| (repeat (first
  | (refine ⟨_, rfl, ?_⟩)
  | (refine ⟨_, _, rfl, rfl, ?_⟩)
  | (refine ⟨_, _, rfl, ?_⟩)
  | (refine ⟨rfl, ?_⟩)
  | (refine Or.inl ⟨_, rfl, ?_⟩)
  | (refine ⟨_, _, _, _, rfl, rfl, L2.SqL.of (by first | assumption | exact L2.upd_same), rfl, ?_⟩)
  | (refine ⟨_, _, _, _, rfl, rfl, (by first | assumption | exact L2.upd_same), rfl, ?_⟩)
  | (refine And.intro (by first | omega | decide | (unfold L2.CPow; decide) | (unfold L2.CMul; omega) | (unfold L2.CDiv; omega)) ?_))))
open PySem PySem.Spec PyProof.Rows L2 TL MyF MyS RZ
def top (i : Nat) : Stmt := PySem.Challenge.pw_lookdepths_k03_whole_clauses.main.body.getD i (.Pass ⟨0, 0, 0, 0⟩)
/-- the built-in names that the program's text leaves as they are -/
structure Pts (mg : Str → Option Value) : Prop where
  isinstance : mg "isinstance" = none
  str : mg "str" = none
  len : mg "len" = none
  all : mg "all" = none
  any : mg "any" = none
  tuple : mg "tuple" = none
  list : mg "list" = none
  dict : mg "dict" = none
  sorted : mg "sorted" = none
  set : mg "set" = none
  zip : mg "zip" = none
  most : ∃ t, mg "MOST_LETTERS" = some (.int 8 t)
/-- a value of which it is known whether it is a text -/
def Known (K : PySem.W.Frag) (H : Hp) (v : V) : Prop := (∃ z, v = .str z ∧ z.length ≤ sizeLine) ∨ (∃ t, TyX K H v t ∧ PySem.W.kitOne K t (.type "str") = some false ∧ ∀ z, v ≠ .str z)
theorem tyOf_same {K : PySem.W.Frag} {H H' : Hp} {v : V} {t : Value} (h : TyOf K H v t) (s : Same H H') : TyOf K H' v t := by
  cases h with
  | non => exact .non
  | bl y => exact .bl y
  | int i => exact .int i
  | str y => exact .str y
  | flt y => exact .flt y
  | lst e => exact .lst (s _ _ e)
  | frz e => exact .frz (s _ _ e)
  | tup e => exact .tup (s _ _ e)
  | dK e => exact .dK (s _ _ e)
  | dT e => exact .dT (s _ _ e)
  | ins e cl ha hn htk hm => exact .ins (s _ _ e) cl ha hn htk hm
theorem tyX_same {K : PySem.W.Frag} {H H' : Hp} {v : V} {t : Value} (h : TyX K H v t) (s : Same H H') : TyX K H' v t := by
  cases h with
  | base b => exact .base (tyOf_same b s)
  | byt b => exact .byt b
  | set e => exact .set (s _ _ e)
  | kList e c => exact .kList e c
  | kTuple e c => exact .kTuple e c
  | kDict e c => exact .kDict e c
  | fTuple e => exact .fTuple (s _ _ e)
  | fDict e => exact .fDict (s _ _ e)
theorem Known.same {K : PySem.W.Frag} {H H' : Hp} {v : V} (h : Known K H v) (s : Same H H') : Known K H' v := by
  rcases h with h | ⟨t, a, b, c⟩
  · exact .inl h
  · exact .inr ⟨t, tyX_same a s, b, c⟩
section
variable {P : Program} {w : World} {K : PySem.W.Frag} {mg : Str → Option Value} {base : Heap}
theorem fm_some {α β : Type} (f : α → β) (xs : List α) : xs.filterMap (fun x => some (f x)) = xs.map f := congrFun List.filterMap_eq_map' xs
theorem all_done {α : Type} {H : Hp} {D : Addr} {xs : List α} {b : α → Bool} {Q : VK} (h : H D = some (.lst (xs.filterMap fun x => some (V.bl (b x))))) (q : Q (.bl (xs.all b)) H) : rAll K [.ref D] H Q := by
  rw [fm_some] at h
  refine ⟨D, xs.map b, rfl, SqL.of (by rw [h, List.map_map]; rfl), ?_⟩
  rw [List.all_map]
  exact q
theorem any_done {α : Type} {H : Hp} {D : Addr} {xs : List α} {b : α → Bool} {Q : VK} (h : H D = some (.lst (xs.filterMap fun x => some (V.bl (b x))))) (q : Q (.bl (xs.any b)) H) : rAny K [.ref D] H Q := by
  rw [fm_some] at h
  refine ⟨D, xs.map b, rfl, SqL.of (by rw [h, List.map_map]; rfl), ?_⟩
  rw [List.any_map]
  exact q
/-! ### is_variable -/
abbrev sIsVar : Stmt := top 8
def spIsVar (K : PySem.W.Frag) : Sp := fun vs H Q _ => ∃ v, vs = [v] ∧ Known K H v ∧ ∀ H', Same H H' → Q (.bl (varV v)) H'
theorem sc_isvar : FnScope ["value"] ["value"] (defScope sIsVar) := ⟨rfl, rfl, rfl, by decide +kernel, rfl, by decide +kernel, by decide +kernel⟩
theorem ok_isvar {f : Addr} {fd : FuncData} (G : Fun K "is_variable" "is_variable" sIsVar f fd) (B : Pts mg) : FnOk P w K mg base CX0 1 f fd ["value"] (spIsVar K) := by
  have sc := sc_isvar
  obtain ⟨tM, mM⟩ := B.most
  refine G.ok sc (fun vs H Q E h => ?_) (fun cdv A outer s H vs Q E hr h => ?_)
  · obtain ⟨v, rfl, _⟩ := h
    rfl
  · obtain ⟨v, rfl, kn, k⟩ := h
    refine ⟨_, pss_cons (ps_if (PW.pt (pw_or (pt_not (pt_val (pe_callB call_isi (by rfl) B.isinstance boot_isinstance (pa_cons (pv 0) (pa_cons (pe_bltn (v := .ty "str") (by rfl) B.str boot_str rfl) pa_nil)))))
        (pw_or1 (pt_cmpR op_gt (pe_callB call_len_str (by rfl) B.len boot_len (pa_cons (pv 0) pa_nil)) (pe_glob (v := .int 8) (by rfl) mM ⟨_, rfl⟩) (nomark _))))) (pss_one (ps_ret pe_bl)) pss_nil)
      (pss_one (ps_ret (pe_and (pe_bm0 PySem.F.plainAttrs_str PySem.F.slot_str_isascii PySem.F.type_str_isascii mt_isascii (pv 0))
        (pe_and (pe_bm0 PySem.F.plainAttrs_str PySem.F.slot_str_isalpha PySem.F.type_str_isalpha mt_isalpha (pv 0))
          (pe_one (pe_bm0 PySem.F.plainAttrs_str PySem.F.slot_str_islower PySem.F.type_str_islower mt_islower (pv 0))))))), ?_⟩
    rcases kn with ⟨z, rfl, hz⟩ | ⟨t, ty, ki, ne⟩
    · walk_at "go"
      refine ⟨.str z, .ty "str", _, _, true, rfl, .ty "str", .base (.str z), kit_ty (by decide +kernel), ?_⟩
      walk_at "go"
      refine ite2 (fun c1 => ?_) (fun c1 => ?_)
      · have c1 := of_decide_eq_true c1
        have e : varV (.str z) = false := by
          show lowZ z = false
          rw [low_fast, decide_eq_false (by omega), Bool.false_and]
        have q := k H (same_refl H)
        rw [e] at q
        exact q
      · have c3 : z.length ≤ 8 := by
          rcases Nat.lt_or_ge 8 z.length with h | h
          · exact absurd (decide_eq_true (show ((z.length : Nat) : Int) > 8 by omega)) c1
          · exact h
        have q := k H (same_refl H)
        have e : varV (.str z) = lowT z := by
          show lowZ z = _
          rw [low_fast, decide_eq_true c3, Bool.true_and]
        rw [e] at q
        unfold lowT at q
        refine ⟨_, rfl, rfl, z, rfl, rfl, True.intro, _, rfl, ?_⟩
        refine ite2 (fun i1 => ?_) (fun i1 => ?_)
        · rw [i1, Bool.true_and] at q
          refine ⟨_, rfl, rfl, z, rfl, rfl, True.intro, _, rfl, ?_⟩
          refine ite2 (fun i2 => ?_) (fun i2 => ?_)
          · rw [i2, Bool.true_and] at q
            exact ⟨_, rfl, rfl, z, rfl, rfl, True.intro, q⟩
          · rw [Bool.eq_false_iff.mpr i2, Bool.false_and] at q
            exact q
        · rw [Bool.eq_false_iff.mpr i1, Bool.false_and] at q
          exact q
    · walk_at "go"
      refine ⟨v, .ty "str", _, _, false, rfl, .ty "str", ty, ki, ?_⟩
      have e : varV v = false := by
        cases v with
        | str z => exact absurd rfl (ne z)
        | _ => rfl
      have q := k H (same_refl H)
      rw [e] at q
      exact ⟨_, rfl, q⟩
/-! ### bare, opposite, is_literal -/
abbrev sBare : Stmt := top 11
def spBare : Sp := fun vs H Q _ => ∃ z, vs = [.str z] ∧ z.length ≤ sizeLine ∧ Q (.str (bareS z)) H
theorem sc_bare : FnScope ["literal"] ["literal"] (defScope sBare) := ⟨rfl, rfl, rfl, by decide +kernel, rfl, by decide +kernel, by decide +kernel⟩
theorem ok_bare {f : Addr} {fd : FuncData} (G : Fun K "bare" "bare" sBare f fd) : FnOk P w K mg base CX0 1 f fd ["literal"] spBare := by
  have sc := sc_bare
  refine G.ok sc (fun vs H Q E h => ?_) (fun cdv A outer s H vs Q E hr h => ?_)
  · obtain ⟨v, rfl, _⟩ := h
    rfl
  · obtain ⟨z, rfl, hz, k⟩ := h
    refine ⟨_, pss_one (ps_ret (pe_bm PySem.F.plainAttrs_str PySem.F.slot_str_removeprefix PySem.F.type_str_removeprefix mt_removeprefix (pv 0) (pa_cons pe_str pa_nil))), ?_⟩
    refine ⟨_, rfl, rfl, z, dash, rfl, rfl, hz, k⟩
abbrev sOpp : Stmt := top 12
def spOpp : Sp := fun vs H Q _ => ∃ z, vs = [.str z] ∧ z.length + 1 ≤ sizeLine ∧ Q (.str (oppS z)) H
theorem sc_opp : FnScope ["literal"] ["literal"] (defScope sOpp) := ⟨rfl, rfl, rfl, by decide +kernel, rfl, by decide +kernel, by decide +kernel⟩
theorem ok_opp {f fB : Addr} {fd fdB : FuncData} (G : Fun K "opposite" "opposite" sOpp f fd) (mB : mg "bare" = some (.ref fB)) (GB : Fun K "bare" "bare" sBare fB fdB) (bB : Binds K fdB ["literal"] []) : FnOk P w K mg base CX0 2 f fd ["literal"] spOpp := by
  have sc := sc_opp
  have OB : FnOk P w K mg base CX0 1 fB fdB ["literal"] spBare := ok_bare GB
  refine G.ok sc (fun vs H Q E h => ?_) (fun cdv A outer s H vs Q E hr h => ?_)
  · obtain ⟨v, rfl, _⟩ := h
    rfl
  · obtain ⟨z, rfl, hz, k⟩ := h
    refine ⟨_, pss_cons (ps_if (pt_val (pe_bm PySem.F.plainAttrs_str PySem.F.slot_str_startswith PySem.F.type_str_startswith mt_startswith (pv 0) (pa_cons pe_str pa_nil)))
        (pss_one (ps_ret (pe_call OB hr rfl mB GB.kp bB .nil pass0 (pa_cons (pv 0) pa_nil)))) pss_nil)
      (pss_one (ps_ret (pe_op op_add_str pe_str (pv 0)))), ?_⟩
    refine ⟨_, rfl, rfl, z, dash, rfl, rfl, ?_⟩
    walk_at "go"
    refine ite2 (fun c => ?_) (fun c => ?_)
    · refine ⟨_, rfl, z, rfl, by omega, ?_⟩
      have e : oppS z = bareS z := if_pos c
      rw [e] at k
      exact k
    · have e : oppS z = dash ++ z := if_neg c
      rw [e] at k
      refine ⟨_, rfl, dash, z, rfl, rfl, ?_, k⟩
      show 1 + z.length ≤ sizeLine
      omega
abbrev sIsLit : Stmt := top 9
def spIsLit (K : PySem.W.Frag) : Sp := fun vs H Q _ => ∃ v, vs = [v] ∧ Known K H v ∧ ∀ H', Same H H' → Q (.bl (litV v)) H'
theorem sc_islit : FnScope ["value"] ["value"] (defScope sIsLit) := ⟨rfl, rfl, rfl, by decide +kernel, rfl, by decide +kernel, by decide +kernel⟩
theorem ok_islit {f fV : Addr} {fd fdV : FuncData} (G : Fun K "is_literal" "is_literal" sIsLit f fd) (B : Pts mg)
    (mV : mg "is_variable" = some (.ref fV)) (GV : Fun K "is_variable" "is_variable" sIsVar fV fdV) (bV : Binds K fdV ["value"] []) : FnOk P w K mg base CX0 2 f fd ["value"] (spIsLit K) := by
  have sc := sc_islit
  have OV : FnOk P w K mg base CX0 1 fV fdV ["value"] (spIsVar K) := ok_isvar GV B
  refine G.ok sc (fun vs H Q E h => ?_) (fun cdv A outer s H vs Q E hr h => ?_)
  · obtain ⟨v, rfl, _⟩ := h
    rfl
  · obtain ⟨v, rfl, kn, k⟩ := h
    refine ⟨_, pss_one (ps_ret (pe_and (pe_callB call_isi (by rfl) B.isinstance boot_isinstance (pa_cons (pv 0) (pa_cons (pe_bltn (v := .ty "str") (by rfl) B.str boot_str rfl) pa_nil)))
      (pe_one (pe_call OV hr rfl mV GV.kp bV .nil pass0 (pa_cons (pe_bm PySem.F.plainAttrs_str PySem.F.slot_str_removeprefix PySem.F.type_str_removeprefix mt_removeprefix (pv 0) (pa_cons pe_str pa_nil)) pa_nil))))), ?_⟩
    rcases kn with ⟨z, rfl, hz⟩ | ⟨t, ty, ki, ne⟩
    · walk_at "go"
      refine ⟨.str z, .ty "str", _, _, true, rfl, .ty "str", .base (.str z), kit_ty (by decide +kernel), ?_⟩
      refine ⟨_, rfl, iteT ?_⟩
      exact ⟨_, rfl, rfl, z, dash, rfl, rfl, hz, _, rfl, .inl ⟨_, rfl, bare_le z hz⟩, k⟩
    · walk_at "go"
      refine ⟨v, .ty "str", _, _, false, rfl, .ty "str", ty, ki, ?_⟩
      have e : litV v = false := by
        cases v with
        | str z => exact absurd rfl (ne z)
        | _ => rfl
      have q := k H (same_refl H)
      rw [e] at q
      exact ⟨_, rfl, q⟩
/-! ### in_order -/
abbrev sOrd : Stmt := top 13
def spOrd (K : PySem.W.Frag) : Sp := fun vs H Q _ => ∃ (a : Addr) (ys : List Str), vs = [.ref a] ∧ Sq K H a (ys.map V.str) ∧ ys.length < 64 ∧
  ∀ H' p (rs : List Str), Same H H' → H p = none → H' p = some (.tup (rs.map V.str)) → rs.Nodup → sortedS rs = true → (∀ y, y ∈ rs ↔ y ∈ ys) → rs.length ≤ ys.length → Q (.ref p) H'
theorem sc_ord : FnScope ["literals"] ["literals"] (defScope sOrd) := ⟨rfl, rfl, rfl, by decide +kernel, rfl, by decide +kernel, by decide +kernel⟩
theorem ok_ord {f : Addr} {fd : FuncData} (G : Fun K "in_order" "in_order" sOrd f fd) (B : Pts mg) : FnOk P w K mg base CX0 1 f fd ["literals"] (spOrd K) := by
  have sc := sc_ord
  refine G.ok sc (fun vs H Q E h => ?_) (fun cdv A outer s H vs Q E hr h => ?_)
  · obtain ⟨v, _, rfl, _⟩ := h
    rfl
  · obtain ⟨a, ys, rfl, hS, few, k⟩ := h
    refine ⟨_, pss_one (ps_ret (pe_callTy call_tuple_of (by rfl) B.tuple boot_tuple (pa_cons (pe_callB (cr_sortTx rfl) (by rfl) B.sorted (by decide +kernel) (pa_cons (pe_callTy (cr_setTx rfl) (by rfl) B.set boot_set (pa_cons (pv 0) pa_nil)) pa_nil)) pa_nil))), ?_⟩
    walk_at "go"
    refine ⟨a, ys, rfl, hS, by omega, fun q L nq nd hm hl => ?_⟩
    refine ⟨q, L, rfl, upd_same, by omega, fun rs r pm so nr => ?_⟩
    refine ⟨r, _, rfl, .inl ⟨SqL.of upd_same, fun t nt => ?_⟩⟩
    have s1 := same_new (o := SetTx P w q L) nq
    have s2 := same_trans s1 (same_new (o := .lst (rs.map V.str)) nr)
    exact k _ t rs (same_trans s2 (same_new nt)) (same_free s2 nt) upd_same (pm.nodup_iff.mpr nd) so (fun y => (pm.mem_iff).trans (hm y)) (by rw [pm.length_eq]; exact hl)
/-! ### ascends, are_literals, has_contraries -/
theorem walk_zipT {K : PySem.W.Frag} {a b : Addr} {xs ys : List V} {n : Nat} (hn : n = min xs.length ys.length) : Walk (ItzT K a b) n (fun H => SqT K H a xs ∧ SqT K H b ys) (YPair (fun i => xs[i]?) (fun i => ys[i]?)) := by
  subst hn
  refine ⟨fun i _ hi q => ?_, fun _ q => ⟨xs, ys, q.1, q.2, by omega⟩, fun i H v H' _ q y => ?_⟩
  · exact ⟨xs, ys, xs[i]'(by omega), ys[i]'(by omega), q.1, q.2, by simp [show i < xs.length by omega], by simp [show i < ys.length by omega]⟩
  · obtain ⟨T, x, z, h1, h2, h3, h4, h5⟩ := y
    exact ⟨T, x, z, h1, h2, h3, h4 xs q.1, h5 ys q.2⟩
abbrev sAsc : Stmt := top 14
def spAsc (K : PySem.W.Frag) : Sp := fun vs H Q _ => ∃ (a : Addr) (ys : List Str), vs = [.ref a] ∧ Sq K H a (ys.map V.str) ∧ ys.length < sizeLine ∧ ∀ H', Same H H' → Q (.bl (ascS ys)) H'
theorem sc_asc : FnScope ["values", "low", "high"] ["values"] (defScope sAsc) := ⟨rfl, rfl, rfl, by decide +kernel, rfl, by decide +kernel, by decide +kernel⟩
theorem cut1 (ys : List Str) : cutV (ys.map V.str) (some 1) none = (ys.drop 1).map V.str := by
  show ((ys.map V.str).drop (HT.sIx (ys.map V.str).length 0 (some ((1 : Nat) : Int)))).take (HT.sIx (ys.map V.str).length (ys.map V.str).length none - HT.sIx (ys.map V.str).length 0 (some ((1 : Nat) : Int))) = _
  rw [HT.sIx_nat, HT.sIx_none, List.length_map, List.map_drop]
  cases ys with
  | nil => rfl
  | cons y ys =>
    have e : min 1 (y :: ys).length = 1 := by rw [List.length_cons]; omega
    rw [e, List.take_of_length_le]
    rw [List.length_drop, List.length_map]
    exact Nat.le_refl _
theorem ok_asc {f : Addr} {fd : FuncData} (G : Fun K "ascends" "ascends" sAsc f fd) (B : Pts mg) : FnOk P w K mg base CX0 1 f fd ["values"] (spAsc K) := by
  have sc := sc_asc
  refine G.ok sc (fun vs H Q E h => ?_) (fun cdv A outer s H vs Q E hr h => ?_)
  · obtain ⟨v, _, rfl, _⟩ := h
    rfl
  · obtain ⟨a, ys, rfl, hS, few, k⟩ := h
    refine ⟨_, pss_one (ps_ret (pe_callB (cr_all rfl) (by rfl) B.all (by decide +kernel) (pa_cons (pe_lc (own := [("low", 1), ("high", 2)]) (g := gTup K 2 (gCons (gName 1) (gCons (gName 2) gNil))) (tt := tYes) rfl sc.nd
        (pi_zipA (by rfl) B.zip (pa_cons (pv 0) (pa_cons (pe_slice (SlR.or sl_list sl_tupA) (pv 0) (po_some pe_int) po_none) pa_nil)))
        (blkOk_by (N := ["values", "low", "high"]) (sc := defScope sAsc) (by decide +kernel)) (fun _ _ _ _ _ => pg_tup rfl (pgs_cons (pg_name (i := 1) sc.nd rfl (Or.inl rfl)) (pgs_cons (pg_name (i := 2) sc.nd rfl (Or.inl rfl)) pgs_nil))) (fun _ _ _ _ _ => pts_nil)
        (fun _ _ _ _ _ => pe_cmpR op_lt_str (pv 1) (pv 2) (nomark _))) pa_nil))), ?_⟩
    dsimp only [tRet, tCB, tCons, tNil]
    have ln : (ys.map V.str).length = ys.length := List.length_map ..
    have ld : ((ys.drop 1).map V.str).length = ys.length - 1 := by rw [List.length_map, List.length_drop]
    have mn : ys.length - 1 = min (ys.map V.str).length ((ys.drop 1).map V.str).length := by rw [ln, ld]; omega
    have fin : ∀ (J : It) (G : Hp → Prop) (H1 : Hp), Same H H1 → Walk J (ys.length - 1) G (YPair (fun i => (ys.map V.str)[i]?) fun i => ((ys.drop 1).map V.str)[i]?) → (∀ H2, Same H1 H2 → G H2) → ∀ D, H1 D = none → _ := fun J G H1 s1 w hG D nD =>
      fm_it (g := gTup K 2 (gCons (gName 1) (gCons (gName 2) gNil))) (tt := tYes) (te := tOp (fun x y H Q => ∃ i j, x = V.str i ∧ y = V.str j ∧ Q (V.bl (decide (i.cps.toList < j.cps.toList))) H) (tVar 1) (tVar 2)) (vs := [1, 2]) (σ := L2.start ["values", "low", "high"] [V.ref a])
        (Qd := fun H2 => rAll K [.ref D] H2 Q) w (fun i => ((ys.zip (ys.drop 1))[i]?).map fun p => .bl (ltS p.1 p.2)) nD (by omega) hG
        (fun i x H3 H4 Ψ Θ hi s3 y yes no => by
          obtain ⟨T, x, z, rfl, nT, rfl, hx, hz⟩ := y
          have i1 : i < ys.length := by omega
          have i2 : i < (ys.drop 1).length := by rw [List.length_drop]; exact hi
          have ex : V.str ys[i] = x := by
            have e : (ys.map V.str)[i]? = some x := hx
            rw [List.getElem?_map, List.getElem?_eq_getElem i1] at e
            exact Option.some.inj e
          have ez : V.str (ys.drop 1)[i] = z := by
            have e : ((ys.drop 1).map V.str)[i]? = some z := hz
            rw [List.getElem?_map, List.getElem?_eq_getElem i2] at e
            exact Option.some.inj e
          subst ex
          subst ez
          refine ⟨T, [_, _], rfl, SqT.of upd_same, rfl, _, [_], rfl, _, [], rfl, rfl, ?_⟩
          have q := yes (.bl (ltS ys[i] (ys.drop 1)[i])) (upd H3 T (.tup [.str ys[i], .str (ys.drop 1)[i]])) (by rw [List.getElem?_eq_getElem (by rw [List.length_zip]; omega), List.getElem_zip]; rfl) (same_new nT)
          exact ⟨rfl, _, rfl, _, rfl, _, _, rfl, rfl, q⟩)
        (fun H2 s2 h2 => all_done (xs := ys.zip (ys.drop 1)) (b := fun p => ltS p.1 p.2) (by
            have e := range_map (fun p : Str × Str => V.bl (ltS p.1 p.2)) (ys.zip (ys.drop 1))
            have el : (ys.zip (ys.drop 1)).length = ys.length - 1 := by rw [List.length_zip, List.length_drop]; omega
            rw [el] at e
            rw [h2, e, fm_some]) (k H2 (same_trans s1 s2)))
    rcases hS with hS | hS
    · refine ⟨_, rfl, _, rfl, _, rfl, .inl ⟨a, _, rfl, hS, fun p np => ?_⟩⟩
      rw [cut1]
      exact ⟨a, p, _, _, rfl, .inl ⟨sqL_same hS (same_new np), SqL.of upd_same, fun D nD => fin _ _ _ (same_new np) (walk_zip mn) (fun H2 s2 => ⟨sqL_same hS (same_trans (same_new np) s2), SqL.of (s2 _ _ upd_same)⟩) D nD⟩⟩
    · refine ⟨_, rfl, _, rfl, _, rfl, .inr ⟨a, _, rfl, hS, fun hw => ?_, fun _ p np => ?_⟩⟩
      · have z : ys = [] := by
          have h1 : HT.sIx (ys.map V.str).length 0 (some ((1 : Nat) : Int)) = 0 := hw.1
          rw [HT.sIx_nat, ln] at h1
          exact List.eq_nil_of_length_eq_zero (by omega)
        subst z
        exact ⟨a, a, _, _, rfl, .inr ⟨hS, hS, fun D nD => fin _ _ _ (same_refl H) (walk_zipT mn) (fun H2 s2 => ⟨sqT_same hS s2, sqT_same hS s2⟩) D nD⟩⟩
      · rw [cut1]
        exact ⟨a, p, _, _, rfl, .inr ⟨sqT_same hS (same_new np), SqT.of upd_same, fun D nD => fin _ _ _ (same_new np) (walk_zipT mn) (fun H2 s2 => ⟨sqT_same hS (same_trans (same_new np) s2), SqT.of (s2 _ _ upd_same)⟩) D nD⟩⟩
/-! ### are_literals -/
abbrev sAre : Stmt := top 15
def spAre (K : PySem.W.Frag) : Sp := fun vs H Q _ => ∃ (a : Addr) (xs : List V), vs = [.ref a] ∧ Sq K H a xs ∧ xs.length < sizeLine ∧ (∀ x ∈ xs, Known K H x) ∧ ∀ H', Same H H' → Q (.bl (xs.all litV)) H'
theorem sc_are : FnScope ["values", "value"] ["values"] (defScope sAre) := ⟨rfl, rfl, rfl, by decide +kernel, rfl, by decide +kernel, by decide +kernel⟩
theorem ok_are {f fI : Addr} {fd fdI : FuncData} (G : Fun K "are_literals" "are_literals" sAre f fd) (B : Pts mg) (mI : mg "is_literal" = some (.ref fI)) (kI : PySem.W.keepIn K (.ref fI) = true) (OI : FnOk P w K mg base CX0 2 fI fdI ["value"] (spIsLit K)) (bI : Binds K fdI ["value"] []) :
    FnOk P w K mg base CX0 3 f fd ["values"] (spAre K) := by
  have sc := sc_are
  refine G.ok sc (fun vs H Q E h => ?_) (fun cdv A outer s H vs Q E hr h => ?_)
  · obtain ⟨v, _, rfl, _⟩ := h
    rfl
  · obtain ⟨a, xs, rfl, hS, few, kn, k⟩ := h
    refine ⟨_, pss_one (ps_ret (pe_callB (cr_all rfl) (by rfl) B.all (by decide +kernel) (pa_cons (pe_lc (own := [("value", 1)]) (g := gName 1) (tt := tYes) rfl sc.nd (pi_sq (pv 0))
        (blkOk_by (N := ["values", "value"]) (sc := defScope sAre) (by decide +kernel)) (fun _ _ _ _ _ => pg_name (i := 1) sc.nd rfl (Or.inl rfl)) (fun _ _ _ _ _ => pts_nil)
        (fun _ _ _ _ _ => pe_call OI hr rfl mI kI bI .nil pass0 (pa_cons (pv 1) pa_nil))) pa_nil))), ?_⟩
    dsimp only [tRet, tCB, tCons, tNil]
    refine seq_lc (fun x => some (.bl (litV x))) rfl hS few (fun x H2 Ψ Θ hx s2 yes no => ?_) (fun H2 D s2 nD h2 => ?_)
    · walk_at "go"
      exact ⟨(kn x hx).same s2, fun H5 s5 => yes _ H5 rfl s5⟩
    · exact all_done h2 (k H2 s2)
theorem filt_fm {α β : Type} (f : α → Bool) (g : α → β) : ∀ ys : List α, ys.filterMap (fun y => if f y = true then some (g y) else none) = (ys.filter f).map g
  | [] => rfl
  | y :: ys => by
    rw [List.filterMap_cons, filt_fm f g ys]
    by_cases h : f y = true
    · rw [if_pos h, List.filter_cons_of_pos h]
      rfl
    · rw [if_neg h, List.filter_cons_of_neg h]
/-! ### has_contraries -/
theorem inV_strs (z : Str) (ys : List Str) : inV (.str z) (ys.map V.str) = decide (z ∈ ys) := by
  unfold inV
  rw [List.any_map]
  by_cases h : z ∈ ys
  · rw [decide_eq_true h]
    exact List.any_eq_true.mpr ⟨z, h, beq_self_eq_true z⟩
  · rw [decide_eq_false h]
    refine List.any_eq_false.mpr fun y hy e => h ?_
    have e2 : (y == z) = true := e
    rw [beq_iff_eq] at e2
    exact e2 ▸ hy
abbrev sHas : Stmt := top 16
def spHas (K : PySem.W.Frag) : Sp := fun vs H Q _ => ∃ (a : Addr) (ys : List Str), vs = [.ref a] ∧ Sq K H a (ys.map V.str) ∧ ys.length < sizeLine ∧ (∀ y ∈ ys, 1 ≤ y.length ∧ y.length + 1 ≤ sizeLine) ∧ ∀ H', Same H H' → Q (.bl (hasS ys)) H'
theorem sc_has : FnScope ["literals", "literal"] ["literals"] (defScope sHas) := ⟨rfl, rfl, rfl, by decide +kernel, rfl, by decide +kernel, by decide +kernel⟩
theorem ok_has {f : Addr} {fd : FuncData} (G : Fun K "has_contraries" "has_contraries" sHas f fd) (B : Pts mg) : FnOk P w K mg base CX0 1 f fd ["literals"] (spHas K) := by
  have sc := sc_has
  refine G.ok sc (fun vs H Q E h => ?_) (fun cdv A outer s H vs Q E hr h => ?_)
  · obtain ⟨v, _, rfl, _⟩ := h
    rfl
  · obtain ⟨a, ys, rfl, hS, few, sz, k⟩ := h
    refine ⟨_, pss_one (ps_ret (pe_callB (cr_any rfl) (by rfl) B.any (by decide +kernel) (pa_cons (pe_lc (own := [("literal", 1)]) (g := gName 1) (te := tOp (rIn K false) _ (tVar 0)) rfl sc.nd (pi_sq (pv 0))
        (blkOk_by (N := ["literals", "literal"]) (sc := defScope sHas) (by decide +kernel)) (fun _ _ _ _ _ => pg_name (i := 1) sc.nd rfl (Or.inl rfl)) (fun _ _ _ _ _ => pts_one (pt_cmpR op_eq (pe_ix ix_str (pv 1) pe_int (fun _ _ => rfl)) pe_str (nomark _)))
        (fun _ _ _ _ _ => pe_cmpR op_in_seq (pe_slice sl_str (pv 1) (po_some pe_int) po_none) (pv 0) (by rfl))) pa_nil))), ?_⟩
    dsimp only [tRet, tCB, tCons, tNil]
    refine seq_lc (fun x => match x with | .str z => if negS z = true then some (.bl (inV (.str (bareS z)) (ys.map V.str))) else none | _ => none) rfl hS (by rw [List.length_map]; exact few) (fun x H2 Ψ Θ hx s2 yes no => ?_) (fun H2 D s2 nD h2 => ?_)
    · obtain ⟨y, hy, rfl⟩ := List.mem_map.mp hx
      obtain ⟨h1, h9⟩ := sz y hy
      obtain ⟨c, hc, hn⟩ := first_cps h1
      walk_at "go"
      refine ⟨y, 0, c, rfl, rfl, by omega, atI_nat (j := 0) hc, rfl, _, rfl, ?_⟩
      have e0 : decide (V.str ⟨#[c]⟩ = V.str dash) = negS y := by rw [one_sign, hn]
      show if decide (V.str ⟨#[c]⟩ = V.str dash) = true then _ else _
      rw [e0]
      by_cases n : negS y = true
      · rw [if_pos n]
        refine ⟨_, rfl, _, rfl, y, rfl, by omega, ?_⟩
        rw [cut_one h1 n]
        refine ⟨_, rfl, a, _, rfl, hS.same s2, rfl, flat_strs ys, ?_⟩
        exact yes _ H2 (if_pos n) (same_refl _)
      · rw [if_neg n]
        exact no H2 (if_neg n) (same_refl _)
    · rw [← con_has] at k
      refine any_done (xs := ys.filter negS) (b := fun y => decide (bareS y ∈ ys)) ?_ (k H2 s2)
      rw [h2, fm_some, List.filterMap_map]
      congr 2
      rw [← filt_fm]
      refine fm_congr fun y _ => ?_
      show (if negS y = true then some (V.bl (inV (.str (bareS y)) (ys.map V.str))) else none) = _
      rw [inV_strs]
/-! ### is_clause -/
abbrev sIsCl : Stmt := top 10
def spIsCl (K : PySem.W.Frag) : Sp := fun vs H Q _ => ∃ v, vs = [v] ∧ ((∃ (a : Addr) (xs : List V), v = .ref a ∧ SqT K H a xs ∧ xs.length < sizeLine ∧ (∀ x ∈ xs, Known K H x) ∧ ∀ H', Same H H' → Q (.bl (clV xs)) H') ∨
  (∃ t, TyX K H v t ∧ PySem.W.kitOne K t (.type "tuple") = some false ∧ Q (.bl false) H))
theorem sc_iscl : FnScope ["value", "last", "literal"] ["value"] (defScope sIsCl) := ⟨rfl, rfl, rfl, by decide +kernel, rfl, by decide +kernel, by decide +kernel⟩
theorem tup_ty {H : Hp} {a : Addr} {xs : List V} (h : SqT K H a xs) : TyX K H (.ref a) (.type "tuple") := by
  rcases h with (h | ⟨o, h⟩) | ⟨o, its, n, h, hc, _⟩
  · exact .base (.tup h)
  · exact .fTuple h
  · exact .kTuple h hc
theorem lst_ty {H : Hp} {a : Addr} {xs : List V} (h : SqL K H a xs) : TyX K H (.ref a) (.type "list") := by
  rcases h with (h | ⟨o, h⟩) | ⟨o, its, n, h, hc, _⟩
  · exact .base (.lst h)
  · exact .base (.frz h)
  · exact .kList h hc
theorem ok_iscl {f fL fC : Addr} {fd fdL fdC : FuncData} (G : Fun K "is_clause" "is_clause" sIsCl f fd) (B : Pts mg) (mL : mg "is_literal" = some (.ref fL)) (kL : PySem.W.keepIn K (.ref fL) = true) (OL : FnOk P w K mg base CX0 2 fL fdL ["value"] (spIsLit K)) (bL : Binds K fdL ["value"] [])
    (mC : mg "has_contraries" = some (.ref fC)) (kC : PySem.W.keepIn K (.ref fC) = true) (OC : FnOk P w K mg base CX0 1 fC fdC ["literals"] (spHas K)) (bC : Binds K fdC ["literals"] []) : FnOk P w K mg base CX0 4 f fd ["value"] (spIsCl K) := by
  have sc := sc_iscl
  refine G.ok sc (fun vs H Q E h => ?_) (fun cdv A outer s H vs Q E hr h => ?_)
  · obtain ⟨v, rfl, _⟩ := h
    rfl
  · obtain ⟨v, rfl, h⟩ := h
    have hr1 : Room 1 _ := hr.mono (by decide)
    have hr2 : Room 2 _ := hr.mono (by decide)
    refine ⟨_, pss_cons (ps_if (pt_not (pt_val (pe_callB call_isi (by rfl) B.isinstance boot_isinstance (pa_cons (pv 0) (pa_cons (pe_bltn (v := .ty "tuple") (by rfl) B.tuple boot_tuple rfl) pa_nil))))) (pss_one (ps_ret pe_bl)) pss_nil)
      (pss_cons (ps_set (i := 1) sc.nd rfl (Or.inl rfl) pe_str)
      (pss_cons (ps_for PassesOwn.never rfl (pi_tup (pv 0)) (pg_name (i := 2) sc.nd rfl (Or.inl rfl))
        (pss_cons (ps_if (PW.pt (pw_or (pt_not (pt_val (pe_call OL hr2 rfl mL kL bL .nil pass0 (pa_cons (pv 2) pa_nil)))) (pw_or1 (pt_cmpR op_le_str (pv 2) (pv 1) (nomark _))))) (pss_one (ps_ret pe_bl)) pss_nil)
        (pss_one (ps_set (i := 1) sc.nd rfl (Or.inl rfl) (pv 2)))))
      (pss_one (ps_ret (pe_not (pe_call OC hr1 rfl mC kC bC .nil pass0 (pa_cons (pv 0) pa_nil))))))), ?_⟩
    rcases h with ⟨a, xs, rfl, hS, few, kn, k⟩ | ⟨t, ty, ki, k⟩
    · walk_at "go"
      refine ⟨.ref a, .ty "tuple", _, _, true, rfl, .ty "tuple", tup_ty hS, kit_ty (by decide +kernel), ?_⟩
      refine ⟨_, rfl, iteF ?_⟩
      refine ⟨_, rfl, a, rfl, ⟨_, hS⟩, ?_⟩
      have fail : ∀ H2, Same H H2 → walkC "" xs = false → Q (.bl false) H2 := fun H2 s2 e => by
        have q := k H2 s2
        rw [clV_walk, e, Bool.false_and] at q
        exact q
      refine for_tup (xs := xs) (fun i σ H2 => Same H H2 ∧ ∃ (last : Str) (o : Option V), σ = [some (.ref a), some (.str last), o] ∧ walkC "" xs = walkC last (xs.drop i)) ⟨same_refl H, "", none, rfl, rfl⟩ (fun i σ H2 hi h => sqT_same hS h.1) ?_ ?_
      · rintro i x σ H2 hx ⟨s2, last, o, rfl, ew⟩
        have hi : i < xs.length := by
          rcases Nat.lt_or_ge i xs.length with h | h
          · exact h
          · rw [List.getElem?_eq_none h] at hx
            cases hx
        have ed : xs.drop i = x :: xs.drop (i + 1) := by
          rw [List.drop_eq_getElem_cons hi]
          congr 1
          rw [List.getElem?_eq_getElem hi] at hx
          exact Option.some.inj hx
        rw [ed] at ew
        have mx : x ∈ xs := List.mem_of_getElem? hx
        refine ⟨_, rfl, _, rfl, (kn x mx).same s2, fun H3 s3 => ?_⟩
        have s13 := same_trans s2 s3
        refine ⟨_, rfl, ?_⟩
        by_cases c : litV x = true
        · rw [c]
          refine iteF ?_
          cases x with
          | str z =>
            refine ⟨_, rfl, _, rfl, z, last, rfl, rfl, _, rfl, ?_⟩
            have ez : walkC last (.str z :: xs.drop (i + 1)) = (litS z && ltS last z && walkC z (xs.drop (i + 1))) := rfl
            rw [ez, show litS z = true from c, Bool.true_and] at ew
            refine ite2 (fun n => ?_) (fun n => ?_)
            · refine fail H3 s13 ?_
              have e2 : ltS last z = false := by
                unfold ltS
                simpa using n
              rw [ew, e2, Bool.false_and]
            · refine ⟨_, rfl, s13, z, _, rfl, ?_⟩
              have e2 : ltS last z = true := by
                unfold ltS
                simpa using n
              rw [ew, e2, Bool.true_and]
          | _ => exact (Bool.false_ne_true c).elim
        · rw [Bool.eq_false_iff.mpr c]
          refine iteT (fail H3 s13 ?_)
          rw [ew]
          exact walkC_cons _ _ _ (Bool.eq_false_iff.mpr c)
      · rintro σ H2 ⟨s2, last, o, rfl, ew⟩
        rw [List.drop_length] at ew
        have et : walkC "" xs = true := ew
        have c : xs.all litV = true := by
          rw [walkC_top, Bool.and_eq_true] at et
          exact et.1
        have e := strs_of_lit c
        have len : (strsV xs).length = xs.length := by
          have e2 := congrArg List.length e
          rw [List.length_map] at e2
          exact e2.symm
        refine ⟨_, rfl, a, strsV xs, rfl, .inr (by rw [← e]; exact sqT_same hS s2), by omega, fun y hy => ?_, fun H3 s3 => ?_⟩
        · have hm : V.str y ∈ xs := by
            rw [e]
            exact List.mem_map.mpr ⟨y, hy, rfl⟩
          have ly : litS y = true := List.all_eq_true.mp c _ hm
          have l9 := lit_short ly
          refine ⟨lit_pos ly, ?_⟩
          rw [sizeLine_eq]
          omega
        · have q := k H3 (same_trans s2 s3)
          rw [clV_walk, et, Bool.true_and] at q
          exact ⟨_, rfl, q⟩
    · walk_at "go"
      refine ⟨v, .ty "tuple", _, _, false, rfl, .ty "tuple", ty, ki, ?_⟩
      exact ⟨_, rfl, iteT k⟩
/-! ### what is asked of clauses -/
def clS (ys : List Str) : Bool := ys.all litS && ascS ys && !hasS ys
theorem strsV_map : ∀ ys : List Str, strsV (ys.map V.str) = ys
  | [] => rfl
  | y :: ys => by
    show y :: strsV (ys.map V.str) = y :: ys
    rw [strsV_map ys]
theorem clV_strs (ys : List Str) : clV (ys.map V.str) = clS ys := by
  unfold clV clS
  rw [strsV_map, List.all_map]
  rfl
/-- a clause at a -/
def ClAt (K : PySem.W.Frag) (H : Hp) (a : Addr) (ys : List Str) : Prop := SqT K H a (ys.map V.str) ∧ clS ys = true ∧ ys.length < 30
theorem ClAt.same {H H' : Hp} {a : Addr} {ys : List Str} (h : ClAt K H a ys) (s : Same H H') : ClAt K H' a ys := ⟨sqT_same h.1 s, h.2⟩
theorem ClAt.lits {H : Hp} {a : Addr} {ys : List Str} (h : ClAt K H a ys) : ys.all litS = true := by
  have e := h.2.1
  unfold clS at e
  rw [Bool.and_eq_true, Bool.and_eq_true] at e
  exact e.1.1
theorem lit_len {ys : List Str} (h : ys.all litS = true) : ∀ y ∈ ys, y.length ≤ 9 := fun y hy => lit_short (List.all_eq_true.mp h y hy)
theorem lit_line {ys : List Str} (h : ys.all litS = true) : ∀ y ∈ ys, y.length + 1 ≤ sizeLine := fun y hy => Nat.le_trans (Nat.add_le_add_right (lit_len h y hy) 1) (by decide)
theorem lit_has {ys : List Str} (h : ys.all litS = true) : ∀ y ∈ ys, 1 ≤ y.length ∧ y.length + 1 ≤ sizeLine := fun y hy => ⟨lit_pos (List.all_eq_true.mp h y hy), lit_line h y hy⟩
theorem lit_line0 {ys : List Str} (h : ys.all litS = true) : ∀ y ∈ ys, y.length ≤ sizeLine := fun y hy => Nat.le_trans (lit_len h y hy) (by decide)
theorem lit_known {H : Hp} {ys : List Str} (h : ys.all litS = true) : ∀ x ∈ ys.map V.str, Known K H x := fun x hx => by
  obtain ⟨y, hy, rfl⟩ := List.mem_map.mp hx
  exact .inl ⟨y, rfl, lit_line0 h y hy⟩
/-- rs are the texts ys in order, each once -/
structure InOrd (rs ys : List Str) : Prop where
  nd : rs.Nodup
  up : sortedS rs = true
  mem : ∀ y, y ∈ rs ↔ y ∈ ys
  le : rs.length ≤ ys.length
/-- a new tuple of ys in order is returned, nothing else is changed -/
def Made (H : Hp) (Q : VK) (ys : List Str) : Prop := ∀ H' p rs, Same H H' → H p = none → H' p = some (.tup (rs.map V.str)) → InOrd rs ys → Q (.ref p) H'
abbrev sNeedL : Stmt := top 19
def spNeedL : Sp := fun vs H Q _ => ∃ z, vs = [.str z] ∧ litS z = true ∧ ∀ H', Same H H' → Q .non H'
theorem sc_needl : FnScope ["literal"] ["literal"] (defScope sNeedL) := ⟨rfl, rfl, rfl, by decide +kernel, rfl, by decide +kernel, by decide +kernel⟩
theorem ok_needl {f fI : Addr} {fd fdI : FuncData} (G : Fun K "need_literal" "need_literal" sNeedL f fd) (mI : mg "is_literal" = some (.ref fI)) (kI : PySem.W.keepIn K (.ref fI) = true) (OI : FnOk P w K mg base CX0 2 fI fdI ["value"] (spIsLit K)) (bI : Binds K fdI ["value"] []) :
    FnOk P w K mg base CX0 3 f fd ["literal"] spNeedL := by
  have sc := sc_needl
  refine G.ok sc (fun vs H Q E h => ?_) (fun cdv A outer s H vs Q E hr h => ?_)
  · obtain ⟨v, rfl, _⟩ := h
    rfl
  · obtain ⟨z, rfl, lz, k⟩ := h
    refine ⟨_, pss_one (ps_if (pt_not (pt_val (pe_call OI hr rfl mI kI bI .nil pass0 (pa_cons (pv 0) pa_nil)))) (pss_one ps_never) pss_nil), ?_⟩
    refine ⟨_, rfl, .str z, rfl, .inl ⟨z, rfl, Nat.le_trans (lit_short lz) (by decide)⟩, fun H1 s1 => ?_⟩
    refine ⟨_, rfl, ?_⟩
    have e : litV (.str z) = true := lz
    rw [e]
    exact k H1 s1
abbrev sNeedC : Stmt := top 20
def spNeedC (K : PySem.W.Frag) : Sp := fun vs H Q _ => ∃ (a : Addr) (ys : List Str), vs = [.ref a] ∧ ClAt K H a ys ∧ ∀ H', Same H H' → Q .non H'
theorem sc_needc : FnScope ["clause"] ["clause"] (defScope sNeedC) := ⟨rfl, rfl, rfl, by decide +kernel, rfl, by decide +kernel, by decide +kernel⟩
theorem ok_needc {f fI : Addr} {fd fdI : FuncData} (G : Fun K "need_clause" "need_clause" sNeedC f fd) (mI : mg "is_clause" = some (.ref fI)) (kI : PySem.W.keepIn K (.ref fI) = true) (OI : FnOk P w K mg base CX0 4 fI fdI ["value"] (spIsCl K)) (bI : Binds K fdI ["value"] []) :
    FnOk P w K mg base CX0 5 f fd ["clause"] (spNeedC K) := by
  have sc := sc_needc
  refine G.ok sc (fun vs H Q E h => ?_) (fun cdv A outer s H vs Q E hr h => ?_)
  · obtain ⟨v, _, rfl, _⟩ := h
    rfl
  · obtain ⟨a, ys, rfl, cl, k⟩ := h
    refine ⟨_, pss_one (ps_if (pt_not (pt_val (pe_call OI hr rfl mI kI bI .nil pass0 (pa_cons (pv 0) pa_nil)))) (pss_one ps_never) pss_nil), ?_⟩
    refine ⟨_, rfl, .ref a, rfl, .inl ⟨a, _, rfl, cl.1, ?_, lit_known cl.lits, fun H1 s1 => ?_⟩⟩
    · rw [List.length_map, sizeLine_eq]
      exact Nat.lt_trans cl.2.2 (by decide)
    · refine ⟨_, rfl, ?_⟩
      rw [clV_strs, cl.2.1]
      exact k H1 s1
abbrev sNeedCs : Stmt := top 21
def spNeedCs (K : PySem.W.Frag) : Sp := fun vs H Q _ => ∃ (a b : Addr) (ys zs : List Str), vs = [.ref a, .ref b] ∧ ClAt K H a ys ∧ ClAt K H b zs ∧ ∀ H', Same H H' → Q .non H'
theorem sc_needcs : FnScope ["one", "other"] ["one", "other"] (defScope sNeedCs) := ⟨rfl, rfl, rfl, by decide +kernel, rfl, by decide +kernel, by decide +kernel⟩
theorem ok_needcs {f fI : Addr} {fd fdI : FuncData} (G : Fun K "need_clauses" "need_clauses" sNeedCs f fd) (mI : mg "need_clause" = some (.ref fI)) (kI : PySem.W.keepIn K (.ref fI) = true) (OI : FnOk P w K mg base CX0 5 fI fdI ["clause"] (spNeedC K)) (bI : Binds K fdI ["clause"] []) :
    FnOk P w K mg base CX0 6 f fd ["one", "other"] (spNeedCs K) := by
  have sc := sc_needcs
  refine G.ok sc (fun vs H Q E h => ?_) (fun cdv A outer s H vs Q E hr h => ?_)
  · obtain ⟨v, _, _, _, rfl, _⟩ := h
    rfl
  · obtain ⟨a, b, ys, zs, rfl, c1, c2, k⟩ := h
    refine ⟨_, pss_cons (ps_expr (pe_call OI hr rfl mI kI bI .nil pass0 (pa_cons (pv 0) pa_nil))) (pss_one (ps_expr (pe_call OI hr rfl mI kI bI .nil pass0 (pa_cons (pv 1) pa_nil)))), ?_⟩
    refine ⟨_, rfl, a, ys, rfl, c1, fun H1 s1 => ?_⟩
    refine ⟨_, rfl, b, zs, rfl, c2.same s1, fun H2 s2 => k H2 (same_trans s1 s2)⟩
/-! ### of one literal -/
abbrev sContr : Stmt := top 22
def spOneL (g : Str → Str) : Sp := fun vs H Q _ => ∃ z, vs = [.str z] ∧ litS z = true ∧ ∀ H', Same H H' → Q (.str (g z)) H'
theorem sc_contr : FnScope ["literal"] ["literal"] (defScope sContr) := ⟨rfl, rfl, rfl, by decide +kernel, rfl, by decide +kernel, by decide +kernel⟩
theorem ok_contr {f fN fO : Addr} {fd fdN fdO : FuncData} (G : Fun K "contrary" "contrary" sContr f fd) (mN : mg "need_literal" = some (.ref fN)) (kN : PySem.W.keepIn K (.ref fN) = true) (ON : FnOk P w K mg base CX0 3 fN fdN ["literal"] spNeedL) (bN : Binds K fdN ["literal"] [])
    (mO : mg "opposite" = some (.ref fO)) (kO : PySem.W.keepIn K (.ref fO) = true) (OO : FnOk P w K mg base CX0 2 fO fdO ["literal"] spOpp) (bO : Binds K fdO ["literal"] []) : FnOk P w K mg base CX0 4 f fd ["literal"] (spOneL oppS) := by
  have sc := sc_contr
  refine G.ok sc (fun vs H Q E h => ?_) (fun cdv A outer s H vs Q E hr h => ?_)
  · obtain ⟨v, rfl, _⟩ := h
    rfl
  · obtain ⟨z, rfl, lz, k⟩ := h
    have hr1 : Room 2 _ := hr.mono (by decide)
    refine ⟨_, pss_cons (ps_expr (pe_call ON hr rfl mN kN bN .nil pass0 (pa_cons (pv 0) pa_nil))) (pss_one (ps_ret (pe_call OO hr1 rfl mO kO bO .nil pass0 (pa_cons (pv 0) pa_nil)))), ?_⟩
    refine ⟨_, rfl, z, rfl, lz, fun H1 s1 => ?_⟩
    exact ⟨_, rfl, z, rfl, Nat.le_trans (Nat.add_le_add_right (lit_short lz) 1) (by decide), k H1 s1⟩
abbrev sVarOf : Stmt := top 23
theorem sc_varof : FnScope ["literal"] ["literal"] (defScope sVarOf) := ⟨rfl, rfl, rfl, by decide +kernel, rfl, by decide +kernel, by decide +kernel⟩
theorem ok_varof {f fN fO : Addr} {fd fdN fdO : FuncData} (G : Fun K "variable_of" "variable_of" sVarOf f fd) (mN : mg "need_literal" = some (.ref fN)) (kN : PySem.W.keepIn K (.ref fN) = true) (ON : FnOk P w K mg base CX0 3 fN fdN ["literal"] spNeedL) (bN : Binds K fdN ["literal"] [])
    (mO : mg "bare" = some (.ref fO)) (kO : PySem.W.keepIn K (.ref fO) = true) (OO : FnOk P w K mg base CX0 1 fO fdO ["literal"] spBare) (bO : Binds K fdO ["literal"] []) : FnOk P w K mg base CX0 4 f fd ["literal"] (spOneL bareS) := by
  have sc := sc_varof
  refine G.ok sc (fun vs H Q E h => ?_) (fun cdv A outer s H vs Q E hr h => ?_)
  · obtain ⟨v, rfl, _⟩ := h
    rfl
  · obtain ⟨z, rfl, lz, k⟩ := h
    have hr1 : Room 1 _ := hr.mono (by decide)
    refine ⟨_, pss_cons (ps_expr (pe_call ON hr rfl mN kN bN .nil pass0 (pa_cons (pv 0) pa_nil))) (pss_one (ps_ret (pe_call OO hr1 rfl mO kO bO .nil pass0 (pa_cons (pv 0) pa_nil)))), ?_⟩
    refine ⟨_, rfl, z, rfl, lz, fun H1 s1 => ?_⟩
    exact ⟨_, rfl, z, rfl, Nat.le_trans (lit_short lz) (by decide), k H1 s1⟩
/-! ### clause_of -/
abbrev sClOf : Stmt := top 24
def spClOf (K : PySem.W.Frag) : Sp := fun vs H Q _ => ∃ (a : Addr) (ys : List Str), vs = [.ref a] ∧ SqL K H a (ys.map V.str) ∧ ys.all litS = true ∧ hasS ys = false ∧ ys.length < 60 ∧ Made H Q ys
theorem sc_clof : FnScope ["literals"] ["literals"] (defScope sClOf) := ⟨rfl, rfl, rfl, by decide +kernel, rfl, by decide +kernel, by decide +kernel⟩
theorem litV_all (ys : List Str) : (ys.map V.str).all litV = ys.all litS := by
  rw [List.all_map]
  rfl
theorem ok_clof {f fA fC fO : Addr} {fd fdA fdC fdO : FuncData} (G : Fun K "clause_of" "clause_of" sClOf f fd) (B : Pts mg) (mA : mg "are_literals" = some (.ref fA)) (kA : PySem.W.keepIn K (.ref fA) = true) (OA : FnOk P w K mg base CX0 3 fA fdA ["values"] (spAre K)) (bA : Binds K fdA ["values"] [])
    (mC : mg "has_contraries" = some (.ref fC)) (kC : PySem.W.keepIn K (.ref fC) = true) (OC : FnOk P w K mg base CX0 1 fC fdC ["literals"] (spHas K)) (bC : Binds K fdC ["literals"] [])
    (mO : mg "in_order" = some (.ref fO)) (kO : PySem.W.keepIn K (.ref fO) = true) (OO : FnOk P w K mg base CX0 1 fO fdO ["literals"] (spOrd K)) (bO : Binds K fdO ["literals"] []) : FnOk P w K mg base CX0 4 f fd ["literals"] (spClOf K) := by
  have sc := sc_clof
  refine G.ok sc (fun vs H Q E h => ?_) (fun cdv A outer s H vs Q E hr h => ?_)
  · obtain ⟨v, _, rfl, _⟩ := h
    rfl
  · obtain ⟨a, ys, rfl, hS, lt, nh, few, k⟩ := h
    have hr1 : Room 1 _ := hr.mono (by decide)
    have few2 : ys.length < sizeLine := Nat.lt_trans few (by decide)
    refine ⟨_, pss_cons (ps_if (PW.pt (pw_or (pt_not (pt_val (pe_callB call_isi (by rfl) B.isinstance boot_isinstance (pa_cons (pv 0) (pa_cons (pe_bltn (v := .ty "list") (by rfl) B.list boot_list rfl) pa_nil)))))
        (pw_or (pt_not (pt_val (pe_call OA hr rfl mA kA bA .nil pass0 (pa_cons (pv 0) pa_nil)))) (pw_or1 (pt_val (pe_call OC hr1 rfl mC kC bC .nil pass0 (pa_cons (pv 0) pa_nil))))))) (pss_one ps_never) pss_nil)
      (pss_one (ps_ret (pe_call OO hr1 rfl mO kO bO .nil pass0 (pa_cons (pv 0) pa_nil)))), ?_⟩
    walk_at "go"
    refine ⟨.ref a, .ty "list", _, _, true, rfl, .ty "list", lst_ty hS, kit_ty (by decide +kernel), ?_⟩
    walk_at "go"
    refine ⟨a, _, rfl, .inl hS, by rw [List.length_map]; exact few2, lit_known lt, fun H1 s1 => ?_⟩
    refine ⟨_, rfl, ?_⟩
    rw [litV_all, lt]
    refine ⟨_, rfl, a, ys, rfl, .inl (sqL_same hS s1), few2, lit_has lt, fun H2 s2 => ?_⟩
    refine ⟨_, rfl, ?_⟩
    rw [nh]
    have s12 := same_trans s1 s2
    refine ⟨_, rfl, a, ys, rfl, .inl (sqL_same hS s12), by omega, fun H3 p rs s3 np hp nd so mem le => ?_⟩
    exact k H3 p rs (same_trans s12 s3) (same_free s12 np) hp ⟨nd, so, mem, le⟩
/-! ### variables_in -/
abbrev sVarsIn : Stmt := top 25
def spVarsIn (K : PySem.W.Frag) : Sp := fun vs H Q _ => ∃ (a : Addr) (ys : List Str), vs = [.ref a] ∧ ClAt K H a ys ∧
  ∀ H' p (rs : List Str), Same H H' → H p = none → H' p = some (.lst (rs.map V.str)) → rs.Perm (ys.map bareS) → sortedS rs = true → Q (.ref p) H'
theorem sc_varsin : FnScope ["clause", "literal"] ["clause"] (defScope sVarsIn) := ⟨rfl, rfl, rfl, by decide +kernel, rfl, by decide +kernel, by decide +kernel⟩
theorem ok_varsin {f fN fB : Addr} {fd fdN fdB : FuncData} (G : Fun K "variables_in" "variables_in" sVarsIn f fd) (B : Pts mg) (mN : mg "need_clause" = some (.ref fN)) (kN : PySem.W.keepIn K (.ref fN) = true) (ON : FnOk P w K mg base CX0 5 fN fdN ["clause"] (spNeedC K)) (bN : Binds K fdN ["clause"] [])
    (mB : mg "bare" = some (.ref fB)) (kB : PySem.W.keepIn K (.ref fB) = true) (OB : FnOk P w K mg base CX0 1 fB fdB ["literal"] spBare) (bB : Binds K fdB ["literal"] []) : FnOk P w K mg base CX0 6 f fd ["clause"] (spVarsIn K) := by
  have sc := sc_varsin
  refine G.ok sc (fun vs H Q E h => ?_) (fun cdv A outer s H vs Q E hr h => ?_)
  · obtain ⟨v, _, rfl, _⟩ := h
    rfl
  · obtain ⟨a, ys, rfl, cl, k⟩ := h
    have hr1 : Room 1 _ := hr.mono (by decide)
    have few2 : (ys.map V.str).length < sizeLine := by
      rw [List.length_map]
      exact Nat.lt_trans cl.2.2 (by decide)
    refine ⟨_, pss_cons (ps_expr (pe_call ON hr rfl mN kN bN .nil pass0 (pa_cons (pv 0) pa_nil)))
      (pss_one (ps_ret (pe_callB cr_sortedS (by rfl) B.sorted (by decide +kernel) (pa_cons (pe_lc (own := [("literal", 1)]) (g := gName 1) (tt := tYes) rfl sc.nd (pi_sq (pv 0))
        (blkOk_by (N := ["clause", "literal"]) (sc := defScope sVarsIn) (by decide +kernel)) (fun _ _ _ _ _ => pg_name (i := 1) sc.nd rfl (Or.inl rfl)) (fun _ _ _ _ _ => pts_nil)
        (fun _ _ _ _ _ => pe_call OB hr1 rfl mB kB bB .nil pass0 (pa_cons (pv 1) pa_nil))) pa_nil)))), ?_⟩
    refine ⟨_, rfl, a, ys, rfl, cl, fun H1 s1 => ?_⟩
    dsimp only [tRet, tCB, tCons, tNil]
    refine seq_lc (fun | .str z => some (.str (bareS z)) | x => some x) rfl (.inr (sqT_same cl.1 s1)) few2 (fun x H2 Ψ Θ hx s2 yes no => ?_) (fun H2 D s2 nD h2 => ?_)
    · obtain ⟨y, hy, rfl⟩ := List.mem_map.mp hx
      walk_at "go"
      exact ⟨lit_line0 cl.lits y hy, yes _ H2 rfl (same_refl _)⟩
    · have e : (ys.map V.str).filterMap (fun | .str z => some (V.str (bareS z)) | x => some x) = (ys.map bareS).map V.str := by
        rw [List.filterMap_map, List.map_map]
        exact fm_some (fun y => V.str (bareS y)) ys
      rw [e] at h2
      refine ⟨D, ys.map bareS, rfl, SqL.of h2, by rw [List.length_map]; exact Nat.lt_trans cl.2.2 (by decide), fun rs p pm so np => ?_⟩
      have s12 := same_trans s1 s2
      exact k _ p rs (same_trans s12 (same_new np)) (same_free s12 np) upd_same pm so
/-! ### of two clauses -/
abbrev sWithin : Stmt := top 26
def spWithin (K : PySem.W.Frag) : Sp := fun vs H Q _ => ∃ (a b : Addr) (ys zs : List Str), vs = [.ref a, .ref b] ∧ ClAt K H a ys ∧ ClAt K H b zs ∧ ∀ H', Same H H' → Q (.bl (ys.all fun y => decide (y ∈ zs))) H'
theorem sc_within : FnScope ["one", "other", "literal"] ["one", "other"] (defScope sWithin) := ⟨rfl, rfl, rfl, by decide +kernel, rfl, by decide +kernel, by decide +kernel⟩
theorem ok_within {f fN : Addr} {fd fdN : FuncData} (G : Fun K "is_within" "is_within" sWithin f fd) (B : Pts mg) (mN : mg "need_clauses" = some (.ref fN)) (kN : PySem.W.keepIn K (.ref fN) = true) (ON : FnOk P w K mg base CX0 6 fN fdN ["one", "other"] (spNeedCs K)) (bN : Binds K fdN ["one", "other"] []) : FnOk P w K mg base CX0 7 f fd ["one", "other"] (spWithin K) := by
  have sc := sc_within
  refine G.ok sc (fun vs H Q E h => ?_) (fun cdv A outer s H vs Q E hr h => ?_)
  · obtain ⟨v, _, _, _, rfl, _⟩ := h
    rfl
  · obtain ⟨a, b, ys, zs, rfl, c1, c2, k⟩ := h
    have few2 : (ys.map V.str).length < sizeLine := by
      rw [List.length_map]
      exact Nat.lt_trans c1.2.2 (by decide)
    refine ⟨_, pss_cons (ps_expr (pe_call ON hr rfl mN kN bN .nil pass0 (pa_cons (pv 0) (pa_cons (pv 1) pa_nil))))
      (pss_one (ps_ret (pe_callB (cr_all rfl) (by rfl) B.all (by decide +kernel) (pa_cons (pe_lc (own := [("literal", 2)]) (g := gName 2) (tt := tYes) (te := tOp (rIn K false) (tVar 2) (tVar 1)) rfl sc.nd (pi_sq (pv 0))
        (blkOk_by (N := ["one", "other", "literal"]) (sc := defScope sWithin) (by decide +kernel)) (fun _ _ _ _ _ => pg_name (i := 2) sc.nd rfl (Or.inl rfl)) (fun _ _ _ _ _ => pts_nil)
        (fun _ _ _ _ _ => pe_cmpR op_in_seq (pv 2) (pv 1) (by rfl))) pa_nil)))), ?_⟩
    refine ⟨_, rfl, _, rfl, a, b, ys, zs, rfl, c1, c2, fun H1 s1 => ?_⟩
    dsimp only [tRet, tCB, tCons, tNil]
    refine seq_lc (fun x => some (.bl (inV x (zs.map V.str)))) rfl (.inr (sqT_same c1.1 s1)) few2 (fun x H2 Ψ Θ hx s2 yes no => ?_) (fun H2 D s2 nD h2 => ?_)
    · obtain ⟨y, hy, rfl⟩ := List.mem_map.mp hx
      walk_at "go"
      exact ⟨b, _, rfl, .inr (sqT_same c2.1 (same_trans s1 s2)), rfl, flat_strs zs, yes _ H2 rfl (same_refl _)⟩
    · refine all_done (xs := ys) (b := fun y => decide (y ∈ zs)) ?_ (k H2 (same_trans s1 s2))
      rw [h2, fm_some, fm_some, List.map_map]
      congr 2
      refine List.map_congr_left fun y _ => ?_
      show V.bl (inV (.str y) (zs.map V.str)) = _
      rw [inV_strs]
abbrev sCommon : Stmt := top 27
def spCommon (K : PySem.W.Frag) : Sp := fun vs H Q _ => ∃ (a b : Addr) (ys zs : List Str), vs = [.ref a, .ref b] ∧ ClAt K H a ys ∧ ClAt K H b zs ∧
  ∀ H' p, Same H H' → H p = none → H' p = some (.tup ((ys.filter fun y => decide (y ∈ zs)).map V.str)) → Q (.ref p) H'
theorem sc_common : FnScope ["one", "other", "literal"] ["one", "other"] (defScope sCommon) := ⟨rfl, rfl, rfl, by decide +kernel, rfl, by decide +kernel, by decide +kernel⟩
theorem ok_common {f fN : Addr} {fd fdN : FuncData} (G : Fun K "common" "common" sCommon f fd) (B : Pts mg) (mN : mg "need_clauses" = some (.ref fN)) (kN : PySem.W.keepIn K (.ref fN) = true) (ON : FnOk P w K mg base CX0 6 fN fdN ["one", "other"] (spNeedCs K)) (bN : Binds K fdN ["one", "other"] []) : FnOk P w K mg base CX0 7 f fd ["one", "other"] (spCommon K) := by
  have sc := sc_common
  refine G.ok sc (fun vs H Q E h => ?_) (fun cdv A outer s H vs Q E hr h => ?_)
  · obtain ⟨v, _, _, _, rfl, _⟩ := h
    rfl
  · obtain ⟨a, b, ys, zs, rfl, c1, c2, k⟩ := h
    have few2 : (ys.map V.str).length < sizeLine := by
      rw [List.length_map]
      exact Nat.lt_trans c1.2.2 (by decide)
    refine ⟨_, pss_cons (ps_expr (pe_call ON hr rfl mN kN bN .nil pass0 (pa_cons (pv 0) (pa_cons (pv 1) pa_nil))))
      (pss_one (ps_ret (pe_callTy call_tuple_of (by rfl) B.tuple boot_tuple (pa_cons (pe_lc (own := [("literal", 2)]) (g := gName 2) (tt := tTest (tOp (rIn K false) (tVar 2) (tVar 1))) rfl sc.nd (pi_sq (pv 0))
        (blkOk_by (N := ["one", "other", "literal"]) (sc := defScope sCommon) (by decide +kernel)) (fun _ _ _ _ _ => pg_name (i := 2) sc.nd rfl (Or.inl rfl)) (fun _ _ _ _ _ => pts_one (pt_cmpR op_in_seq (pv 2) (pv 1) (by rfl)))
        (fun _ _ _ _ _ => pv 2)) pa_nil)))), ?_⟩
    refine ⟨_, rfl, _, rfl, a, b, ys, zs, rfl, c1, c2, fun H1 s1 => ?_⟩
    dsimp only [tRet, tCB, tCons, tNil]
    refine seq_lc (fun x => if inV x (zs.map V.str) = true then some x else none) rfl (.inr (sqT_same c1.1 s1)) few2 (fun x H2 Ψ Θ hx s2 yes no => ?_) (fun H2 D s2 nD h2 => ?_)
    · obtain ⟨y, hy, rfl⟩ := List.mem_map.mp hx
      walk_at "go"
      refine ⟨b, _, rfl, .inr (sqT_same c2.1 (same_trans s1 s2)), rfl, flat_strs zs, ?_⟩
      refine ⟨_, rfl, ?_⟩
      by_cases c : inV (.str y) (zs.map V.str) = true
      · simp only [Bool.false_eq_true, if_false]
        rw [if_pos c]
        exact ⟨_, rfl, yes _ H2 (if_pos c) (same_refl _)⟩
      · simp only [Bool.false_eq_true, if_false]
        rw [if_neg c]
        exact no H2 (if_neg c) (same_refl _)
    · have e : (ys.map V.str).filterMap (fun x => if inV x (zs.map V.str) = true then some x else none) = (ys.filter fun y => decide (y ∈ zs)).map V.str := by
        rw [List.filterMap_map, ← filt_fm]
        refine fm_congr fun y _ => ?_
        show (if inV (.str y) (zs.map V.str) = true then some (V.str y) else none) = _
        rw [inV_strs]
      rw [e] at h2
      refine ⟨D, _, rfl, .inl ⟨SqL.of h2, fun p np => ?_⟩⟩
      have s12 := same_trans s1 s2
      exact k _ p (same_trans s12 (same_new np)) (same_free s12 np) upd_same
abbrev sUnited : Stmt := top 28
def spUnited (K : PySem.W.Frag) : Sp := fun vs H Q _ => ∃ (a b : Addr) (ys zs : List Str), vs = [.ref a, .ref b] ∧ ClAt K H a ys ∧ ClAt K H b zs ∧ hasS (ys ++ zs) = false ∧ Made H Q (ys ++ zs)
theorem sc_united : FnScope ["one", "other", "literals"] ["one", "other"] (defScope sUnited) := ⟨rfl, rfl, rfl, by decide +kernel, rfl, by decide +kernel, by decide +kernel⟩
theorem ok_united {f fN fC fR : Addr} {fd fdN fdC fdR : FuncData} (G : Fun K "united" "united" sUnited f fd) (mN : mg "need_clauses" = some (.ref fN)) (kN : PySem.W.keepIn K (.ref fN) = true) (ON : FnOk P w K mg base CX0 6 fN fdN ["one", "other"] (spNeedCs K)) (bN : Binds K fdN ["one", "other"] []) (mC : mg "has_contraries" = some (.ref fC)) (kC : PySem.W.keepIn K (.ref fC) = true) (OC : FnOk P w K mg base CX0 1 fC fdC ["literals"] (spHas K)) (bC : Binds K fdC ["literals"] []) (mR : mg "in_order" = some (.ref fR)) (kR : PySem.W.keepIn K (.ref fR) = true) (OR : FnOk P w K mg base CX0 1 fR fdR ["literals"] (spOrd K)) (bR : Binds K fdR ["literals"] []) : FnOk P w K mg base CX0 7 f fd ["one", "other"] (spUnited K) := by
  have sc := sc_united
  refine G.ok sc (fun vs H Q E h => ?_) (fun cdv A outer s H vs Q E hr h => ?_)
  · obtain ⟨v, _, _, _, rfl, _⟩ := h
    rfl
  · obtain ⟨a, b, ys, zs, rfl, c1, c2, nh, k⟩ := h
    have hr1 : Room 1 _ := hr.mono (by decide)
    have hr3 : Room 3 _ := hr.mono (by decide)
    have l1 := c1.2.2
    have l2 := c2.2.2
    have big : (1000 : Nat) < sizeLine := by decide
    refine ⟨_, pss_cons (ps_expr (pe_call ON hr rfl mN kN bN .nil pass0 (pa_cons (pv 0) (pa_cons (pv 1) pa_nil))))
      (pss_cons (ps_set (i := 2) sc.nd rfl (Or.inl rfl) (pe_op op_catA (pv 0) (pv 1)))
      (pss_cons (ps_if (pt_val (pe_call OC hr1 rfl mC kC bC .nil pass0 (pa_cons (pv 2) pa_nil))) (pss_one ps_never) pss_nil)
      (pss_one (ps_ret (pe_call OR hr1 rfl mR kR bR .nil pass0 (pa_cons (pv 2) pa_nil)))))), ?_⟩
    refine ⟨_, rfl, _, rfl, a, b, ys, zs, rfl, c1, c2, fun H1 s1 => ?_⟩
    refine ⟨_, rfl, _, rfl, cat_any (c1.same s1).1 (c2.same s1).1 (by rw [List.length_map, List.length_map]; omega) fun H2 p s2 hp => ?_⟩
    rw [← List.map_append] at hp
    have s12 := same_trans s1 s2
    have lt : ∀ y ∈ ys ++ zs, 1 ≤ y.length ∧ y.length + 1 ≤ sizeLine := fun y hy => (List.mem_append.mp hy).elim (lit_has c1.lits y) (lit_has c2.lits y)
    refine ⟨_, rfl, p, ys ++ zs, rfl, .inr hp, by rw [List.length_append]; omega, lt, fun H3 s3 => ?_⟩
    refine ⟨_, rfl, ?_⟩
    rw [nh]
    have s13 := same_trans s12 s3
    refine ⟨_, rfl, p, ys ++ zs, rfl, .inr (sqT_same hp s3), by rw [List.length_append]; omega, fun H4 q rs s4 nq hq nd so mem le => ?_⟩
    exact k H4 q rs (same_trans s13 s4) (same_free s13 nq) hq ⟨nd, so, mem, le⟩
end
end My
end

section
set_option Elab.async false
set_option linter.all false
set_option maxRecDepth 100000
set_option maxHeartbeats 4000000
namespace My
local macro_rules | `(tactic| walk_at "go") => `(tactic| (repeat (first
  | (refine ⟨_, rfl, ?_⟩)
  | (refine ⟨_, _, rfl, rfl, ?_⟩)
  | (refine ⟨_, _, rfl, ?_⟩)
  | (refine ⟨rfl, ?_⟩)
  | (refine Or.inl ⟨_, rfl, ?_⟩)
  | (refine ⟨_, _, _, _, rfl, rfl, L2.SqL.of (by first | assumption | exact L2.upd_same), rfl, ?_⟩)
  | (refine ⟨_, _, _, _, rfl, rfl, (by first | assumption | exact L2.upd_same), rfl, ?_⟩)
  | (refine And.intro (by first | omega | decide | (unfold L2.CPow; decide) | (unfold L2.CMul; omega) | (unfold L2.CDiv; omega)) ?_))))
open PySem PySem.Spec PyProof.Rows L2 TL MyF MyS RZ
section
variable {P : Program} {w : World} {K : PySem.W.Frag} {mg : Str → Option Value} {base : Heap}
/-! ### meeting, put_together -/
def clashS (ys zs : List Str) : List Str := ys.filter fun y => decide (oppS y ∈ zs)
def meetV (ys zs : List Str) : V := match clashS ys zs with
  | [y] => .str (bareS y)
  | _ => .non
abbrev sMeetOf : Stmt := top 30
def spMeet (K : PySem.W.Frag) : Sp := fun vs H Q _ => ∃ (a b : Addr) (ys zs : List Str), vs = [.ref a, .ref b] ∧ ClAt K H a ys ∧ ClAt K H b zs ∧ ∀ H', Same H H' → Q (meetV ys zs) H'
theorem sc_meetof : FnScope ["one", "other", "clashing", "literal"] ["one", "other"] (defScope sMeetOf) := ⟨rfl, rfl, rfl, by decide +kernel, rfl, by decide +kernel, by decide +kernel⟩
theorem ok_meetof {f fO fB : Addr} {fd fdO fdB : FuncData} (G : Fun K "meeting_of" "meeting_of" sMeetOf f fd) (B : Pts mg) (mO : mg "opposite" = some (.ref fO)) (kO : PySem.W.keepIn K (.ref fO) = true) (OO : FnOk P w K mg base CX0 2 fO fdO ["literal"] spOpp) (bO : Binds K fdO ["literal"] []) (mB : mg "bare" = some (.ref fB)) (kB : PySem.W.keepIn K (.ref fB) = true) (OB : FnOk P w K mg base CX0 1 fB fdB ["literal"] spBare) (bB : Binds K fdB ["literal"] []) : FnOk P w K mg base CX0 3 f fd ["one", "other"] (spMeet K) := by
  have sc := sc_meetof
  refine G.ok sc (fun vs H Q E h => ?_) (fun cdv A outer s H vs Q E hr h => ?_)
  · obtain ⟨v, _, _, _, rfl, _⟩ := h
    rfl
  · obtain ⟨a, b, ys, zs, rfl, c1, c2, k⟩ := h
    have hr1 : Room 1 _ := hr.mono (by decide)
    have hr2 : Room 2 _ := hr.mono (by decide)
    have few2 : (ys.map V.str).length < sizeLine := by
      rw [List.length_map]
      exact Nat.lt_trans c1.2.2 (by decide)
    refine ⟨_, (pss_cons (ps_setLc (i := 2) (own := [("literal", 3)]) (g := gName 3) (tt := tTest (tOp (rIn K false) (tCall spOpp [] E0 (tCons (tVar 3) tNil)) (tVar 1))) rfl sc.nd rfl rfl (sw_true rfl rfl rfl (by decide +kernel)) (pi_sq (pv 0))
        (blkOk_by (N := ["one", "other", "clashing", "literal"]) (sc := defScope sMeetOf) (by decide +kernel)) (fun _ _ _ _ _ => pg_name (i := 3) sc.nd rfl (Or.inl rfl)) (fun _ _ _ _ _ => pts_one (pt_cmpR op_in_seq (pe_call OO hr2 rfl mO kO bO .nil pass0 (pa_cons (pv 3) pa_nil)) (pv 1) (by rfl)))
        (fun _ _ _ _ _ => pv 3))
      (pss_cons (ps_if (pt_cmpR op_ne (pe_callB call_len_seq (by rfl) B.len boot_len (pa_cons (pv 2) pa_nil)) pe_int (nomark _)) (pss_one (ps_ret pe_non)) pss_nil)
      (pss_one (ps_ret (pe_call OB hr1 rfl mB kB bB .nil pass0 (pa_cons (pe_ix ix_list (pv 2) pe_int (fun _ _ => rfl)) pa_nil)))))), ?_⟩
    have s1 := same_refl H
    dsimp only [tSeq, tAsg, tRet, tCB, tCons, tNil]
    refine seq_lc (fun x => if inV (match x with | .str z => .str (oppS z) | x => x) (zs.map V.str) = true then some x else none) rfl (.inr (sqT_same c1.1 s1)) few2 (fun x H2 Ψ Θ hx s2 yes no => ?_) (fun H2 D s2 nD h2 => ?_)
    · obtain ⟨y, hy, rfl⟩ := List.mem_map.mp hx
      walk_at "go"
      refine ⟨lit_line c1.lits y hy, ?_⟩
      refine ⟨_, rfl, b, _, rfl, .inr (sqT_same c2.1 (same_trans s1 s2)), rfl, flat_strs zs, ?_⟩
      refine ⟨_, rfl, ?_⟩
      by_cases c : inV (.str (oppS y)) (zs.map V.str) = true
      · simp only [Bool.false_eq_true, if_false]
        rw [if_pos c]
        exact ⟨_, rfl, yes _ H2 (if_pos c) (same_refl _)⟩
      · simp only [Bool.false_eq_true, if_false]
        rw [if_neg c]
        exact no H2 (if_neg c) (same_refl _)
    · have e : (ys.map V.str).filterMap (fun x => if inV (match x with | .str z => .str (oppS z) | x => x) (zs.map V.str) = true then some x else none) = (clashS ys zs).map V.str := by
        unfold clashS
        rw [List.filterMap_map, ← filt_fm]
        refine fm_congr fun y _ => ?_
        show (if inV (.str (oppS y)) (zs.map V.str) = true then some (V.str y) else none) = _
        rw [inV_strs]
      rw [e] at h2
      have sub : ∀ y ∈ clashS ys zs, y ∈ ys := fun y hy => (List.mem_filter.mp hy).1
      have q := k H2 (same_trans s1 s2)
      unfold meetV at q
      generalize clashS ys zs = cs at h2 q sub
      refine ⟨_, rfl, D, _, rfl, .inl (SqL.of h2), ?_⟩
      rw [List.length_map]
      match cs, h2, q, sub with
      | [], h2, q, _ => exact ⟨rfl, _, rfl, q⟩
      | [y], h2, q, sub =>
        refine ⟨rfl, _, rfl, ?_⟩
        refine ⟨_, rfl, D, _, _, _, rfl, rfl, SqL.of h2, rfl, ?_⟩
        exact ⟨y, rfl, lit_line0 c1.lits y (sub y (List.mem_singleton.mpr rfl)), q⟩
      | x :: y :: r, h2, q, _ =>
        refine ⟨rfl, _, rfl, ?_⟩
        have e2 : (!decide (V.int ((x :: y :: r).length : Nat) = V.int 1)) = true := by
          have : ¬ (V.int ((x :: y :: r).length : Nat) = V.int 1) := fun z => by
            injection z with z
            rw [List.length_cons, List.length_cons] at z
            omega
          rw [decide_eq_false this]
          rfl
        rw [e2]
        exact q
abbrev sMeet : Stmt := top 29
theorem sc_meet : FnScope ["one", "other"] ["one", "other"] (defScope sMeet) := ⟨rfl, rfl, rfl, by decide +kernel, rfl, by decide +kernel, by decide +kernel⟩
theorem ok_meet {f fN fM : Addr} {fd fdN fdM : FuncData} (G : Fun K "meeting" "meeting" sMeet f fd) (mN : mg "need_clauses" = some (.ref fN)) (kN : PySem.W.keepIn K (.ref fN) = true) (ON : FnOk P w K mg base CX0 6 fN fdN ["one", "other"] (spNeedCs K)) (bN : Binds K fdN ["one", "other"] [])
    (mM : mg "meeting_of" = some (.ref fM)) (kM : PySem.W.keepIn K (.ref fM) = true) (OM : FnOk P w K mg base CX0 3 fM fdM ["one", "other"] (spMeet K)) (bM : Binds K fdM ["one", "other"] []) : FnOk P w K mg base CX0 7 f fd ["one", "other"] (spMeet K) := by
  have sc := sc_meet
  refine G.ok sc (fun vs H Q E h => ?_) (fun cdv A outer s H vs Q E hr h => ?_)
  · obtain ⟨v, _, _, _, rfl, _⟩ := h
    rfl
  · obtain ⟨a, b, ys, zs, rfl, c1, c2, k⟩ := h
    have hr3 : Room 3 _ := hr.mono (by decide)
    refine ⟨_, pss_cons (ps_expr (pe_call ON hr rfl mN kN bN .nil pass0 (pa_cons (pv 0) (pa_cons (pv 1) pa_nil)))) (pss_one (ps_ret (pe_call OM hr3 rfl mM kM bM .nil pass0 (pa_cons (pv 0) (pa_cons (pv 1) pa_nil))))), ?_⟩
    refine ⟨_, rfl, _, rfl, a, b, ys, zs, rfl, c1, c2, fun H1 s1 => ?_⟩
    exact ⟨_, rfl, _, rfl, a, b, ys, zs, rfl, c1.same s1, c2.same s1, fun H2 s2 => k H2 (same_trans s1 s2)⟩
abbrev sJoin : Stmt := top 32
def spJoin (K : PySem.W.Frag) : Sp := fun vs H Q _ => ∃ (a b : Addr) (ys zs : List Str) (v : Str), vs = [.ref a, .ref b, .str v] ∧ ClAt K H a ys ∧ ClAt K H b zs ∧ Made H Q ((ys ++ zs).filter fun y => !decide (bareS y = v))
theorem sc_join : FnScope ["one", "other", "variable", "literal"] ["one", "other", "variable"] (defScope sJoin) := ⟨rfl, rfl, rfl, by decide +kernel, rfl, by decide +kernel, by decide +kernel⟩
theorem ok_join {f fB fR : Addr} {fd fdB fdR : FuncData} (G : Fun K "joined_at" "joined_at" sJoin f fd) (mB : mg "bare" = some (.ref fB)) (kB : PySem.W.keepIn K (.ref fB) = true) (OB : FnOk P w K mg base CX0 1 fB fdB ["literal"] spBare) (bB : Binds K fdB ["literal"] []) (mR : mg "in_order" = some (.ref fR)) (kR : PySem.W.keepIn K (.ref fR) = true) (OR : FnOk P w K mg base CX0 1 fR fdR ["literals"] (spOrd K)) (bR : Binds K fdR ["literals"] []) : FnOk P w K mg base CX0 2 f fd ["one", "other", "variable"] (spJoin K) := by
  have sc := sc_join
  refine G.ok sc (fun vs H Q E h => ?_) (fun cdv A outer s H vs Q E hr h => ?_)
  · obtain ⟨v, _, _, _, _, rfl, _⟩ := h
    rfl
  · obtain ⟨a, b, ys, zs, v, rfl, c1, c2, k⟩ := h
    have hr1 : Room 1 _ := hr.mono (by decide)
    have l1 := c1.2.2
    have l2 := c2.2.2
    have big : (1000 : Nat) < sizeLine := by decide
    refine ⟨_, (pss_one (ps_ret (pe_call OR hr1 rfl mR kR bR .nil pass0 (pa_cons (pe_lc (own := [("literal", 3)]) (g := gName 3) (tt := tTest (tOp rNe (tCall spBare [] E0 (tCons (tVar 3) tNil)) (tVar 2))) rfl sc.nd (pi_tup (pe_op op_catA (pv 0) (pv 1)))
        (blkOk_by (N := ["one", "other", "variable", "literal"]) (sc := defScope sJoin) (by decide +kernel)) (fun _ _ _ _ _ => pg_name (i := 3) sc.nd rfl (Or.inl rfl)) (fun _ _ _ _ _ => pts_one (pt_cmpR op_ne (pe_call OB hr1 rfl mB kB bB .nil pass0 (pa_cons (pv 3) pa_nil)) (pv 2) (nomark _)))
        (fun _ _ _ _ _ => pv 3)) pa_nil)))), ?_⟩
    have s1 := same_refl H
    have lt : ∀ y ∈ ys ++ zs, y.length ≤ sizeLine := fun y hy => (List.mem_append.mp hy).elim (lit_line0 c1.lits y) (lit_line0 c2.lits y)
    dsimp only [tSeq, tAsg, tRet, tCB, tCons, tNil, tCall, tNext]
    refine cat_lc (fun x => if (match x with | .str z => !decide (bareS z = v) | _ => true) = true then some x else none) rfl rfl (c1.same s1).1 (c2.same s1).1 (by rw [List.length_append, List.length_map, List.length_map]; omega) (fun x H3 Ψ Θ hx s3 yes no => ?_) (fun H3 D s3 nD h3 => ?_)
    · rw [← List.map_append] at hx
      obtain ⟨y, hy, rfl⟩ := List.mem_map.mp hx
      walk_at "go"
      refine ⟨lt y hy, ?_⟩
      refine ⟨_, rfl, rfl, _, rfl, ?_⟩
      have e0 : decide (V.str (bareS y) = V.str v) = decide (bareS y = v) := by
        by_cases c : bareS y = v
        · rw [decide_eq_true c, c, decide_eq_true rfl]
        · rw [decide_eq_false c, decide_eq_false fun z => c (by injection z)]
      rw [e0]
      by_cases c : (!decide (bareS y = v)) = true
      · have q := yes (.str y) H3 (if_pos c) (same_refl _)
        rw [c]
        exact iteT ⟨_, rfl, q⟩
      · have q := no H3 (if_neg c) (same_refl _)
        rw [Bool.eq_false_iff.mpr c]
        exact iteF q
    · have e : ((ys ++ zs).map V.str).filterMap (fun x => if (match x with | .str z => !decide (bareS z = v) | _ => true) = true then some x else none) = ((ys ++ zs).filter fun y => !decide (bareS y = v)).map V.str := by
        rw [List.filterMap_map, ← filt_fm]
        rfl
      rw [← List.map_append, e] at h3
      have s13 := same_trans s1 s3
      refine ⟨D, _, rfl, .inl (SqL.of h3), Nat.lt_of_le_of_lt (List.length_filter_le ..) (by rw [List.length_append]; omega), fun H4 q rs s4 nq hq nd so mem le => ?_⟩
      exact k H4 q rs (same_trans s13 s4) (same_free s13 nq) hq ⟨nd, so, mem, le⟩
abbrev sPut : Stmt := top 31
def spPut (K : PySem.W.Frag) : Sp := fun vs H Q _ => ∃ (a b : Addr) (ys zs : List Str) (v : Str), vs = [.ref a, .ref b] ∧ ClAt K H a ys ∧ ClAt K H b zs ∧ meetV ys zs = .str v ∧ Made H Q ((ys ++ zs).filter fun y => !decide (bareS y = v))
theorem sc_put : FnScope ["one", "other", "variable"] ["one", "other"] (defScope sPut) := ⟨rfl, rfl, rfl, by decide +kernel, rfl, by decide +kernel, by decide +kernel⟩
theorem ok_put {f fM fJ : Addr} {fd fdM fdJ : FuncData} (G : Fun K "put_together" "put_together" sPut f fd) (mM : mg "meeting" = some (.ref fM)) (kM : PySem.W.keepIn K (.ref fM) = true) (OM : FnOk P w K mg base CX0 7 fM fdM ["one", "other"] (spMeet K)) (bM : Binds K fdM ["one", "other"] [])
    (mJ : mg "joined_at" = some (.ref fJ)) (kJ : PySem.W.keepIn K (.ref fJ) = true) (OJ : FnOk P w K mg base CX0 2 fJ fdJ ["one", "other", "variable"] (spJoin K)) (bJ : Binds K fdJ ["one", "other", "variable"] []) : FnOk P w K mg base CX0 8 f fd ["one", "other"] (spPut K) := by
  have sc := sc_put
  refine G.ok sc (fun vs H Q E h => ?_) (fun cdv A outer s H vs Q E hr h => ?_)
  · obtain ⟨v, _, _, _, _, rfl, _⟩ := h
    rfl
  · obtain ⟨a, b, ys, zs, v, rfl, c1, c2, em, k⟩ := h
    have hr2 : Room 2 _ := hr.mono (by decide)
    refine ⟨_, pss_cons (ps_set (i := 2) sc.nd rfl (Or.inl rfl) (pe_call OM hr rfl mM kM bM .nil pass0 (pa_cons (pv 0) (pa_cons (pv 1) pa_nil))))
      (pss_cons (ps_if (pt_cmpR op_isN (pv 2) pe_non (nomark _)) (pss_one ps_never) pss_nil)
      (pss_one (ps_ret (pe_call OJ hr2 rfl mJ kJ bJ .nil pass0 (pa_cons (pv 0) (pa_cons (pv 1) (pa_cons (pv 2) pa_nil))))))), ?_⟩
    refine ⟨_, rfl, _, rfl, a, b, ys, zs, rfl, c1, c2, fun H1 s1 => ?_⟩
    rw [em]
    refine ⟨_, rfl, rfl, _, rfl, ?_⟩
    refine iteF ?_
    exact ⟨_, rfl, _, rfl, _, rfl, a, b, ys, zs, v, rfl, c1.same s1, c2.same s1, fun H2 p rs s2 np hp io => k H2 p rs (same_trans s1 s2) (same_free s1 np) hp io⟩
/-! ### is_name_list, turned -/
def nlV (xs : List V) : Bool := xs.all varV && ascS (strsV xs)
theorem strs_of_var : ∀ {xs : List V}, xs.all varV = true → xs = (strsV xs).map V.str
  | [], _ => rfl
  | x :: xs, h => by
    rw [List.all_cons, Bool.and_eq_true] at h
    cases x with
    | str z =>
      have e := strs_of_var h.2
      show V.str z :: xs = V.str z :: (strsV xs).map V.str
      rw [← e]
    | _ => exact (Bool.false_ne_true h.1).elim
abbrev sNameL : Stmt := top 17
def spNameL (K : PySem.W.Frag) : Sp := fun vs H Q _ => ∃ v, vs = [v] ∧ ((∃ (a : Addr) (xs : List V), v = .ref a ∧ SqL K H a xs ∧ xs.length < sizeLine ∧ (∀ x ∈ xs, Known K H x) ∧ ∀ H', Same H H' → Q (.bl (nlV xs)) H') ∨
  (∃ t, TyX K H v t ∧ PySem.W.kitOne K t (.type "list") = some false ∧ Q (.bl false) H))
theorem sc_namel : FnScope ["value", "name"] ["value"] (defScope sNameL) := ⟨rfl, rfl, rfl, by decide +kernel, rfl, by decide +kernel, by decide +kernel⟩
theorem ok_namel {f fV fS : Addr} {fd fdV fdS : FuncData} (G : Fun K "is_name_list" "is_name_list" sNameL f fd) (B : Pts mg) (mV : mg "is_variable" = some (.ref fV)) (kV : PySem.W.keepIn K (.ref fV) = true) (OV : FnOk P w K mg base CX0 1 fV fdV ["value"] (spIsVar K)) (bV : Binds K fdV ["value"] []) (mS : mg "ascends" = some (.ref fS)) (kS : PySem.W.keepIn K (.ref fS) = true) (OS : FnOk P w K mg base CX0 1 fS fdS ["values"] (spAsc K)) (bS : Binds K fdS ["values"] []) : FnOk P w K mg base CX0 2 f fd ["value"] (spNameL K) := by
  have sc := sc_namel
  refine G.ok sc (fun vs H Q E h => ?_) (fun cdv A outer s H vs Q E hr h => ?_)
  · obtain ⟨v, rfl, _⟩ := h
    rfl
  · obtain ⟨v, rfl, h⟩ := h
    refine ⟨_, pss_one (ps_ret (pe_and (pe_callB call_isi (by rfl) B.isinstance boot_isinstance (pa_cons (pv 0) (pa_cons (pe_bltn (v := .ty "list") (by rfl) B.list boot_list rfl) pa_nil)))
      (pe_and (pe_callB (cr_all rfl) (by rfl) B.all (by decide +kernel) (pa_cons (pe_lc (own := [("name", 1)]) (g := gName 1) (tt := tYes) rfl sc.nd (pi_sq (pv 0))
        (blkOk_by (N := ["value", "name"]) (sc := defScope sNameL) (by decide +kernel)) (fun _ _ _ _ _ => pg_name (i := 1) sc.nd rfl (Or.inl rfl)) (fun _ _ _ _ _ => pts_nil)
        (fun _ _ _ _ _ => pe_call OV hr rfl mV kV bV .nil pass0 (pa_cons (pv 1) pa_nil))) pa_nil))
      (pe_one (pe_call OS hr rfl mS kS bS .nil pass0 (pa_cons (pv 0) pa_nil)))))), ?_⟩
    rcases h with ⟨a, xs, rfl, hS, few, kn, k⟩ | ⟨t, ty, ki, k⟩
    · walk_at "go"
      refine ⟨.ref a, .ty "list", _, _, true, rfl, .ty "list", lst_ty hS, kit_ty (by decide +kernel), ?_⟩
      refine ⟨_, rfl, iteT ?_⟩
      dsimp only [tAndV, tSeq, tAsg, tRet, tCB, tCons, tNil, tCall]
      refine seq_lc (fun x => some (.bl (varV x))) rfl (.inl hS) few (fun x H2 Ψ Θ hx s2 yes no => ?_) (fun H2 D s2 nD h2 => ?_)
      · walk_at "go"
        exact ⟨(kn x hx).same s2, fun H5 s5 => yes _ H5 rfl s5⟩
      · refine all_done h2 ?_
        refine ⟨_, rfl, ?_⟩
        by_cases c : xs.all varV = true
        · have e := strs_of_var c
          have len : (strsV xs).length = xs.length := by
            have e2 := congrArg List.length e
            rw [List.length_map] at e2
            exact e2.symm
          rw [c]
          refine ⟨_, rfl, a, strsV xs, rfl, .inl (by rw [← e]; exact sqL_same hS s2), by omega, fun H3 s3 => ?_⟩
          have q := k H3 (same_trans s2 s3)
          have e3 : nlV xs = ascS (strsV xs) := by
            unfold nlV
            rw [c, Bool.true_and]
          rw [e3] at q
          exact q
        · have q := k H2 s2
          have e3 : nlV xs = false := by
            unfold nlV
            rw [Bool.eq_false_iff.mpr c, Bool.false_and]
          rw [e3] at q
          rw [Bool.eq_false_iff.mpr c]
          exact q
    · walk_at "go"
      refine ⟨v, .ty "list", _, _, false, rfl, .ty "list", ty, ki, ?_⟩
      exact ⟨_, rfl, k⟩
abbrev sTurn : Stmt := top 33
def turnS (ns : List Str) (y : Str) : Str := if bareS y ∈ ns then oppS y else y
def spTurn (K : PySem.W.Frag) : Sp := fun vs H Q _ => ∃ (a b : Addr) (ys ns : List Str), vs = [.ref a, .ref b] ∧ ClAt K H a ys ∧ SqL K H b (ns.map V.str) ∧ ns.all lowZ = true ∧ ascS ns = true ∧ ns.length < 60 ∧ Made H Q (ys.map (turnS ns))
theorem sc_turn : FnScope ["clause", "variables", "literal"] ["clause", "variables"] (defScope sTurn) := ⟨rfl, rfl, rfl, by decide +kernel, rfl, by decide +kernel, by decide +kernel⟩
theorem low_known {H : Hp} {ns : List Str} (h : ns.all lowZ = true) : ∀ x ∈ ns.map V.str, Known K H x := fun x hx => by
  obtain ⟨y, hy, rfl⟩ := List.mem_map.mp hx
  have e := List.all_eq_true.mp h y hy
  unfold lowZ at e
  rw [Bool.and_eq_true, Bool.and_eq_true] at e
  exact .inl ⟨y, rfl, Nat.le_trans (of_decide_eq_true e.1.2) (by decide)⟩
theorem nlV_strs {ns : List Str} (h : ns.all lowZ = true) (k : ascS ns = true) : nlV (ns.map V.str) = true := by
  unfold nlV
  rw [strsV_map, k, Bool.and_true, List.all_map]
  exact h
theorem ok_turn {f fN fL fB fO fR : Addr} {fd fdN fdL fdB fdO fdR : FuncData} (G : Fun K "turned" "turned" sTurn f fd) (mN : mg "need_clause" = some (.ref fN)) (kN : PySem.W.keepIn K (.ref fN) = true) (ON : FnOk P w K mg base CX0 5 fN fdN ["clause"] (spNeedC K)) (bN : Binds K fdN ["clause"] []) (mL : mg "is_name_list" = some (.ref fL)) (kL : PySem.W.keepIn K (.ref fL) = true) (OL : FnOk P w K mg base CX0 2 fL fdL ["value"] (spNameL K)) (bL : Binds K fdL ["value"] []) (mB : mg "bare" = some (.ref fB)) (kB : PySem.W.keepIn K (.ref fB) = true) (OB : FnOk P w K mg base CX0 1 fB fdB ["literal"] spBare) (bB : Binds K fdB ["literal"] []) (mO : mg "opposite" = some (.ref fO)) (kO : PySem.W.keepIn K (.ref fO) = true) (OO : FnOk P w K mg base CX0 2 fO fdO ["literal"] spOpp) (bO : Binds K fdO ["literal"] []) (mR : mg "in_order" = some (.ref fR)) (kR : PySem.W.keepIn K (.ref fR) = true) (OR : FnOk P w K mg base CX0 1 fR fdR ["literals"] (spOrd K)) (bR : Binds K fdR ["literals"] []) : FnOk P w K mg base CX0 6 f fd ["clause", "variables"] (spTurn K) := by
  have sc := sc_turn
  refine G.ok sc (fun vs H Q E h => ?_) (fun cdv A outer s H vs Q E hr h => ?_)
  · obtain ⟨v, _, _, _, rfl, _⟩ := h
    rfl
  · obtain ⟨a, b, ys, ns, rfl, cl, hb, lo, as, fn, k⟩ := h
    have hr1 : Room 1 _ := hr.mono (by decide)
    have hr2 : Room 2 _ := hr.mono (by decide)
    have l1 := cl.2.2
    have big : (1000 : Nat) < sizeLine := by decide
    refine ⟨_, pss_cons (ps_expr (pe_call ON hr rfl mN kN bN .nil pass0 (pa_cons (pv 0) pa_nil)))
      (pss_cons (ps_if (pt_not (pt_val (pe_call OL hr2 rfl mL kL bL .nil pass0 (pa_cons (pv 1) pa_nil)))) (pss_one ps_never) pss_nil)
      (pss_one (ps_ret (pe_call OR hr1 rfl mR kR bR .nil pass0 (pa_cons (pe_lc (own := [("literal", 2)]) (g := gName 2) (tt := tYes) (te := tIf (tTest (tOp (rIn K false) (tCall spBare [] E0 (tCons (tVar 2) tNil)) (tVar 1))) (tCall spOpp [] E0 (tCons (tVar 2) tNil)) (tVar 2)) rfl sc.nd (pi_sq (pv 0))
        (blkOk_by (N := ["clause", "variables", "literal"]) (sc := defScope sTurn) (by decide +kernel)) (fun _ _ _ _ _ => pg_name (i := 2) sc.nd rfl (Or.inl rfl)) (fun _ _ _ _ _ => pts_nil)
        (fun _ _ _ _ _ => pe_ifExp (pt_cmpR op_in_seq (pe_call OB hr1 rfl mB kB bB .nil pass0 (pa_cons (pv 2) pa_nil)) (pv 1) (by rfl)) (pe_call OO hr2 rfl mO kO bO .nil pass0 (pa_cons (pv 2) pa_nil)) (pv 2))) pa_nil))))), ?_⟩
    refine ⟨_, rfl, a, ys, rfl, cl, fun H1 s1 => ?_⟩
    refine ⟨_, rfl, .ref b, rfl, .inl ⟨b, _, rfl, sqL_same hb s1, by rw [List.length_map]; omega, low_known lo, fun H2 s2 => ?_⟩⟩
    refine ⟨_, rfl, ?_⟩
    rw [nlV_strs lo as]
    have s12 := same_trans s1 s2
    refine iteF ?_
    dsimp only [tSeq, tAsg, tRet, tCB, tCons, tNil, tCall, tNext]
    refine seq_lc (fun | .str z => some (.str (turnS ns z)) | x => some x) rfl (.inr (sqT_same cl.1 s12)) (by rw [List.length_map]; omega) (fun x H3 Ψ Θ hx s3 yes no => ?_) (fun H3 D s3 nD h3 => ?_)
    · obtain ⟨y, hy, rfl⟩ := List.mem_map.mp hx
      walk_at "go"
      refine ⟨lit_line0 cl.lits y hy, ?_⟩
      refine ⟨_, rfl, b, _, rfl, .inl (sqL_same hb (same_trans s12 s3)), rfl, flat_strs ns, ?_⟩
      refine ⟨_, rfl, ?_⟩
      rw [inV_strs]
      by_cases c : bareS y ∈ ns
      · rw [decide_eq_true c]
        refine iteT ⟨_, rfl, y, rfl, lit_line cl.lits y hy, yes _ H3 ?_ (same_refl _)⟩
        show some (V.str (turnS ns y)) = _
        unfold turnS
        rw [if_pos c]
      · rw [decide_eq_false c]
        refine iteF ⟨_, rfl, yes _ H3 ?_ (same_refl _)⟩
        show some (V.str (turnS ns y)) = _
        unfold turnS
        rw [if_neg c]
    · have e : (ys.map V.str).filterMap (fun | .str z => some (V.str (turnS ns z)) | x => some x) = (ys.map (turnS ns)).map V.str := by
        rw [List.filterMap_map, List.map_map]
        exact fm_some (fun y => V.str (turnS ns y)) ys
      rw [e] at h3
      have s13 := same_trans s12 s3
      refine ⟨D, _, rfl, .inl (SqL.of h3), by rw [List.length_map]; omega, fun H4 q rs s4 nq hq nd so mem le => ?_⟩
      exact k H4 q rs (same_trans s13 s4) (same_free s13 nq) hq ⟨nd, so, mem, le⟩
end
end My
end

section
set_option Elab.async false
set_option linter.all false
set_option maxRecDepth 100000
set_option maxHeartbeats 4000000
namespace MyW
open PySem PySem.Spec PyProof.Rows L2
/-- the view of the values of the dict at d -/
def ValO (v d : Addr) : HO := .ext fun h => h.IsValuesView v d
theorem valO_ok {P : Program} {w : World} {H : Hp} {h : Heap} {v d : Addr} (e : h.IsValuesView v d) : ObjOk P w H h v (ValO v d) :=
  ⟨e, let ⟨o, ho, _⟩ := e; ⟨o, ho⟩, fun h1 h2 q k => let ⟨o, ho, r⟩ := q; ⟨o, k o ho, r⟩⟩
def tVals (td : TE) : TE := fun σ H Q => td σ H fun x H1 => ∃ d kvs, x = .ref d ∧ Rd H1 d (.dK kvs) ∧ ∀ v, H1 v = none → Q (.ref v) (upd H1 v (ValO v d))
theorem vals_of_kv : ∀ {kvs : List (Key × V)} {vs : List (Key × Value)}, KV kvs vs → Vals (kvs.map (·.2)) (vs.map (·.2))
  | _, _, .nil => .nil
  | _, _, .cons h t => .cons h.2 (vals_of_kv t)
section
variable {X : Cx} {e : Expr} {td : TE} {apos cpos : Pos}
theorem pe_vals (he : PE X e td) (hbase : attributeBase e "values" X.env (eval e X.env) = eval e X.env := by rfl) (hline : (apos.endLine == cpos.line) = true := by rfl) : PE X (.Call (.Attribute e "values" apos) [] [] cpos) (tVals td) := by
  refine ⟨fun pins s σ H Q I h => ?_⟩
  refine wpAny_Call_method (T := "dict") (id := "dict.values") hbase rfl hline F.plainAttrs_dict F.slot_dict_values F.type_dict_values (thn (he.run pins s σ H _ I h) fun u s1 ⟨x, H1, I1, rx, d, kvs, ex, hd, q⟩ => ?_)
  subst ex
  cases rx
  obtain ⟨z, lo, vs, rel, dd⟩ := dk_rd I1.hok hd
  refine ⟨dd.typeIs, dd.mapOf.noDict, ?_⟩
  have I2 : Inv X pins σ (upd H1 s1.heap.objs.size (ValO s1.heap.objs.size d)) { s1 with heap := s1.heap.push { cls := .type "dict_values", data := .fields #[.ref d] } } :=
    I1.laid (t' := s1.toks) (fun b o e => Heap.get?_push_of_some _ e) (Nat.le_refl _) (valO_ok ⟨_, Heap.get?_push_size _ rfl, rfl, rfl⟩)
  exact method_meetsIn F.slot_dict_values F.entry_dict_values rfl (PySem.evalArgs_none ⟨rfl, dd.typeIs, F.args_dict_values_1 _, _, meets_dict_values (mixKind X.prog X.w) d lo, ⟨vs, dd⟩, ⟨.ref s1.heap.objs.size, _, I2, rfl, q _ (I1.hok.fresh (Nat.le_refl _))⟩⟩)
/-- list(view) -/
def rListVals : List V → Hp → VK → Prop := fun xs H Q => ∃ (v d : Addr) (kvs : List (Key × V)), xs = [.ref v] ∧ H v = some (ValO v d) ∧ Rd H d (.dK kvs) ∧ ∀ p, H p = none → Q (.ref p) (upd H p (.lst (kvs.map (·.2))))
theorem call_listVals (hcalm : X.calm = true) : CallR X (.type "list") rListVals := by
  intro pins s σ H xs us Q I r q
  obtain ⟨v, d, kvs, rfl, hv, hd, q⟩ := q
  rw [Vals.ref1 r]
  obtain ⟨z, lo, vs, rel, dd⟩ := dk_rd I.hok hd
  obtain ⟨ep, hat⟩ := dd.dictAt
  have view : s.heap.IsValuesView v d := (I.hok v _ hv).1
  have lenv := vals_of_kv rel
  refine PySem.W.kdl_call (PySem.W.kdl_values (knd := mixKind X.prog X.w) (kvs := vs) (ep := ep)) (I.ok.hd hcalm) ⟨view, hat⟩ (by rw [← rel.length]; exact z) fun h' tk acc c' hk hD hacc => ?_
  have e : acc.toList = vs.map (·.2) := PySem.W.kdl_vals_eq acc.toList (by rw [Array.length_toList]; exact hacc.1) fun j w e => hacc.2 j w (by rw [← Array.getElem?_toList]; exact e)
  exact ⟨.ref s.heap.objs.size, _, I.laid (t' := tk) hk (Nat.le_refl _) (show ObjOk X.prog X.w _ _ _ (.lst (kvs.map (·.2))) from ⟨by rw [List.length_map]; exact z, acc.toList, c', by rw [e]; exact lenv, by rw [Array.toArray_toList]; exact hD⟩), rfl, q _ (I.hok.fresh (Nat.le_refl _))⟩
end
end MyW
end

section
set_option Elab.async false
set_option linter.all false
set_option maxRecDepth 100000
set_option maxHeartbeats 4000000
namespace My
local macro_rules | `(tactic| walk_at "go") => `(tactic| (repeat (first
  | (refine ⟨_, rfl, ?_⟩)
  | (refine ⟨_, _, rfl, rfl, ?_⟩)
  | (refine ⟨_, _, rfl, ?_⟩)
  | (refine ⟨rfl, ?_⟩)
  | (refine Or.inl ⟨_, rfl, ?_⟩)
  | (refine ⟨_, _, _, _, rfl, rfl, L2.SqL.of (by first | assumption | exact L2.upd_same), rfl, ?_⟩)
  | (refine ⟨_, _, _, _, rfl, rfl, (by first | assumption | exact L2.upd_same), rfl, ?_⟩)
  | (refine And.intro (by first | omega | decide | (unfold L2.CPow; decide) | (unfold L2.CMul; omega) | (unfold L2.CDiv; omega)) ?_))))
open PySem PySem.Spec PyProof.Rows L2 TL MyF MyS MyW RZ
section
variable {P : Program} {w : World} {K : PySem.W.Frag} {mg : Str → Option Value} {base : Heap}
/-! ### sent_literal, is_renaming, renamed -/
/-- a dict of texts to texts -/
def dm (ps : List (Str × Str)) : List (Key × V) := ps.map fun p => (Sum.inr p.1, .str p.2)
def sendS (x z : Str) : Str := if negS z = true then dash ++ x else x
abbrev sSent : Stmt := top 35
def spSent : Sp := fun vs H Q _ => ∃ (z x : Str) (d : Addr) (ps : List (Str × Str)), vs = [.str z, .ref d] ∧ H d = some (.dK (dm ps)) ∧ z.length ≤ sizeLine ∧ valV (dm ps) (Sum.inr (bareS z)) = some (.str x) ∧ x.length ≤ 8 ∧ Q (.str (sendS x z)) H
theorem sc_sent : FnScope ["literal", "sent"] ["literal", "sent"] (defScope sSent) := ⟨rfl, rfl, rfl, by decide +kernel, rfl, by decide +kernel, by decide +kernel⟩
theorem ok_sent {f fB : Addr} {fd fdB : FuncData} (G : Fun K "sent_literal" "sent_literal" sSent f fd) (mB : mg "bare" = some (.ref fB)) (kB : PySem.W.keepIn K (.ref fB) = true) (OB : FnOk P w K mg base CX0 1 fB fdB ["literal"] spBare) (bB : Binds K fdB ["literal"] []) : FnOk P w K mg base CX0 2 f fd ["literal", "sent"] spSent := by
  have sc := sc_sent
  refine G.ok sc (fun vs H Q E h => ?_) (fun cdv A outer s H vs Q E hr h => ?_)
  · obtain ⟨_, _, _, _, rfl, _⟩ := h
    rfl
  · obtain ⟨z, x, d, ps, rfl, hd, hz, hv, hx, k⟩ := h
    have hu := hu_of hr
    refine ⟨_, pss_cons (ps_if (pt_val (pe_bm PySem.F.plainAttrs_str PySem.F.slot_str_startswith PySem.F.type_str_startswith mt_startswith (pv 0) (pa_cons pe_str pa_nil)))
        (pss_one (ps_ret (pe_op op_add_str pe_str (pe_dget hu (pv 1) (pe_call OB hr rfl mB kB bB .nil pass0 (pa_cons (pv 0) pa_nil)) (fun _ _ => rfl))))) pss_nil)
      (pss_one (ps_ret (pe_dget hu (pv 1) (pv 0) (fun _ _ => rfl)))), ?_⟩
    have g : DGet H d (.str (bareS z)) (some (.str x)) := by
      have q := DGet.k (k := Sum.inr (bareS z)) hd
      rw [hv] at q
      exact q
    refine ⟨_, rfl, rfl, z, dash, rfl, rfl, ?_⟩
    walk_at "go"
    refine ite2 (fun c => ?_) (fun c => ?_)
    · have e : sendS x z = dash ++ x := if_pos c
      rw [e] at k
      refine ⟨_, rfl, _, rfl, z, rfl, hz, d, _, rfl, g, dash, x, rfl, rfl, ?_, k⟩
      show 1 + x.length ≤ sizeLine
      rw [sizeLine_eq]
      omega
    · have e : sendS x z = x := if_neg c
      rw [e] at k
      rw [bare_of_pos c] at g
      exact ⟨_, rfl, _, rfl, d, _, rfl, g, k⟩
abbrev sRen : Stmt := top 18
def spRen (K : PySem.W.Frag) : Sp := fun vs H Q _ => ∃ (d : Addr) (ps : List (Str × Str)), vs = [.ref d] ∧ H d = some (.dK (dm ps)) ∧ (∀ p ∈ ps, lowZ p.1 = true ∧ lowZ p.2 = true) ∧ (ps.map (·.2)).Nodup ∧ ps.length < 60 ∧ ∀ H', Same H H' → Q (.bl true) H'
theorem sc_ren : FnScope ["value", "names", "name"] ["value"] (defScope sRen) := ⟨rfl, rfl, rfl, by decide +kernel, rfl, by decide +kernel, by decide +kernel⟩
theorem ok_ren {f fV : Addr} {fd fdV : FuncData} (G : Fun K "is_renaming" "is_renaming" sRen f fd) (B : Pts mg) (mV : mg "is_variable" = some (.ref fV)) (kV : PySem.W.keepIn K (.ref fV) = true) (OV : FnOk P w K mg base CX0 1 fV fdV ["value"] (spIsVar K)) (bV : Binds K fdV ["value"] []) : FnOk P w K mg base CX0 2 f fd ["value"] (spRen K) := by
  have sc := sc_ren
  refine G.ok sc (fun vs H Q E h => ?_) (fun cdv A outer s H vs Q E hr h => ?_)
  · obtain ⟨_, _, rfl, _⟩ := h
    rfl
  · obtain ⟨d, ps, rfl, hd, lo, nd, few, k⟩ := h
    have big : (1000 : Nat) < sizeLine := by decide
    refine ⟨_, pss_cons (ps_if (pt_not (pt_val (pe_callB call_isi (by rfl) B.isinstance boot_isinstance (pa_cons (pv 0) (pa_cons (pe_bltn (v := .ty "dict") (by rfl) B.dict boot_dict rfl) pa_nil))))) (pss_one (ps_ret pe_bl)) pss_nil)
      (pss_cons (ps_set (i := 1) sc.nd rfl (Or.inl rfl) (pe_callTy (call_listVals rfl) (by rfl) B.list boot_list (pa_cons (pe_vals (pv 0)) pa_nil)))
      (pss_cons (ps_if (pt_not (pt_val (pe_callB (cr_all rfl) (by rfl) B.all (by decide +kernel) (pa_cons (pe_lc (own := [("name", 2)]) (g := gName 2) (tt := tYes) rfl sc.nd (pi_list (pe_op op_cat (pe_callTy (call_listD rfl) (by rfl) B.list boot_list (pa_cons (pv 0) pa_nil)) (pv 1)))
        (blkOk_by (N := ["value", "names", "name"]) (sc := defScope sRen) (by decide +kernel)) (fun _ _ _ _ _ => pg_name (i := 2) sc.nd rfl (Or.inl rfl)) (fun _ _ _ _ _ => pts_nil)
        (fun _ _ _ _ _ => pe_call OV hr rfl mV kV bV .nil pass0 (pa_cons (pv 2) pa_nil))) pa_nil)))) (pss_one (ps_ret pe_bl)) pss_nil)
      (pss_one (ps_ret (pe_cmpR op_eq (pe_callB cr_lenTx (by rfl) B.len boot_len (pa_cons (pe_callTy (cr_setTx rfl) (by rfl) B.set boot_set (pa_cons (pv 1) pa_nil)) pa_nil)) (pe_callB call_len_seq (by rfl) B.len boot_len (pa_cons (pv 1) pa_nil)) (nomark _)))))), ?_⟩
    walk_at "go"
    refine ⟨.ref d, .ty "dict", _, _, true, rfl, .ty "dict", .base (.dK hd), kit_ty (by decide +kernel), ?_⟩
    refine ⟨_, rfl, iteF ?_⟩
    refine ⟨_, rfl, d, _, rfl, .inl hd, fun v nv => ?_⟩
    have s1 := same_new (o := ValO v d) nv
    refine ⟨v, d, _, rfl, upd_same, .inl (s1 _ _ hd), fun n nn => ?_⟩
    have s2 := same_trans s1 (same_new (o := .lst ((dm ps).map (·.2))) nn)
    refine ⟨_, rfl, d, _, rfl, .inl (s2 _ _ hd), fun l nl => ?_⟩
    have s3 := same_trans s2 (same_new (o := .lst ((dm ps).map fun kv => L2.kV kv.1)) nl)
    have nn2 := (upd_ne (o := .lst ((dm ps).map fun kv => L2.kV kv.1)) (ne_of_none upd_same nl)).trans (upd_same (H := upd H v (ValO v d)) (a := n) (o := .lst ((dm ps).map (·.2))))
    refine ⟨_, rfl, l, n, _, _, rfl, rfl, upd_same, nn2, ?_, fun c nc => ?_⟩
    · rw [List.length_map, List.length_map]
      unfold dm
      rw [List.length_map]
      omega
    have ek : ((dm ps).map fun kv => L2.kV kv.1) = (ps.map (·.1)).map V.str := by
      unfold dm
      rw [List.map_map, List.map_map]
      rfl
    have ev : (dm ps).map (·.2) = (ps.map (·.2)).map V.str := by
      unfold dm
      rw [List.map_map, List.map_map]
      rfl
    have s4 := same_trans s3 (same_new (o := .lst (((dm ps).map fun kv => L2.kV kv.1) ++ (dm ps).map (·.2))) nc)
    refine ⟨c, rfl, ⟨_, SqL.of upd_same⟩, fun D nD => ?_⟩
    have low : ∀ y ∈ ps.map (·.1) ++ ps.map (·.2), lowZ y = true := fun y hy => by
      rcases List.mem_append.mp hy with hy | hy
      · obtain ⟨p, hp, rfl⟩ := List.mem_map.mp hy
        exact (lo p hp).1
      · obtain ⟨p, hp, rfl⟩ := List.mem_map.mp hy
        exact (lo p hp).2
    refine lstD (xs := (ps.map (·.1) ++ ps.map (·.2)).map V.str) (fun x => some (.bl (varV x))) (SqL.of (by rw [upd_same, ek, ev, List.map_append])) (by rw [List.length_map, List.length_append, List.length_map, List.length_map]; omega) nD (fun x H2 Ψ Θ hx s5 yes no => ?_) (fun H2 s5 h5 => ?_)
    · walk_at "go"
      obtain ⟨y, hy, rfl⟩ := List.mem_map.mp hx
      have e := low y hy
      unfold lowZ at e
      rw [Bool.and_eq_true, Bool.and_eq_true] at e
      exact ⟨.inl ⟨y, rfl, Nat.le_trans (of_decide_eq_true e.1.2) (by decide)⟩, fun H5 s6 => yes _ H5 rfl s6⟩
    · dsimp only [tNil]
      refine all_done h5 ?_
      have e : ((ps.map (·.1) ++ ps.map (·.2)).map V.str).all varV = true := List.all_eq_true.mpr fun x hx => by
        obtain ⟨y, hy, rfl⟩ := List.mem_map.mp hx
        exact low y hy
      rw [e]
      refine ⟨_, rfl, iteF ?_⟩
      have s6 := same_trans s4 s5
      have hn : H2 n = some (.lst ((ps.map (·.2)).map V.str)) := by
        rw [← ev]
        exact s5 _ _ (same_new (o := .lst (((dm ps).map fun kv => L2.kV kv.1) ++ (dm ps).map (·.2))) nc _ _ nn2)
      have lp : (ps.map (·.2)).length = ps.length := List.length_map ..
      refine ⟨_, rfl, n, ps.map (·.2), rfl, .inl (SqL.of hn), by omega, fun q L nq ndL hm hl => ?_⟩
      refine ⟨q, L, rfl, upd_same, by omega, ?_⟩
      refine ⟨_, rfl, n, _, rfl, .inl (SqL.of ((upd_ne (ne_of_none hn nq)).trans hn)), ?_⟩
      refine ⟨rfl, ?_⟩
      have pm := perm_of_sub (L := ps.map (·.2)) (ss := L) nd (fun y hy => (hm y).mpr hy) hl
      have el : decide (V.int ((L.length : Nat) : Int) = V.int ((((ps.map (·.2)).map V.str).length : Nat) : Int)) = true := by
        rw [List.length_map, pm.length_eq]
        exact decide_eq_true rfl
      rw [el]
      exact k _ (same_trans s6 (same_new nq))
abbrev sRenamed : Stmt := top 34
def spRenamed (K : PySem.W.Frag) : Sp := fun vs H Q _ => ∃ (a d : Addr) (ys : List Str) (ps : List (Str × Str)) (rn : Str → Str), vs = [.ref a, .ref d] ∧ ClAt K H a ys ∧ H d = some (.dK (dm ps)) ∧ (∀ p ∈ ps, lowZ p.1 = true ∧ lowZ p.2 = true) ∧ (ps.map (·.2)).Nodup ∧ ps.length < 60 ∧
  (∀ y ∈ ys, valV (dm ps) (Sum.inr (bareS y)) = some (.str (rn (bareS y)))) ∧ (∀ y ∈ ys, (rn (bareS y)).length ≤ 8) ∧ Made H Q (ys.map fun y => sendS (rn (bareS y)) y)
theorem sc_renamed : FnScope ["clause", "sent", "name", "literal"] ["clause", "sent"] (defScope sRenamed) := ⟨rfl, rfl, rfl, by decide +kernel, rfl, by decide +kernel, by decide +kernel⟩
theorem ok_renamed {f fN fG fI fS fR : Addr} {fd fdN fdG fdI fdS fdR : FuncData} (G : Fun K "renamed" "renamed" sRenamed f fd) (B : Pts mg) (mN : mg "need_clause" = some (.ref fN)) (kN : PySem.W.keepIn K (.ref fN) = true) (ON : FnOk P w K mg base CX0 5 fN fdN ["clause"] (spNeedC K)) (bN : Binds K fdN ["clause"] []) (mG : mg "is_renaming" = some (.ref fG)) (kG : PySem.W.keepIn K (.ref fG) = true) (OG : FnOk P w K mg base CX0 2 fG fdG ["value"] (spRen K)) (bG : Binds K fdG ["value"] []) (mI : mg "variables_in" = some (.ref fI)) (kI : PySem.W.keepIn K (.ref fI) = true) (OI : FnOk P w K mg base CX0 6 fI fdI ["clause"] (spVarsIn K)) (bI : Binds K fdI ["clause"] []) (mS : mg "sent_literal" = some (.ref fS)) (kS : PySem.W.keepIn K (.ref fS) = true) (OS : FnOk P w K mg base CX0 2 fS fdS ["literal", "sent"] spSent) (bS : Binds K fdS ["literal", "sent"] []) (mR : mg "in_order" = some (.ref fR)) (kR : PySem.W.keepIn K (.ref fR) = true) (OR : FnOk P w K mg base CX0 1 fR fdR ["literals"] (spOrd K)) (bR : Binds K fdR ["literals"] []) : FnOk P w K mg base CX0 7 f fd ["clause", "sent"] (spRenamed K) := by
  have sc := sc_renamed
  refine G.ok sc (fun vs H Q E h => ?_) (fun cdv A outer s H vs Q E hr h => ?_)
  · obtain ⟨_, _, _, _, _, rfl, _⟩ := h
    rfl
  · obtain ⟨a, d, ys, ps, rn, rfl, cl, hd, lo, nd, few, hv, h8, k⟩ := h
    have big : (1000 : Nat) < sizeLine := by decide
    have l1 := cl.2.2
    have hu := hu_of hr
    have hr5 : Room 5 _ := hr.mono (by decide)
    have hr2 : Room 2 _ := hr.mono (by decide)
    have hr1 : Room 1 _ := hr.mono (by decide)
    refine ⟨_, pss_cons (ps_expr (pe_call ON hr5 rfl mN kN bN .nil pass0 (pa_cons (pv 0) pa_nil)))
      (pss_cons (ps_if (PW.pt (pw_or (pt_not (pt_val (pe_call OG hr2 rfl mG kG bG .nil pass0 (pa_cons (pv 1) pa_nil))))
        (pw_or1 (pt_not (pt_val (pe_callB (cr_all rfl) (by rfl) B.all (by decide +kernel) (pa_cons (pe_lc (own := [("name", 2)]) (g := gName 2) (tt := tYes) (te := tDIn (tVar 2) (tVar 1)) rfl sc.nd (pi_list (pe_call OI hr rfl mI kI bI .nil pass0 (pa_cons (pv 0) pa_nil)))
        (blkOk_by (N := ["clause", "sent", "name", "literal"]) (sc := defScope sRenamed) (by decide +kernel)) (fun _ _ _ _ _ => pg_name (i := 2) sc.nd rfl (Or.inl rfl)) (fun _ _ _ _ _ => pts_nil)
        (fun _ _ _ _ _ => pe_cmp (pc_din hu (pv 2) (pv 1)) (by rfl))) pa_nil))))))) (pss_one ps_never) pss_nil)
      (pss_one (ps_ret (pe_call OR hr1 rfl mR kR bR .nil pass0 (pa_cons (pe_lc (own := [("literal", 3)]) (g := gName 3) (tt := tYes) rfl sc.nd (pi_sq (pv 0))
        (blkOk_by (N := ["clause", "sent", "name", "literal"]) (sc := defScope sRenamed) (by decide +kernel)) (fun _ _ _ _ _ => pg_name (i := 3) sc.nd rfl (Or.inl rfl)) (fun _ _ _ _ _ => pts_nil)
        (fun _ _ _ _ _ => pe_call OS hr2 rfl mS kS bS .nil pass0 (pa_cons (pv 3) (pa_cons (pv 1) pa_nil)))) pa_nil))))), ?_⟩
    refine ⟨_, rfl, a, ys, rfl, cl, fun H1 s1 => ?_⟩
    refine ⟨_, rfl, d, ps, rfl, s1 _ _ hd, lo, nd, few, fun H2 s2 => ?_⟩
    have s12 := same_trans s1 s2
    refine ⟨_, rfl, iteF ?_⟩
    refine ⟨_, rfl, a, ys, rfl, cl.same s12, fun H3 p rs s3 np hp pm so => ?_⟩
    have s13 := same_trans s12 s3
    have lr : rs.length < 30 := by
      rw [pm.length_eq, List.length_map]
      exact l1
    refine ⟨p, rfl, ⟨_, SqL.of hp⟩, fun D nD => ?_⟩
    refine lstD (fun x => some (.bl ((fun _ => true) x))) (SqL.of hp) (by rw [List.length_map]; omega) nD (fun x H4 Ψ Θ hx s4 yes no => ?_) (fun H4 s4 h4 => ?_)
    · obtain ⟨z, hz, rfl⟩ := List.mem_map.mp hx
      obtain ⟨y, hy, rfl⟩ := List.mem_map.mp (pm.mem_iff.mp hz)
      walk_at "go"
      have g : DGet H4 d (.str (bareS y)) (some (.str (rn (bareS y)))) := by
        have q := DGet.k (k := Sum.inr (bareS y)) (same_trans s13 s4 _ _ hd)
        rw [hv y hy] at q
        exact q
      exact ⟨d, _, rfl, g, yes _ H4 rfl (same_refl _)⟩
    · dsimp only [tNil]
      refine all_done (xs := rs.map V.str) (b := fun _ => true) h4 ?_
      have e : (rs.map V.str).all (fun _ => true) = true := List.all_eq_true.mpr fun _ _ => rfl
      rw [e]
      refine ⟨_, rfl, iteF ?_⟩
      dsimp only [tSeq, tAsg, tRet, tCB, tCons, tNil, tCall, tNext]
      have s14 := same_trans s13 s4
      refine seq_lc (fun | .str z => some (.str (sendS (rn (bareS z)) z)) | x => some x) rfl (.inr (sqT_same cl.1 s14)) (by rw [List.length_map]; omega) (fun x H5 Ψ Θ hx s5 yes no => ?_) (fun H5 D s5 nD h5 => ?_)
      · obtain ⟨y, hy, rfl⟩ := List.mem_map.mp hx
        walk_at "go"
        exact ⟨y, rn (bareS y), d, ps, rfl, same_trans s14 s5 _ _ hd, lit_line0 cl.lits y hy, hv y hy, h8 y hy, yes _ H5 rfl (same_refl _)⟩
      · have e : (ys.map V.str).filterMap (fun | .str z => some (V.str (sendS (rn (bareS z)) z)) | x => some x) = (ys.map fun y => sendS (rn (bareS y)) y).map V.str := by
          rw [List.filterMap_map, List.map_map]
          exact fm_some (fun y => V.str (sendS (rn (bareS y)) y)) ys
        rw [e] at h5
        have s15 := same_trans s14 s5
        refine ⟨D, _, rfl, .inl (SqL.of h5), by rw [List.length_map]; omega, fun H6 q rs2 s6 nq hq nd so mem le => ?_⟩
        exact k H6 q rs2 (same_trans s15 s6) (same_free s15 nq) hq ⟨nd, so, mem, le⟩
end
end My
end

section
set_option Elab.async false
set_option linter.all false
set_option maxRecDepth 100000
set_option maxHeartbeats 4000000
namespace My
local macro_rules | `(tactic| walk_at "go") => `(tactic| (repeat (first
  | (refine ⟨_, rfl, ?_⟩)
  | (refine ⟨_, _, rfl, rfl, ?_⟩)
  | (refine ⟨_, _, rfl, ?_⟩)
  | (refine ⟨rfl, ?_⟩)
  | (refine Or.inl ⟨_, rfl, ?_⟩)
  | (refine ⟨_, _, _, _, rfl, rfl, L2.SqL.of (by first | assumption | exact L2.upd_same), rfl, ?_⟩)
  | (refine ⟨_, _, _, _, rfl, rfl, (by first | assumption | exact L2.upd_same), rfl, ?_⟩)
  | (refine And.intro (by first | omega | decide | (unfold L2.CPow; decide) | (unfold L2.CMul; omega) | (unfold L2.CDiv; omega)) ?_))))
open PySem PySem.Spec PyProof.Rows L2 TL
abbrev sPurse : Stmt := top 37
abbrev sMixed : Stmt := top 38
abbrev sDraw : Stmt := top 39
abbrev sPurses : Stmt := top 40
abbrev sWord : Stmt := top 43
/-- the built-in names that the text leaves as they are -/
structure Bts (mg : Str → Option Value) : Prop where
  sum : mg "sum" = none
  int : mg "int" = none
  max : mg "max" = none
  min : mg "min" = none
  len : mg "len" = none
  range : mg "range" = none
/-- (10 ** 60) ** 8 -/
theorem op_pow8 {X : Cx} : OpR X (binaryOp .Pow) (fun x y H Q => x = .int (10 ^ 60) ∧ y = .int 8 ∧ Q (.int (10 ^ 480)) H) := by
  intro pins s σ H x y v u Q I rx ry h
  obtain ⟨rfl, rfl, q⟩ := h
  obtain ⟨t, rfl⟩ := rx
  obtain ⟨t', rfl⟩ := ry
  refine PySem.AutoIntOps.pow_4 (a := 10 ^ 60) (b := 8) (by decide) (by decide) (by decide +kernel) (by decide +kernel) (by decide +kernel) ?_
  have e : ((10 : Int) ^ 60) ^ (8 : Int).toNat = 10 ^ 480 := by decide +kernel
  rw [e]
  exact ⟨.int _, H, I.tok _, ⟨_, rfl⟩, q⟩
/-- what a purse holds: what is left of the great number, the seed, how often it was asked (at most n times), the place -/
def PurseL (n : Int) (l : List V) : Prop := ∃ a b c d : Int, l = [.int a, .int b, .int c, .int d] ∧ 0 ≤ a ∧ 0 ≤ b ∧ b < 2147483629 ∧ 0 ≤ c ∧ c ≤ n ∧ 0 ≤ d ∧ d ≤ 63
theorem PurseL.mono {n m : Int} {l : List V} (h : PurseL n l) (k : n ≤ m) : PurseL m l := by
  obtain ⟨a, b, c, d, e, h1, h2, h3, h4, h5, h6⟩ := h
  exact ⟨a, b, c, d, e, h1, h2, h3, h4, Int.le_trans h5 k, h6⟩
theorem sum_ones : ∀ {ys : List Str}, (∀ y ∈ ys, y.length = 1) → (ys.map (·.length)).sum = ys.length
  | [], _ => rfl
  | y :: ys, h => by
    rw [List.map_cons, List.sum_cons, h y (List.mem_cons_self ..), sum_ones fun z hz => h z (List.mem_cons_of_mem _ hz), List.length_cons]
    omega
def spPurse (K : PySem.W.Frag) : Sp := fun vs H Q _ => ∃ (a : Addr) (ns : List Int) (i : Int), vs = [.ref a, .int i] ∧ SqL K H a (ns.map V.int) ∧ 0 ≤ i ∧ i ≤ 63 ∧
  ∀ (p q : Addr) (o : HO) (l : List V), H q = none → upd H q o p = none → PurseL 0 l → Q (.ref p) (upd (upd H q o) p (.lst l))
def spMixed : Sp := fun vs H Q _ => ∃ s i t : Int, vs = [.int s, .int i, .int t] ∧ 0 ≤ s ∧ s < 2147483629 ∧ 0 ≤ i ∧ i ≤ 1048576 ∧ 0 ≤ t ∧ t ≤ 63 ∧
  ∀ r : Int, 0 ≤ r → r < 2147483587 → Q (.int r) H
def spDraw : Sp := fun vs H Q _ => ∃ (p : Addr) (m n : Int) (l : List V), vs = [.ref p, .int m] ∧ H p = some (.lst l) ∧ PurseL n l ∧ n ≤ 1000000 ∧ 0 < m ∧ m ≤ 1000 ∧
  ∀ (l' : List V) (r : Int), PurseL (n + 1) l' → 0 ≤ r → r < m → Q (.int r) (upd H p (.lst l'))
theorem bits_le {m : Int} (h0 : 0 < m) (h : m ≤ 1000) : ((Builtin.Int.intBits m : Nat) : Int) < 28 := by
  have : Builtin.Int.intBits m ≤ 10 := by
    unfold Builtin.Int.intBits
    have hm : m.natAbs < 2 ^ 10 := by omega
    split <;> first | omega | (have := (Nat.log2_lt (by omega)).mpr hm; omega)
  omega
section
variable {P : Program} {w : World} {K : PySem.W.Frag} {mg : Str → Option Value} {base : Heap}
theorem scPu : FnScope ["_law_script", "_law_at", "_law_seed"] ["_law_script", "_law_at"] (defScope sPurse) := ⟨rfl, rfl, rfl, by decide +kernel, rfl, by decide +kernel, by decide +kernel⟩
theorem ok_purse {f : Addr} {fd : FuncData} (G : Fun K "_law_purse" "_law_purse" sPurse f fd) (B : Bts mg) : FnOk P w K mg base CX0 1 f fd ["_law_script", "_law_at"] (spPurse K) := by
  refine G.ok scPu (fun vs H Q E h => ?_) (fun cdv A outer s H vs Q E hr h => ?_)
  · obtain ⟨a, ns, i, rfl, _⟩ := h
    rfl
  · obtain ⟨a, ns, i, rfl, hS, h0, h1, k⟩ := h
    refine ⟨_, pss_cons (ps_set (i := 2) scPu.nd rfl (Or.inl rfl) (pe_callB (cr_sum rfl) rfl B.sum boot_sum (pa_cons (pe_slice sl_list (pv 0) (po_some (pv 1)) (po_some (pe_op op_add (pv 1) pe_int))) pa_nil)))
      (pss_one (ps_ret (pe_lst (pa_cons (pe_op op_mod (pe_callTy call_int1 rfl B.int boot_int (pa_cons (pe_callB (call_max2 rfl) rfl B.max boot_max (pa_cons (pe_op op_sub (pv 2) (pe_op op_pow pe_int pe_int)) (pa_cons pe_int pa_nil))) pa_nil)) (pe_op op_pow8 (pe_op op_pow pe_int pe_int) pe_int))
        (pa_cons (pe_op op_mod (pe_callTy call_int1 rfl B.int boot_int (pa_cons (pv 2) pa_nil)) pe_int) (pa_cons pe_int (pa_cons (pv 1) pa_nil))))))), ?_⟩
    walk_at "go"
    refine ⟨a, _, rfl, hS, fun q nq => ?_⟩
    obtain ⟨ms, hms⟩ : ∃ ms : List Int, cutV (ns.map V.int) (some i) (some (i + 1)) = ms.map V.int := ⟨_, (by unfold cutV; rw [← List.map_drop, ← List.map_take])⟩
    rw [hms]

    refine ⟨q, ms, rfl, SqL.of upd_same, ?_⟩
    walk_at "go"
    refine ⟨(show (4 : Nat) ≤ sizeLine by decide), fun p np => k p q _ _ nq np ⟨_, _, _, _, rfl, Int.emod_nonneg _ (by decide), Int.emod_nonneg _ (by decide), Int.emod_lt_of_pos _ (by decide), Int.le_refl _, Int.le_refl _, h0, h1⟩⟩
theorem scMi : FnScope ["_law_seed", "_law_spin", "_law_at", "_law_mixed_here"] ["_law_seed", "_law_spin", "_law_at"] (defScope sMixed) := ⟨rfl, rfl, rfl, by decide +kernel, rfl, by decide +kernel, by decide +kernel⟩
theorem ok_mixed {f : Addr} {fd : FuncData} (G : Fun K "_law_mixed" "_law_mixed" sMixed f fd) (B : Bts mg) : FnOk P w K mg base CX0 1 f fd ["_law_seed", "_law_spin", "_law_at"] spMixed := by
  refine G.ok scMi (fun vs H Q E h => ?_) (fun cdv A outer s H vs Q E hr h => ?_)
  · obtain ⟨s, i, t, rfl, _⟩ := h
    rfl
  · obtain ⟨s, i, t, rfl, h1, h2, h3, h4, h5, h6, k⟩ := h
    refine ⟨_, pss_cons (ps_set (i := 3) scMi.nd rfl (Or.inl rfl) (pe_op op_add (pe_op op_mul (pv 0) pe_int) (pe_op op_mul (pe_op op_mul pe_int (pv 1)) (pv 1))))
      (pss_cons (ps_set (i := 3) scMi.nd rfl (Or.inl rfl) (pe_op op_mod (pe_callTy call_int1 rfl B.int boot_int (pa_cons (pe_op op_add (pe_op op_add (pv 3) (pe_op op_mul pe_int (pv 2))) (pv 1)) pa_nil)) pe_int))
      (pss_cons (ps_set (i := 3) scMi.nd rfl (Or.inl rfl) (pe_op op_mod (pe_callTy call_int1 rfl B.int boot_int (pa_cons (pe_op op_add (pe_op op_mul (pv 3) (pv 3)) pe_int) pa_nil)) pe_int))
      (pss_one (ps_ret (pe_op op_mod (pe_callTy call_int1 rfl B.int boot_int (pa_cons (pe_op op_mul (pv 3) pe_int) pa_nil)) pe_int))))), ?_⟩
    walk_at "go"
    exact k _ (Int.emod_nonneg _ (by decide)) (Int.emod_lt_of_pos _ (by decide))
theorem scDr : FnScope ["_law_purse_here", "_law_many", "_law_drawn", "_law_found", "_law_piece"] ["_law_purse_here", "_law_many"] (defScope sDraw) := ⟨rfl, rfl, rfl, by decide +kernel, rfl, by decide +kernel, by decide +kernel⟩
theorem ok_draw {f fM : Addr} {fd fdM : FuncData} (G : Fun K "_law_draw" "_law_draw" sDraw f fd) (B : Bts mg) (mM : mg "_law_mixed" = some (.ref fM)) (GM : Fun K "_law_mixed" "_law_mixed" sMixed fM fdM) (bM : Binds K fdM ["_law_seed", "_law_spin", "_law_at"] []) :
    FnOk P w K mg base CX0 2 f fd ["_law_purse_here", "_law_many"] spDraw := by
  have OM : FnOk P w K mg base CX0 1 fM fdM ["_law_seed", "_law_spin", "_law_at"] spMixed := ok_mixed GM B
  refine G.ok scDr (fun vs H Q E h => ?_) (fun cdv A outer s H vs Q E hr h => ?_)
  · obtain ⟨p, m, n, l, rfl, _⟩ := h
    rfl
  · obtain ⟨p, m, n, l, rfl, hp, ⟨a, b, c, d, rfl, ha, hb, hb2, hc, hcn, hd, hd2⟩, hn, hm, hm2, k⟩ := h
    refine ⟨_, pss_cons (ps_if (pt_cmpR op_gt (pe_ix ix_list (pv 0) pe_int (fun _ _ => rfl)) pe_int (nomark _))
        (pss_cons (ps_set (i := 2) scDr.nd rfl (Or.inl rfl) (pe_op op_mod (pe_callTy call_int1 rfl B.int boot_int (pa_cons (pe_ix ix_list (pv 0) pe_int (fun _ _ => rfl)) pa_nil)) (pv 1)))
        (pss_cons (ps_asg (pe_op op_fdiv (pe_ix ix_list (pv 0) pe_int (fun _ _ => rfl)) (pv 1)) (pg_sub (pv 0) pe_int set_list))
        (pss_one (ps_ret (pv 2))))) pss_nil)
      (pss_cons (ps_set (i := 3) scDr.nd rfl (Or.inl rfl) pe_int)
      (pss_cons (ps_for PassesOwn.never rfl (pi_range1 rfl B.range (pa_cons (pe_op op_add pe_int (pe_op op_fdiv (pe_bits (pv 1)) pe_int)) pa_nil)) (pg_name (i := 4) scDr.nd rfl (Or.inl rfl))
        (pss_cons (ps_asg (pe_op op_add (pe_ix ix_list (pv 0) pe_int (fun _ _ => rfl)) pe_int) (pg_sub (pv 0) pe_int set_list))
        (pss_one (ps_set (i := 3) scDr.nd rfl (Or.inl rfl) (pe_op op_add (pe_op op_mul (pv 3) pe_int) (pe_call OM hr rfl mM GM.kp bM .nil pass0 (pa_cons (pe_ix ix_list (pv 0) pe_int (fun _ _ => rfl)) (pa_cons (pe_ix ix_list (pv 0) pe_int (fun _ _ => rfl)) (pa_cons (pe_ix ix_list (pv 0) pe_int (fun _ _ => rfl)) pa_nil)))))))))
      (pss_one (ps_ret (pe_op op_mod (pe_callTy call_int1 rfl B.int boot_int (pa_cons (pv 3) pa_nil)) (pv 1)))))), ?_⟩
    walk_at "go"
    have hbits := bits_le hm hm2
    have hbit0 : (0 : Int) ≤ ((Builtin.Int.intBits m : Nat) : Int) := Int.natCast_nonneg _
    refine ite2 (fun c0 => ?_) (fun c0 => ?_)
    · walk_at "go"
      exact k _ _ ⟨_, _, _, _, rfl, Int.ediv_nonneg ha (Int.le_of_lt hm), hb, hb2, hc, by omega, hd, hd2⟩ (Int.emod_nonneg _ (by omega)) (Int.emod_lt_of_pos _ hm)
    · walk_at "go"
      have e1 : (1 + ((Builtin.Int.intBits m : Nat) : Int) / 28).toNat = 1 := by omega
      refine for_range (lo := 0) (n := (1 + ((Builtin.Int.intBits m : Nat) : Int) / 28).toNat) (fun i σ H2 => (i = 0 ∧ σ = [some (.ref p), some (.int m), none, some (.int 0), none] ∧ H2 = H) ∨
        (0 < i ∧ ∃ (f : Int) (v : Option V) (l' : List V), σ = [some (.ref p), some (.int m), none, some (.int f), v] ∧ H2 = upd H p (.lst l') ∧ PurseL (n + 1) l')) (.inl ⟨rfl, rfl, rfl⟩) ?_ ?_
      · rintro i σ H2 hi (⟨rfl, rfl, rfl⟩ | ⟨h0, _⟩)
        · walk_at "go"
          refine ⟨b, c + 1, d, rfl, hb, hb2, by omega, by omega, hd, hd2, fun r r0 r1 => ?_⟩
          walk_at "go"
          exact .inr ⟨by omega, _, _, _, rfl, rfl, _, _, _, _, rfl, ha, hb, hb2, by omega, by omega, hd, hd2⟩
        · omega
      · rintro σ H2 (⟨h0, _⟩ | ⟨h0, f, v, l', rfl, rfl, hl⟩)
        · omega
        · walk_at "go"
          exact k _ _ hl (Int.emod_nonneg _ (by omega)) (Int.emod_lt_of_pos _ hm)

def PursesAt (H H' : Hp) (as : List Addr) : Prop := as.Nodup ∧ (∀ a ∈ as, H a = none) ∧ ∀ a ∈ as, ∃ l, H' a = some (.lst l) ∧ PurseL 0 l
def spPurses (K : PySem.W.Frag) : Sp := fun vs H Q _ => ∃ (a : Addr) (ns : List Int) (m : Int), vs = [.ref a, .int m] ∧ SqL K H a (ns.map V.int) ∧ 0 ≤ m ∧ m ≤ 63 ∧ ns.length ≤ 63 ∧
  ∀ (H' : Hp) (p : Addr) (as : List Addr), Same H H' → H p = none → H' p = some (.lst (as.map V.ref)) → PursesAt H H' as → (p ∉ as) → as.length = (if m > 1 ∧ (ns.length : Int) > 1 then (if (ns.length : Int) < m then ns.length else m.toNat) else 1) → Q (.ref p) H'
theorem scPs : FnScope ["_law_script", "_law_few", "_law_at"] ["_law_script", "_law_few"] (defScope sPurses) := ⟨rfl, rfl, rfl, by decide +kernel, rfl, by decide +kernel, by decide +kernel⟩
theorem ok_purses {f fP : Addr} {fd fdP : FuncData} (G : Fun K "_law_purses" "_law_purses" sPurses f fd) (B : Bts mg) (mP : mg "_law_purse" = some (.ref fP)) (GP : Fun K "_law_purse" "_law_purse" sPurse fP fdP) (bP : Binds K fdP ["_law_script", "_law_at"] []) :
    FnOk P w K mg base CX0 3 f fd ["_law_script", "_law_few"] (spPurses K) := by
  have OP : FnOk P w K mg base CX0 1 fP fdP ["_law_script", "_law_at"] (spPurse K) := ok_purse GP B
  refine G.ok scPs (fun vs H Q E h => ?_) (fun cdv A outer s H vs Q E hr h => ?_)
  · obtain ⟨a, ns, m, rfl, _⟩ := h
    rfl
  · obtain ⟨a, ns, m, rfl, hS, h0, h1, hn, k⟩ := h
    have hr1 : Room 1 _ := hr.mono (by decide)
    refine ⟨_, pss_one (ps_ret (pe_lc (own := [("_law_at", 2)]) (g := gName 2) (tt := tYes) rfl scPs.nd
      (pi_range1 rfl B.range (pa_cons (pe_callB (call_max2 rfl) rfl B.max boot_max (pa_cons pe_int (pa_cons (pe_callB (call_min2 rfl) rfl B.min boot_min (pa_cons (pv 1) (pa_cons (pe_callB call_len_seq rfl B.len boot_len (pa_cons (pv 0) pa_nil)) pa_nil))) pa_nil))) pa_nil))
      (blkOk_by (N := ["_law_script", "_law_few", "_law_at"]) (sc := defScope sPurses) (by decide +kernel)) (fun _ _ _ _ _ => pg_name (i := 2) scPs.nd rfl (Or.inl rfl)) (fun _ _ _ _ _ => pts_nil)
      (fun _ _ _ _ _ => pe_call OP hr1 rfl mP GP.kp bP .nil pass0 (pa_cons (pv 0) (pa_cons (pv 2) pa_nil))))), ?_⟩
    walk_at "go"
    refine ⟨a, _, rfl, .inl hS, ?_⟩
    have hl : ((ns.map V.int).length : Int) = ns.length := by rw [List.length_map]
    rw [hl]
    walk_at "go"
    obtain ⟨J, eJ, hJ0, hJ1, eJ2⟩ : ∃ J : Int, (if (if (ns.length : Int) < m then (ns.length : Int) else m) > 1 then (if (ns.length : Int) < m then (ns.length : Int) else m) else 1) = J ∧ 1 ≤ J ∧ J ≤ 63 ∧
        J.toNat = (if m > 1 ∧ (ns.length : Int) > 1 then (if (ns.length : Int) < m then ns.length else m.toNat) else 1) := by
      refine ⟨_, rfl, ?_, ?_, ?_⟩
      · split <;> split <;> omega
      · split <;> split <;> omega
      · split <;> split <;> split <;> omega
    rw [eJ]
    refine fun D nD => ?_
    refine lc_range (lo := 0) (n := J.toNat) (fun i H2 => ∃ as : List Addr, as.length = i ∧ Same H H2 ∧ H2 D = some (.lst (as.map V.ref)) ∧ PursesAt H H2 as ∧ D ∉ as) ?_ ?_ ?_
    · exact ⟨[], rfl, fun b o e => by rw [upd_ne (ne_of_none e nD)]; exact e, upd_same, ⟨List.nodup_nil, fun a z => by simp at z, fun a z => by simp at z⟩, by simp⟩
    · rintro i H2 hi ⟨as, hlen, sm, hD, ⟨nd, fr, pa⟩, nm⟩
      walk_at "go"
      refine ⟨a, ns, 0 + (i : Int), rfl, sm.seq hS, by omega, by omega, fun p q o l nq np hl => ?_⟩
      have npq : p ≠ q := fun z => by
        rw [z, upd_same] at np
        cases np
      have np2 : H2 p = none := by
        rw [upd_ne npq] at np
        exact np
      have dp : D ≠ p := ne_of_none hD np2
      have dq : D ≠ q := ne_of_none hD nq
      have pas : p ∉ as := fun z => by
        obtain ⟨l', e, _⟩ := pa p z
        rw [np2] at e
        cases e
      refine ⟨as.map V.ref, by rw [upd_ne dp, upd_ne dq]; exact hD, ?_, as ++ [p], ?_, ?_, ?_, ⟨?_, ?_, ?_⟩, ?_⟩
      · rw [List.length_map, hlen]
        exact small1000 (by omega)
      · rw [List.length_append, hlen]
        rfl
      · intro b o' e
        have e2 := sm b o' e
        rw [upd_ne (ne_of_none e nD), upd_ne (ne_of_none e2 np2), upd_ne (ne_of_none e2 nq)]
        exact e2
      · rw [upd_same, List.map_append]
        rfl
      · exact List.nodup_append.mpr ⟨nd, by simp, fun x hx y hy => by
          rw [List.mem_singleton] at hy
          rw [hy]
          exact fun z => pas (z ▸ hx)⟩
      · intro x hx
        rcases List.mem_append.mp hx with hx | hx
        · exact fr x hx
        · rw [List.mem_singleton] at hx
          rw [hx]
          exact sm.free np2
      · intro x hx
        rcases List.mem_append.mp hx with hx | hx
        · obtain ⟨l', e, h'⟩ := pa x hx
          refine ⟨l', ?_, h'⟩
          rw [upd_ne (show x ≠ D from fun z => nm (z ▸ hx)), upd_ne (ne_of_none e np2), upd_ne (ne_of_none e nq)]
          exact e
        · rw [List.mem_singleton] at hx
          rw [hx]
          exact ⟨l, by rw [upd_ne dp.symm]; exact upd_same, hl⟩
      · intro z
        rcases List.mem_append.mp z with z | z
        · exact nm z
        · rw [List.mem_singleton] at z
          exact dp z
    · rintro H2 ⟨as, hlen, sm, hD, pa, nm⟩
      exact k H2 D as sm nD hD pa nm (hlen.trans eJ2)

theorem sql_upd {H : Hp} {p q : Addr} {o : HO} {xs : List V} (h : SqL K H q xs) (n : q ≠ p) : SqL K (upd H p o) q xs := by
  rcases h with (h | ⟨o', h⟩) | h
  · exact .inl (.inl (by rw [upd_ne n]; exact h))
  · exact .inl (.inr ⟨o', by rw [upd_ne n]; exact h⟩)
  · exact .inr h
def letters : Str := "abcdefghijklmnopqrstuvwxyz"
/-- one to eight letters from a to z -/
def Low (x : Str) : Prop := x.length ≤ 8 ∧ 1 ≤ x.length ∧ ∀ c ∈ tl x, 97 ≤ c ∧ c ≤ 122
theorem letters_low : ∀ c ∈ (Str.cps "abcdefghijklmnopqrstuvwxyz").toList, 97 ≤ c ∧ c ≤ 122 := by decide +kernel
theorem joinL_mem {Pc : Nat → Prop} : ∀ {l : List (List Nat)}, (∀ p ∈ l, ∀ c ∈ p, Pc c) → ∀ c ∈ joinL [] l, Pc c
  | [], _, c, hc => by
    have : c ∈ ([] : List Nat) := hc
    simp at this
  | [p], h, c, hc => h p (List.mem_cons_self ..) c hc
  | p :: q :: r, h, c, hc => by
    have hc' : c ∈ p ++ ([] ++ joinL [] (q :: r)) := hc
    rcases List.mem_append.mp hc' with z | z
    · exact h p (List.mem_cons_self ..) c z
    · exact joinL_mem (fun x hx => h x (List.mem_cons_of_mem _ hx)) c z
theorem join_low {ys : List Str} (h : ∀ y ∈ ys, ∀ c ∈ tl y, 97 ≤ c ∧ c ≤ 122) : ∀ c ∈ tl (Txt.join (Str.ofString "") ys), 97 ≤ c ∧ c ≤ 122 := by
  rw [join_eq, tl_join]
  refine joinL_mem fun p hp => ?_
  obtain ⟨y, hy, rfl⟩ := List.mem_map.mp hp
  exact h y hy
def spWord : Sp := fun vs H Q _ => ∃ (p : Addr) (n : Int) (l : List V), vs = [.ref p] ∧ H p = some (.lst l) ∧ PurseL n l ∧ n ≤ 999000 ∧
  ∀ (H' : Hp) (l' : List V) (x : Str), (∀ b o, H b = some o → b ≠ p → H' b = some o) → H' p = some (.lst l') → PurseL (n + 10) l' → Low x → Q (.str x) H'
theorem scWo : FnScope ["_law_purse_here", "_law_size", "_law_spin"] ["_law_purse_here"] (defScope sWord) := ⟨rfl, rfl, rfl, by decide +kernel, rfl, by decide +kernel, by decide +kernel⟩
theorem ok_word {f fD : Addr} {fd fdD : FuncData} (G : Fun K "_law_word" "_law_word" sWord f fd) (B : Bts mg) (mD : mg "_law_draw" = some (.ref fD)) (kD : PySem.W.keepIn K (.ref fD) = true)
    (OD : FnOk P w K mg base CX0 2 fD fdD ["_law_purse_here", "_law_many"] spDraw) (bD : Binds K fdD ["_law_purse_here", "_law_many"] []) :
    FnOk P w K mg base CX0 4 f fd ["_law_purse_here"] spWord := by
  refine G.ok scWo (fun vs H Q E h => ?_) (fun cdv A outer s H vs Q E hr h => ?_)
  · obtain ⟨p, n, l, rfl, _⟩ := h
    rfl
  · obtain ⟨p, n, l, rfl, hp, hl, hn, k⟩ := h
    have hr1 : Room 2 _ := hr.mono (by decide)
    refine ⟨_, pss_cons (ps_set (i := 1) scWo.nd rfl (Or.inl rfl) (pe_op op_add pe_int (pe_call OD hr1 rfl mD kD bD .nil pass0 (pa_cons (pv 0) (pa_cons
        (pe_ifExp (pt_cmpR op_eq (pe_call OD hr1 rfl mD kD bD .nil pass0 (pa_cons (pv 0) (pa_cons pe_int pa_nil))) pe_int (nomark _)) pe_int pe_int) pa_nil)))))
      (pss_one (ps_ret (pe_join pe_str (pe_lc (own := [("_law_spin", 2)]) (g := gName 2) (tt := tYes) rfl scWo.nd (pi_range1 rfl B.range (pa_cons (pv 1) pa_nil))
        (blkOk_by (N := ["_law_purse_here", "_law_size", "_law_spin"]) (sc := defScope sWord) (by decide +kernel)) (fun _ _ _ _ _ => pg_name (i := 2) scWo.nd rfl (Or.inl rfl)) (fun _ _ _ _ _ => pts_nil)
        (fun _ _ _ _ _ => pe_ix ix_str pe_str (pe_call OD hr1 rfl mD kD bD .nil pass0 (pa_cons (pv 0) (pa_cons pe_int pa_nil))) (fun _ _ => rfl)))))), ?_⟩
    walk_at "go"
    refine ⟨p, 3, n, l, rfl, hp, hl, by omega, by decide, by decide, fun l1 r1 hl1 r10 r11 => ?_⟩
    walk_at "go"
    refine ite2 (fun c => ?_) (fun c => ?_)
    all_goals (
      walk_at "go"
      refine ⟨p, _, n + 1, l1, rfl, upd_same, hl1, by omega, by decide, by decide, fun l2 r2 hl2 r20 r21 => ?_⟩
      have r28 : r2 < 8 := by omega
      rw [upd_upd]
      walk_at "go"
      refine ⟨⟨_, rfl⟩, ?_⟩
      walk_at "go"
      refine fun D nD => ?_
      have nDp : D ≠ p := by
        intro z
        rw [z, upd_same] at nD
        cases nD
      have nDH : H D = none := by
        rw [upd_ne nDp] at nD
        exact nD
      refine lc_range (lo := 0) (n := (1 + r2).toNat) (fun i H2 => ∃ (l' : List V) (ys : List Str), ys.length = i ∧ (∀ b o, H b = some o → b ≠ p → H2 b = some o) ∧ H2 p = some (.lst l') ∧ PurseL (n + 2 + (i : Int)) l' ∧
        H2 D = some (.lst (ys.map V.str)) ∧ ∀ y ∈ ys, y.length = 1 ∧ ∀ c ∈ tl y, 97 ≤ c ∧ c ≤ 122) ?_ ?_ ?_
      · exact ⟨l2, [], rfl, fun b o e hb => by rw [upd_ne (ne_of_none e nDH), upd_ne hb]; exact e, by rw [upd_ne nDp.symm]; exact upd_same, by
          have e : n + 2 + ((0 : Nat) : Int) = n + 1 + 1 := by omega
          rw [e]
          exact hl2, upd_same, by simp⟩
      · rintro i H2 hi ⟨l', ys, hlen, sm, hp2, hl', hD, hys⟩
        walk_at "go"
        refine ⟨p, 26, n + 2 + (i : Int), l', rfl, hp2, hl', by omega, by decide, by decide, fun l3 r3 hl3 r30 r31 => ?_⟩
        obtain ⟨j, rfl⟩ : ∃ j : Nat, r3 = (j : Int) := ⟨r3.toNat, by omega⟩
        have h26 : j < 26 := by omega
        refine ⟨_, (j : Int), (Str.cps "abcdefghijklmnopqrstuvwxyz").toList[j]'(Nat.lt_of_lt_of_eq h26 (by decide +kernel)), rfl, rfl, (by decide), ?_, ?_⟩
        · exact atI_nat (List.getElem?_eq_getElem _)
        · refine ⟨ys.map V.str, by rw [upd_ne nDp]; exact hD, by rw [List.length_map, hlen]; exact small1000 (by omega), l3, ys ++ [_], by rw [List.length_append, hlen]; rfl, ?_, by rw [upd_ne nDp.symm]; exact upd_same, ?_, by rw [upd_same, List.map_append]; rfl, ?_⟩
          · intro b o e hb
            rw [upd_ne (ne_of_none e nDH), upd_ne hb]
            exact sm b o e hb
          · have e : n + 2 + ((i + 1 : Nat) : Int) = n + 2 + (i : Int) + 1 := by omega
            rw [e]
            exact hl3
          · intro y hy
            rcases List.mem_append.mp hy with hy | hy
            · exact hys y hy
            · rw [List.mem_singleton] at hy
              rw [hy]
              refine ⟨rfl, fun c hc => ?_⟩
              have hc' : c ∈ [(Str.cps "abcdefghijklmnopqrstuvwxyz").toList[j]'(Nat.lt_of_lt_of_eq h26 (by decide +kernel))] := hc
              rw [List.mem_singleton] at hc'
              rw [hc']
              exact letters_low _ (List.getElem_mem _)
      · rintro H2 ⟨l', ys, hlen, sm, hp2, hl', hD, hys⟩
        have e1 : (Txt.join (Str.ofString "") ys).length = ys.length := PySem.W.KT.join_ones ys fun y hy => (hys y hy).1
        refine ⟨_, D, ys, rfl, rfl, .inl (SqL.of hD), ?_, ?_⟩
        · have e2 : (ys.map (·.length)).sum = ys.length := sum_ones fun y hy => (hys y hy).1
          have e3 : (Str.ofString "").length = 0 := rfl
          rw [e2, e3]
          omega
        · exact k H2 l' _ sm hp2 (hl'.mono (by omega)) ⟨by rw [e1]; omega, by rw [e1]; omega, join_low fun y hy => (hys y hy).2⟩)
end
end My
end

section
set_option Elab.async false
set_option linter.all false
set_option maxRecDepth 100000
set_option maxHeartbeats 4000000
namespace My
local macro_rules | `(tactic| walk_at "go") => `(tactic| (repeat (first
  | (refine ⟨_, rfl, ?_⟩)
  | (refine ⟨_, _, rfl, rfl, ?_⟩)
  | (refine ⟨_, _, rfl, ?_⟩)
  | (refine ⟨rfl, ?_⟩)
  | (refine Or.inl ⟨_, rfl, ?_⟩)
  | (refine ⟨_, _, _, _, rfl, rfl, L2.SqL.of (by first | assumption | exact L2.upd_same), rfl, ?_⟩)
  | (refine ⟨_, _, _, _, rfl, rfl, (by first | assumption | exact L2.upd_same), rfl, ?_⟩)
  | (refine And.intro (by first | omega | decide | (unfold L2.CPow; decide) | (unfold L2.CMul; omega) | (unfold L2.CDiv; omega)) ?_))))
open PySem PySem.Spec PyProof.Rows L2 TL MyF MyS MyW RZ
/-! ### texts by their first sign -/
section
variable {P : Program} {w : World} {K : PySem.W.Frag} {mg : Str → Option Value} {base : Heap}
/-! ### _law_contrary, _law_bare -/
abbrev sLCon : Stmt := top 45
def spLOne (g : Str → Str) : Sp := fun vs H Q _ => ∃ z, vs = [.str z] ∧ 1 ≤ z.length ∧ z.length ≤ 9 ∧ Q (.str (g z)) H
theorem sc_lcon : FnScope ["_law_literal"] ["_law_literal"] (defScope sLCon) := ⟨rfl, rfl, rfl, by decide +kernel, rfl, by decide +kernel, by decide +kernel⟩
theorem ok_lcon {f : Addr} {fd : FuncData} (G : Fun K "_law_contrary" "_law_contrary" sLCon f fd) : FnOk P w K mg base CX0 1 f fd ["_law_literal"] (spLOne oppS) := by
  have sc := sc_lcon
  refine G.ok sc (fun vs H Q E h => ?_) (fun cdv A outer s H vs Q E hr h => ?_)
  · obtain ⟨_, rfl, _⟩ := h
    rfl
  · obtain ⟨z, rfl, h1, h9, k⟩ := h
    have big : (1000 : Nat) < sizeLine := by decide
    obtain ⟨c, hc, hn⟩ := first_cps h1
    refine ⟨_, pss_one (ps_ret (pe_ifExp (pt_cmpR op_eq (pe_ix ix_str (pv 0) pe_int (fun _ _ => rfl)) pe_str (nomark _)) (pe_slice sl_str (pv 0) (po_some pe_int) po_none) (pe_op op_add_str pe_str (pv 0)))), ?_⟩
    refine ⟨_, rfl, z, 0, c, rfl, rfl, by omega, atI_nat (j := 0) hc, rfl, _, rfl, ?_⟩
    have e0 : decide (V.str ⟨#[c]⟩ = V.str dash) = negS z := by rw [one_sign, hn]
    show if decide (V.str ⟨#[c]⟩ = V.str dash) = true then _ else _
    rw [e0]
    refine ite2 (fun n => ?_) (fun n => ?_)
    · refine ⟨_, rfl, _, rfl, z, rfl, by omega, ?_⟩
      rw [cut_one h1 n]
      have e : oppS z = bareS z := if_pos n
      rw [e] at k
      exact k
    · have e : oppS z = dash ++ z := if_neg n
      rw [e] at k
      refine ⟨_, rfl, dash, z, rfl, rfl, ?_, k⟩
      show 1 + z.length ≤ sizeLine
      omega
abbrev sLBare : Stmt := top 46
theorem sc_lbare : FnScope ["_law_literal"] ["_law_literal"] (defScope sLBare) := ⟨rfl, rfl, rfl, by decide +kernel, rfl, by decide +kernel, by decide +kernel⟩
theorem ok_lbare {f : Addr} {fd : FuncData} (G : Fun K "_law_bare" "_law_bare" sLBare f fd) : FnOk P w K mg base CX0 1 f fd ["_law_literal"] (spLOne bareS) := by
  have sc := sc_lbare
  refine G.ok sc (fun vs H Q E h => ?_) (fun cdv A outer s H vs Q E hr h => ?_)
  · obtain ⟨_, rfl, _⟩ := h
    rfl
  · obtain ⟨z, rfl, h1, h9, k⟩ := h
    have big : (1000 : Nat) < sizeLine := by decide
    obtain ⟨c, hc, hn⟩ := first_cps h1
    refine ⟨_, pss_one (ps_ret (pe_ifExp (pt_cmpR op_eq (pe_ix ix_str (pv 0) pe_int (fun _ _ => rfl)) pe_str (nomark _)) (pe_slice sl_str (pv 0) (po_some pe_int) po_none) (pv 0))), ?_⟩
    refine ⟨_, rfl, z, 0, c, rfl, rfl, by omega, atI_nat (j := 0) hc, rfl, _, rfl, ?_⟩
    have e0 : decide (V.str ⟨#[c]⟩ = V.str dash) = negS z := by rw [one_sign, hn]
    show if decide (V.str ⟨#[c]⟩ = V.str dash) = true then _ else _
    rw [e0]
    refine ite2 (fun n => ?_) (fun n => ?_)
    · refine ⟨_, rfl, _, rfl, z, rfl, by omega, ?_⟩
      rw [cut_one h1 n]
      exact k
    · rw [bare_of_pos n] at k
      exact ⟨_, rfl, k⟩
end
end My
end

section
set_option Elab.async false
set_option linter.all false
set_option maxRecDepth 100000
set_option maxHeartbeats 4000000
namespace My
local macro_rules | `(tactic| walk_at "go") => `(tactic| (repeat (first
  | (refine ⟨_, rfl, ?_⟩)
  | (refine ⟨_, _, rfl, rfl, ?_⟩)
  | (refine ⟨_, _, rfl, ?_⟩)
  | (refine ⟨rfl, ?_⟩)
  | (refine Or.inl ⟨_, rfl, ?_⟩)
  | (refine ⟨_, _, _, _, rfl, rfl, L2.SqL.of (by first | assumption | exact L2.upd_same), rfl, ?_⟩)
  | (refine ⟨_, _, _, _, rfl, rfl, (by first | assumption | exact L2.upd_same), rfl, ?_⟩)
  | (refine And.intro (by first | omega | decide | (unfold L2.CPow; decide) | (unfold L2.CMul; omega) | (unfold L2.CDiv; omega)) ?_))))
open PySem PySem.Spec PyProof.Rows L2 TL MyF MyS MyW RZ
section
variable {P : Program} {w : World} {K : PySem.W.Frag} {mg : Str → Option Value} {base : Heap}
/-! ### _law_clause -/
theorem paired_snoc {α β : Type} {F : α → β → Prop} : ∀ {as : List α} {bs : List β} {a : α} {b : β}, Paired F as bs → F a b → Paired F (as ++ [a]) (bs ++ [b])
  | _, _, _, _, .nil, h => .cons h .nil
  | _, _, _, _, .cons r t, h => .cons r (paired_snoc t h)
def mk (ys : List Str) : List (Key × V) := ys.map fun y => (Sum.inr y, .bl true)
def fPair : V → List V := fun x => [x, .bl true]
theorem pairs_of {H : Hp} {ts : List Addr} {xs : List V} (h : Tups H fPair ts xs) : ∀ ys : List Str, xs = ys.map V.str → Paired (fun p (kv : Key × V) => SqT K H p [L2.kV kv.1, kv.2]) ts (mk ys) := by
  induction h with
  | nil =>
    intro ys e
    cases ys with
    | nil => exact .nil
    | cons y ys => cases e
  | @snoc ts xs t x r e ih =>
    intro ys e2
    obtain ⟨zs, z, rfl⟩ : ∃ zs z, ys = zs ++ [z] := by
      rcases List.eq_nil_or_concat ys with rfl | ⟨zs, z, rfl⟩
      · have := congrArg List.length e2
        rw [List.length_append, List.map_nil, List.length_nil, List.length_singleton] at this
        omega
      · exact ⟨zs, z, by rw [List.concat_eq_append]⟩
    rw [List.map_append] at e2
    obtain ⟨e3, e4⟩ := List.append_inj' e2 rfl
    have e5 : x = V.str z := by
      injection e4
    have q := paired_snoc (ih zs e3) (show (fun p (kv : Key × V) => SqT K H p [L2.kV kv.1, kv.2]) t (Sum.inr z, .bl true) from SqT.of (by rw [e]; show some (HO.tup [x, .bl true]) = _; rw [e5]; rfl))
    unfold mk
    rw [List.map_append]
    exact q
theorem put_keys (acc : List (Key × V)) (ks : List Str) (y : Str) (v : V) (h : acc.map (·.1) = ks.map Sum.inr) : (putK acc (Sum.inr y) v).map (·.1) = (if y ∈ ks then ks else ks ++ [y]).map Sum.inr := by
  have any : (acc.any fun kv => decide (kv.1 = Sum.inr y)) = decide (y ∈ ks) := by
    have e : (acc.any fun kv => decide (kv.1 = Sum.inr y)) = (acc.map (·.1)).any fun k => decide (k = Sum.inr y) := by rw [List.any_map]; rfl
    rw [e, h, List.any_map]
    by_cases c : y ∈ ks
    · rw [decide_eq_true c]
      exact List.any_eq_true.mpr ⟨y, c, decide_eq_true rfl⟩
    · rw [decide_eq_false c]
      refine List.any_eq_false.mpr fun z hz e2 => c ?_
      have e3 := of_decide_eq_true e2
      injection e3 with e4
      exact e4 ▸ hz
  unfold putK
  rw [any]
  by_cases c : y ∈ ks
  · rw [if_pos (decide_eq_true c), if_pos c, List.map_map, ← h]
    refine List.map_congr_left fun kv _ => ?_
    show (if kv.1 = Sum.inr y then (kv.1, v) else kv).1 = kv.1
    split <;> rfl
  · rw [if_neg (by rw [decide_eq_false c]; exact Bool.false_ne_true), if_neg c, List.map_append, h, List.map_append]
    rfl
theorem merge_keys : ∀ (ys : List Str) (acc : List (Key × V)) (ks : List Str), acc.map (·.1) = ks.map Sum.inr → ks.Nodup → ∃ ks' : List Str, (mergeK acc (mk ys)).map (·.1) = ks'.map Sum.inr ∧ ks'.Nodup ∧ (∀ y, y ∈ ks' ↔ y ∈ ks ∨ y ∈ ys) ∧ ks'.length ≤ ks.length + ys.length
  | [], acc, ks, h, n => ⟨ks, h, n, fun y => by simp, Nat.le_refl _⟩
  | x :: ys, acc, ks, h, n => by
    have h2 := put_keys acc ks x (.bl true) h
    by_cases c : x ∈ ks
    · rw [if_pos c] at h2
      obtain ⟨ks', a, b, m, l⟩ := merge_keys ys (putK acc (Sum.inr x) (.bl true)) ks h2 n
      refine ⟨ks', a, b, fun y => ?_, by rw [List.length_cons]; omega⟩
      rw [m, List.mem_cons]
      constructor
      · exact fun z => z.elim .inl fun z => .inr (.inr z)
      · rintro (z | z | z)
        · exact .inl z
        · exact .inl (z ▸ c)
        · exact .inr z
    · rw [if_neg c] at h2
      obtain ⟨ks', a, b, m, l⟩ := merge_keys ys (putK acc (Sum.inr x) (.bl true)) (ks ++ [x]) h2 (List.nodup_append.mpr ⟨n, List.nodup_cons.mpr ⟨by simp, List.nodup_nil⟩, fun a ha b hb => by
        rw [List.mem_singleton] at hb
        rw [hb]
        exact fun z => c (z ▸ ha)⟩)
      refine ⟨ks', a, b, fun y => ?_, by rw [List.length_append, List.length_singleton] at l; rw [List.length_cons]; omega⟩
      rw [m, List.mem_append, List.mem_singleton, List.mem_cons (a := y) (b := x)]
      exact or_assoc
abbrev sLCl : Stmt := top 47
def spLCl (K : PySem.W.Frag) : Sp := fun vs H Q _ => ∃ (a : Addr) (ys : List Str), vs = [.ref a] ∧ Sq K H a (ys.map V.str) ∧ ys.length < 64 ∧ Made H Q ys
theorem sc_lcl : FnScope ["_law_literals", "_law_literal"] ["_law_literals"] (defScope sLCl) := ⟨rfl, rfl, rfl, by decide +kernel, rfl, by decide +kernel, by decide +kernel⟩
theorem ok_lcl {f : Addr} {fd : FuncData} (G : Fun K "_law_clause" "_law_clause" sLCl f fd) (B : Pts mg) : FnOk P w K mg base CX0 1 f fd ["_law_literals"] (spLCl K) := by
  have sc := sc_lcl
  refine G.ok sc (fun vs H Q E h => ?_) (fun cdv A outer s H vs Q E hr h => ?_)
  · obtain ⟨_, _, rfl, _⟩ := h
    rfl
  · obtain ⟨a, ys, rfl, hS, few, k⟩ := h
    have big : (1000 : Nat) < sizeLine := by decide
    refine ⟨_, pss_one (ps_ret (pe_callTy call_tuple_of (by rfl) B.tuple boot_tuple (pa_cons (pe_callB (call_sortedD rfl) (by rfl) B.sorted (by decide +kernel) (pa_cons (pe_callTy (call_dictP rfl) (by rfl) B.dict boot_dict (pa_cons
      (pe_lc (own := [("_law_literal", 1)]) (g := gName 1) (tt := tYes) rfl sc.nd (pi_sq (pv 0))
        (blkOk_by (N := ["_law_literals", "_law_literal"]) (sc := defScope sLCl) (by decide +kernel)) (fun _ _ _ _ _ => pg_name (i := 1) sc.nd rfl (Or.inl rfl)) (fun _ _ _ _ _ => pts_nil)
        (fun _ _ _ _ _ => pe_tup (pa_cons (pv 1) (pa_cons pe_bl pa_nil)))) pa_nil)) pa_nil)) pa_nil))), ?_⟩
    dsimp only [tSeq, tAsg, tRet, tCB, tCons, tNil, tCall, tNext]
    refine tups_seq fPair rfl hS (by rw [List.length_map]; omega) (fun x H2 Ψ Θ hx s2 yes => ?_) (fun H2 D ts s2 nD h2 tp => ?_)
    · obtain ⟨y, hy, rfl⟩ := List.mem_map.mp hx
      walk_at "go"
      exact ⟨(by show 2 ≤ sizeLine; decide), fun t nt => yes t _ (same_new nt) upd_same⟩
    · refine ⟨D, ts, mk ys, rfl, SqL.of h2, pairs_of tp ys rfl, fun d nd => ?_⟩
      obtain ⟨ks, e, nod, mem, le⟩ := merge_keys ys [] [] rfl List.nodup_nil
      refine ⟨d, _, ks, rfl, .inl upd_same, e, by rw [List.length_nil] at le; omega, fun rs r pm so nr => ?_⟩
      refine ⟨r, _, rfl, .inl ⟨SqL.of upd_same, fun t nt => ?_⟩⟩
      have s3 := same_trans (same_trans s2 (same_new (o := .dK (mergeK [] (mk ys))) nd)) (same_new (o := .lst (rs.map V.str)) nr)
      refine k _ t rs (same_trans s3 (same_new nt)) (same_free s3 nt) upd_same ⟨pm.nodup_iff.mpr nod, so, fun y => ?_, ?_⟩
      · rw [pm.mem_iff, mem]
        simp
      · rw [pm.length_eq]
        rw [List.length_nil, Nat.zero_add] at le
        exact le
/-! ### _law_kept_by -/
abbrev sLKept : Stmt := top 51
def spLKept (K : PySem.W.Frag) : Sp := fun vs H Q _ => ∃ (a b : Addr) (zs ys : List Str), vs = [.ref a, .ref b] ∧ Sq K H a (zs.map V.str) ∧ Sq K H b (ys.map V.str) ∧ ys.length < sizeLine ∧ ∀ H', Same H H' → Q (.bl (ys.any fun y => decide (y ∈ zs))) H'
theorem sc_lkept : FnScope ["_law_part", "_law_clause_here", "_law_literal"] ["_law_part", "_law_clause_here"] (defScope sLKept) := ⟨rfl, rfl, rfl, by decide +kernel, rfl, by decide +kernel, by decide +kernel⟩
theorem ok_lkept {f : Addr} {fd : FuncData} (G : Fun K "_law_kept_by" "_law_kept_by" sLKept f fd) (B : Pts mg) : FnOk P w K mg base CX0 1 f fd ["_law_part", "_law_clause_here"] (spLKept K) := by
  have sc := sc_lkept
  refine G.ok sc (fun vs H Q E h => ?_) (fun cdv A outer s H vs Q E hr h => ?_)
  · obtain ⟨_, _, _, _, rfl, _⟩ := h
    rfl
  · obtain ⟨a, b, zs, ys, rfl, h1, h2, few, k⟩ := h
    refine ⟨_, pss_one (ps_ret (pe_callB (cr_any rfl) (by rfl) B.any (by decide +kernel) (pa_cons (pe_lc (own := [("_law_literal", 2)]) (g := gName 2) (tt := tYes) (te := tOp (rIn K false) (tVar 2) (tVar 0)) rfl sc.nd (pi_sq (pv 1))
        (blkOk_by (N := ["_law_part", "_law_clause_here", "_law_literal"]) (sc := defScope sLKept) (by decide +kernel)) (fun _ _ _ _ _ => pg_name (i := 2) sc.nd rfl (Or.inl rfl)) (fun _ _ _ _ _ => pts_nil)
        (fun _ _ _ _ _ => pe_cmpR op_in_seq (pv 2) (pv 0) (by rfl))) pa_nil))), ?_⟩
    dsimp only [tSeq, tAsg, tRet, tCB, tCons, tNil, tCall, tNext]
    refine seq_lc (fun x => some (.bl (inV x (zs.map V.str)))) rfl h2 (by rw [List.length_map]; exact few) (fun x H2 Ψ Θ hx s2 yes no => ?_) (fun H2 D s2 nD e2 => ?_)
    · obtain ⟨y, hy, rfl⟩ := List.mem_map.mp hx
      walk_at "go"
      exact ⟨a, _, rfl, h1.same s2, rfl, flat_strs zs, yes _ H2 rfl (same_refl _)⟩
    · refine any_done (xs := ys) (b := fun y => decide (y ∈ zs)) ?_ (k H2 s2)
      rw [e2, fm_some, fm_some, List.map_map]
      congr 2
      refine List.map_congr_left fun y _ => ?_
      show V.bl (inV (.str y) (zs.map V.str)) = _
      rw [inV_strs]
end
end My
end

section
set_option Elab.async false
set_option linter.all false
set_option maxRecDepth 100000
set_option maxHeartbeats 4000000
namespace My
local macro_rules | `(tactic| walk_at "go") => `(tactic| (repeat (first
  | (refine ⟨_, rfl, ?_⟩)
  | (refine ⟨_, _, rfl, rfl, ?_⟩)
  | (refine ⟨_, _, rfl, ?_⟩)
  | (refine ⟨rfl, ?_⟩)
  | (refine Or.inl ⟨_, rfl, ?_⟩)
  | (refine ⟨_, _, _, _, rfl, rfl, L2.SqL.of (by first | assumption | exact L2.upd_same), rfl, ?_⟩)
  | (refine ⟨_, _, _, _, rfl, rfl, (by first | assumption | exact L2.upd_same), rfl, ?_⟩)
  | (refine And.intro (by first | omega | decide | (unfold L2.CPow; decide) | (unfold L2.CMul; omega) | (unfold L2.CDiv; omega)) ?_))))
open PySem PySem.Spec PyProof.Rows L2 TL MyF MyS MyW RZ
section
variable {P : Program} {w : World} {K : PySem.W.Frag} {mg : Str → Option Value} {base : Heap}
/-! ### _law_exact -/
/-- None, a truth value, a whole number, a text: the same on both sides -/
inductive Leaf : V → String → Prop
  | non : Leaf .non "NoneType"
  | bl (b : Bool) : Leaf (.bl b) "bool"
  | int (i : Int) : Leaf (.int i) "int"
  | str (z : Str) : Leaf (.str z) "str"
theorem Leaf.ty {x : V} {t : String} (h : Leaf x t) {H : Hp} : TyX K H x (.type t) := by
  cases h with
  | non => exact .base .non
  | bl b => exact .base (.bl b)
  | int i => exact .base (.int i)
  | str z => exact .base (.str z)
/-- alike, through d layers of lists, tuples, dicts of texts -/
def Ex (K : PySem.W.Frag) (H : Hp) : Nat → V → V → Prop
  | 0, x, y => x = y ∧ ∃ t, Leaf x t
  | d + 1, x, y => (x = y ∧ ∃ t, Leaf x t) ∨
    (∃ (a b : Addr) (xs ys : List V), x = .ref a ∧ y = .ref b ∧ ((SqL K H a xs ∧ SqL K H b ys) ∨ (SqT K H a xs ∧ SqT K H b ys)) ∧ xs.length = ys.length ∧ xs.length < 1000 ∧ ∀ (i : Nat) (u v : V), xs[i]? = some u → ys[i]? = some v → Ex K H d u v) ∨
    (1 ≤ d ∧ ∃ (a b : Addr) (ps : List (Str × Str)), x = .ref a ∧ y = .ref b ∧ a ≠ b ∧ H a = some (.dK (dm ps)) ∧ H b = some (.dK (dm ps)) ∧ (ps.map (·.1)).Nodup ∧ ps.length < 1000)
theorem Ex.same {H H' : Hp} (s : Same H H') : ∀ {d : Nat} {x y : V}, Ex K H d x y → Ex K H' d x y
  | 0, _, _, h => (show _ ∧ _ from h)
  | d + 1, x, y, h => by
    rcases h with h | ⟨a, b, xs, ys, e1, e2, h, hl, few, k⟩ | ⟨hd, a, b, ps, e1, e2, ne, h1, h2, r⟩
    · exact .inl h
    · exact .inr (.inl ⟨a, b, xs, ys, e1, e2, h.imp (fun z => ⟨sqL_same z.1 s, sqL_same z.2 s⟩) (fun z => ⟨sqT_same z.1 s, sqT_same z.2 s⟩), hl, few, fun i u v hu hv => Ex.same s (k i u v hu hv)⟩)
    · exact .inr (.inr ⟨hd, a, b, ps, e1, e2, ne, s _ _ h1, s _ _ h2, r⟩)
abbrev sExact : Stmt := top 42
def spExact (K : PySem.W.Frag) (d : Nat) : Sp := fun vs H Q _ => ∃ x y, vs = [x, y] ∧ Ex K H d x y ∧ ∀ H', Same H H' → Q (.bl true) H'
theorem sc_exact : FnScope ["_law_mine", "_law_theirs", "_law_alike", "_law_a", "_law_b", "_law_key"] ["_law_mine", "_law_theirs"] (defScope sExact) := ⟨rfl, rfl, rfl, by decide +kernel, rfl, by decide +kernel, by decide +kernel⟩
structure Ets (mg : Str → Option Value) : Prop where
  isinstance : mg "isinstance" = none
  int : mg "int" = none
  bool : mg "bool" = none
  list : mg "list" = none
  tuple : mg "tuple" = none
  dict : mg "dict" = none
  len : mg "len" = none
  all : mg "all" = none
  zip : mg "zip" = none
theorem ok_exact0 {f : Addr} {fd : FuncData} (G : Fun K "_law_exact" "_law_exact" sExact f fd) (B : Ets mg) : FnOk P w K mg base CX0 1 f fd ["_law_mine", "_law_theirs"] (spExact K 0) := by
  have sc := sc_exact
  refine G.ok sc (fun vs H Q E h => ?_) (fun cdv A outer s H vs Q E hr h => ?_)
  · obtain ⟨_, _, rfl, _⟩ := h
    rfl
  · obtain ⟨x, y, rfl, ⟨rfl, t, lf⟩, k⟩ := h
    refine ⟨_, pss_cons (ps_if (pt_val (pe_callB call_isiT (by rfl) B.isinstance boot_isinstance (pa_cons (pv 0) (pa_cons (pe_tup (pa_cons (pe_bltn (v := .ty "list") (by rfl) B.list boot_list rfl) (pa_cons (pe_bltn (v := .ty "tuple") (by rfl) B.tuple boot_tuple rfl) pa_nil))) pa_nil)))) pss_never pss_nil)
      (pss_cons (ps_if (pt_val (pe_callB call_isi (by rfl) B.isinstance boot_isinstance (pa_cons (pv 0) (pa_cons (pe_bltn (v := .ty "dict") (by rfl) B.dict boot_dict rfl) pa_nil)))) pss_never pss_nil)
      (pss_cons (ps_set (i := 2) sc.nd rfl (Or.inl rfl) (pe_cmpR op_eq (pe_callB call_isi (by rfl) B.isinstance boot_isinstance (pa_cons (pv 0) (pa_cons (pe_bltn (v := .ty "int") (by rfl) B.int boot_int rfl) pa_nil)))
        (pe_callB call_isi (by rfl) B.isinstance boot_isinstance (pa_cons (pv 1) (pa_cons (pe_bltn (v := .ty "int") (by rfl) B.int boot_int rfl) pa_nil))) (nomark _)))
      (pss_one (ps_ret (pe_and (pv 2) (pe_and (pe_cmpR op_eq (pe_callB call_isi (by rfl) B.isinstance boot_isinstance (pa_cons (pv 0) (pa_cons (pe_bltn (v := .ty "bool") (by rfl) B.bool boot_bool rfl) pa_nil)))
        (pe_callB call_isi (by rfl) B.isinstance boot_isinstance (pa_cons (pv 1) (pa_cons (pe_bltn (v := .ty "bool") (by rfl) B.bool boot_bool rfl) pa_nil))) (nomark _)) (pe_one (pe_cmpR op_eq (pv 0) (pv 1) (nomark _))))))))), ?_⟩
    have kT : PySem.W.kitAny K (.type t) [.type "list", .type "tuple"] = some false := by
      cases lf <;> rfl
    have kD : PySem.W.kitOne K (.type t) (.type "dict") = some false := by
      cases lf <;> exact kit_ty (by decide +kernel)
    obtain ⟨bi, kI⟩ : ∃ bi, PySem.W.kitOne K (.type t) (.type "int") = some bi := by
      cases lf <;> first | exact ⟨true, kit_ty (by decide +kernel)⟩ | exact ⟨false, kit_ty (by decide +kernel)⟩
    obtain ⟨bb, kB⟩ : ∃ bb, PySem.W.kitOne K (.type t) (.type "bool") = some bb := by
      cases lf <;> first | exact ⟨true, kit_ty (by decide +kernel)⟩ | exact ⟨false, kit_ty (by decide +kernel)⟩
    have sc2 : scal x x = true := by
      cases lf <;> rfl
    walk_at "go"
    refine fun p np => ⟨x, p, [.ty "list", .ty "tuple"], _, _, false, rfl, upd_same, .cons (.ty "list") (.cons (.ty "tuple") .nil), lf.ty, kT, ?_⟩
    refine ⟨_, rfl, iteF ?_⟩
    refine ⟨_, rfl, x, .ty "dict", _, _, false, rfl, .ty "dict", lf.ty, kD, ?_⟩
    refine ⟨_, rfl, iteF ?_⟩
    refine ⟨_, rfl, x, .ty "int", _, _, bi, rfl, .ty "int", lf.ty, kI, ?_⟩
    refine ⟨_, rfl, x, .ty "int", _, _, bi, rfl, .ty "int", lf.ty, kI, ?_⟩
    refine ⟨rfl, ?_⟩
    have e1 : decide (V.bl bi = V.bl bi) = true := decide_eq_true rfl
    have e2 : decide (V.bl bb = V.bl bb) = true := decide_eq_true rfl
    have e3 : decide (x = x) = true := decide_eq_true rfl
    rw [e1]
    refine ⟨_, rfl, _, rfl, iteT ?_⟩
    refine ⟨_, rfl, x, .ty "bool", _, _, bb, rfl, .ty "bool", lf.ty, kB, ?_⟩
    refine ⟨_, rfl, x, .ty "bool", _, _, bb, rfl, .ty "bool", lf.ty, kB, ?_⟩
    refine ⟨rfl, ?_⟩
    rw [e2]
    refine ⟨_, rfl, iteT ?_⟩
    refine ⟨_, rfl, _, rfl, sc2, ?_⟩
    rw [e3]
    exact k _ (same_new np)
theorem Ex.leaf {H : Hp} {x : V} {t : String} (h : Leaf x t) : ∀ d, Ex K H d x x
  | 0 => ⟨rfl, t, h⟩
  | d + 1 => .inl ⟨rfl, t, h⟩
theorem valV_dm : ∀ {ps : List (Str × Str)} {p : Str × Str}, (ps.map (·.1)).Nodup → p ∈ ps → valV (dm ps) (Sum.inr p.1) = some (.str p.2)
  | [], _, _, h => by cases h
  | q :: ps, p, n, h => by
    obtain ⟨n1, n2⟩ := List.nodup_cons.mp n
    rcases List.mem_cons.mp h with e | e
    · subst e
      show ((dm (p :: ps)).find? fun kv => decide (kv.1 = Sum.inr p.1)).map (·.2) = _
      show (List.find? (fun kv => decide (kv.1 = Sum.inr p.1)) ((Sum.inr p.1, V.str p.2) :: dm ps)).map (·.2) = _
      rw [List.find?_cons_of_pos (by exact decide_eq_true rfl)]
      rfl
    · have ne : q.1 ≠ p.1 := fun z => n1 (List.mem_map.mpr ⟨p, e, z.symm⟩)
      have ih := valV_dm n2 e
      show (List.find? (fun kv => decide (kv.1 = Sum.inr p.1)) ((Sum.inr q.1, V.str q.2) :: dm ps)).map (·.2) = _
      rw [List.find?_cons_of_neg]
      · exact ih
      · intro z
        have z2 := of_decide_eq_true z
        injection z2 with z3
        exact ne z3
theorem ok_exactS {m d : Nat} {f : Addr} {fd : FuncData} (G : Fun K "_law_exact" "_law_exact" sExact f fd) (B : Ets mg) (mE : mg "_law_exact" = some (.ref f)) (bE : Binds K fd ["_law_mine", "_law_theirs"] [])
    (OE : FnOk P w K mg base CX0 m f fd ["_law_mine", "_law_theirs"] (spExact K d)) : FnOk P w K mg base CX0 (m + 1) f fd ["_law_mine", "_law_theirs"] (spExact K (d + 1)) := by
  have sc := sc_exact
  refine G.ok sc (fun vs H Q E h => ?_) (fun cdv A outer s H vs Q E hr h => ?_)
  · obtain ⟨_, _, rfl, _⟩ := h
    rfl
  · obtain ⟨x, y, rfl, ex, k⟩ := h
    have hu := hu_of hr
    have big : (100000 : Nat) < sizeLine := by decide
    refine ⟨_, pss_cons (ps_if (pt_val (pe_callB call_isiT (by rfl) B.isinstance boot_isinstance (pa_cons (pv 0) (pa_cons (pe_tup (pa_cons (pe_bltn (v := .ty "list") (by rfl) B.list boot_list rfl) (pa_cons (pe_bltn (v := .ty "tuple") (by rfl) B.tuple boot_tuple rfl) pa_nil))) pa_nil))))
        (pss_cons (ps_set (i := 2) sc.nd rfl (Or.inl rfl) (pe_and (pe_cmpR op_eq (pe_callB call_isi (by rfl) B.isinstance boot_isinstance (pa_cons (pv 1) (pa_cons (pe_bltn (v := .ty "list") (by rfl) B.list boot_list rfl) pa_nil))) (pe_callB call_isi (by rfl) B.isinstance boot_isinstance (pa_cons (pv 0) (pa_cons (pe_bltn (v := .ty "list") (by rfl) B.list boot_list rfl) pa_nil))) (nomark _)) (pe_one (pe_cmpR op_eq (pe_callB call_isi (by rfl) B.isinstance boot_isinstance (pa_cons (pv 1) (pa_cons (pe_bltn (v := .ty "tuple") (by rfl) B.tuple boot_tuple rfl) pa_nil))) (pe_callB call_isi (by rfl) B.isinstance boot_isinstance (pa_cons (pv 0) (pa_cons (pe_bltn (v := .ty "tuple") (by rfl) B.tuple boot_tuple rfl) pa_nil))) (nomark _)))))
        (pss_one (ps_ret (pe_and (pv 2) (pe_and (pe_cmpR op_eq (pe_callB call_len_seq (by rfl) B.len boot_len (pa_cons (pv 0) pa_nil)) (pe_callB call_len_seq (by rfl) B.len boot_len (pa_cons (pv 1) pa_nil)) (nomark _)) (pe_one (pe_callB (cr_all rfl) (by rfl) B.all (by decide +kernel) (pa_cons (pe_lc (own := [("_law_a", 3), ("_law_b", 4)]) (g := gTup K 2 (gCons (gName 3) (gCons (gName 4) gNil))) (tt := tYes) rfl sc.nd
          (pi_zipA (by rfl) B.zip (pa_cons (pv 0) (pa_cons (pv 1) pa_nil)))
          (blkOk_by (N := ["_law_mine", "_law_theirs", "_law_alike", "_law_a", "_law_b", "_law_key"]) (sc := defScope sExact) (by decide +kernel)) (fun _ _ _ _ _ => pg_tup rfl (pgs_cons (pg_name (i := 3) sc.nd rfl (Or.inl rfl)) (pgs_cons (pg_name (i := 4) sc.nd rfl (Or.inl rfl)) pgs_nil))) (fun _ _ _ _ _ => pts_nil)
          (fun _ _ _ _ _ => pe_call OE hr rfl mE G.kp bE .nil pass0 (pa_cons (pv 3) (pa_cons (pv 4) pa_nil)))) pa_nil)))))))) pss_nil)
      (pss_cons (ps_if (pt_val (pe_callB call_isi (by rfl) B.isinstance boot_isinstance (pa_cons (pv 0) (pa_cons (pe_bltn (v := .ty "dict") (by rfl) B.dict boot_dict rfl) pa_nil))))
        (pss_cons (ps_set (i := 2) sc.nd rfl (Or.inl rfl) (pe_and (pe_callB call_isi (by rfl) B.isinstance boot_isinstance (pa_cons (pv 1) (pa_cons (pe_bltn (v := .ty "dict") (by rfl) B.dict boot_dict rfl) pa_nil))) (pe_one (pe_call OE hr rfl mE G.kp bE .nil pass0 (pa_cons (pe_callTy (call_listD rfl) (by rfl) B.list boot_list (pa_cons (pv 0) pa_nil)) (pa_cons (pe_callTy (call_listD rfl) (by rfl) B.list boot_list (pa_cons (pv 1) pa_nil)) pa_nil))))))
        (pss_one (ps_ret (pe_and (pv 2) (pe_one (pe_callB (cr_all rfl) (by rfl) B.all (by decide +kernel) (pa_cons (pe_lock (pe_lc (own := [("_law_key", 5)]) (g := gName 5) (tt := tYes) rfl sc.nd (pi_keys (pv 0))
          (blkOk_by (N := ["_law_mine", "_law_theirs", "_law_alike", "_law_a", "_law_b", "_law_key"]) (sc := defScope sExact) (by decide +kernel)) (fun _ _ _ _ _ => pg_name (i := 5) sc.nd rfl (Or.inl rfl)) (fun _ _ _ _ _ => pts_nil)
          (fun _ _ _ _ _ => pe_call OE hr rfl mE G.kp bE .nil pass0 (pa_cons (pe_dget hu (pv 0) (pv 5) (fun _ _ => rfl)) (pa_cons (pe_dget hu (pv 1) (pv 5) (fun _ _ => rfl)) pa_nil))))) pa_nil))))))) pss_nil)
      (pss_cons (ps_set (i := 2) sc.nd rfl (Or.inl rfl) (pe_cmpR op_eq (pe_callB call_isi (by rfl) B.isinstance boot_isinstance (pa_cons (pv 0) (pa_cons (pe_bltn (v := .ty "int") (by rfl) B.int boot_int rfl) pa_nil))) (pe_callB call_isi (by rfl) B.isinstance boot_isinstance (pa_cons (pv 1) (pa_cons (pe_bltn (v := .ty "int") (by rfl) B.int boot_int rfl) pa_nil))) (nomark _)))
      (pss_one (ps_ret (pe_and (pv 2) (pe_and (pe_cmpR op_eq (pe_callB call_isi (by rfl) B.isinstance boot_isinstance (pa_cons (pv 0) (pa_cons (pe_bltn (v := .ty "bool") (by rfl) B.bool boot_bool rfl) pa_nil))) (pe_callB call_isi (by rfl) B.isinstance boot_isinstance (pa_cons (pv 1) (pa_cons (pe_bltn (v := .ty "bool") (by rfl) B.bool boot_bool rfl) pa_nil))) (nomark _)) (pe_one (pe_cmpR op_eq (pv 0) (pv 1) (nomark _))))))))), ?_⟩
    rcases ex with ⟨rfl, t, lf⟩ | ⟨a, b, xs, ys, rfl, rfl, hS, hl, few, al⟩ | ⟨hd, a, b, ps, rfl, rfl, ne, ha, hb, nd, few⟩
    · have kT : PySem.W.kitAny K (.type t) [.type "list", .type "tuple"] = some false := by
        cases lf <;> rfl
      have kD : PySem.W.kitOne K (.type t) (.type "dict") = some false := by
        cases lf <;> exact kit_ty (by decide +kernel)
      obtain ⟨bi, kI⟩ : ∃ bi, PySem.W.kitOne K (.type t) (.type "int") = some bi := by
        cases lf <;> first | exact ⟨true, kit_ty (by decide +kernel)⟩ | exact ⟨false, kit_ty (by decide +kernel)⟩
      obtain ⟨bb, kB⟩ : ∃ bb, PySem.W.kitOne K (.type t) (.type "bool") = some bb := by
        cases lf <;> first | exact ⟨true, kit_ty (by decide +kernel)⟩ | exact ⟨false, kit_ty (by decide +kernel)⟩
      have sc2 : scal x x = true := by
        cases lf <;> rfl
      walk_at "go"
      refine fun p np => ⟨x, p, [.ty "list", .ty "tuple"], _, _, false, rfl, upd_same, .cons (.ty "list") (.cons (.ty "tuple") .nil), lf.ty, kT, ?_⟩
      refine ⟨_, rfl, iteF ?_⟩
      refine ⟨_, rfl, x, .ty "dict", _, _, false, rfl, .ty "dict", lf.ty, kD, ?_⟩
      refine ⟨_, rfl, iteF ?_⟩
      refine ⟨_, rfl, x, .ty "int", _, _, bi, rfl, .ty "int", lf.ty, kI, ?_⟩
      refine ⟨_, rfl, x, .ty "int", _, _, bi, rfl, .ty "int", lf.ty, kI, ?_⟩
      refine ⟨rfl, ?_⟩
      have e1 : decide (V.bl bi = V.bl bi) = true := decide_eq_true rfl
      have e2 : decide (V.bl bb = V.bl bb) = true := decide_eq_true rfl
      have e3 : decide (x = x) = true := decide_eq_true rfl
      rw [e1]
      refine ⟨_, rfl, _, rfl, iteT ?_⟩
      refine ⟨_, rfl, x, .ty "bool", _, _, bb, rfl, .ty "bool", lf.ty, kB, ?_⟩
      refine ⟨_, rfl, x, .ty "bool", _, _, bb, rfl, .ty "bool", lf.ty, kB, ?_⟩
      refine ⟨rfl, ?_⟩
      rw [e2]
      refine ⟨_, rfl, iteT ?_⟩
      refine ⟨_, rfl, _, rfl, sc2, ?_⟩
      rw [e3]
      exact k _ (same_new np)
    · obtain ⟨T, bL, bT, tyA, tyB, kA, kL, kT⟩ : ∃ (T : String) (bL bT : Bool), (∀ H', Same H H' → TyX K H' (.ref a) (.type T)) ∧ (∀ H', Same H H' → TyX K H' (.ref b) (.type T)) ∧
          PySem.W.kitAny K (.type T) [.type "list", .type "tuple"] = some true ∧ PySem.W.kitOne K (.type T) (.type "list") = some bL ∧ PySem.W.kitOne K (.type T) (.type "tuple") = some bT := by
        rcases hS with ⟨h1, h2⟩ | ⟨h1, h2⟩
        · exact ⟨"list", true, false, fun H' s => lst_ty (sqL_same h1 s), fun H' s => lst_ty (sqL_same h2 s), rfl, kit_ty (by decide +kernel), kit_ty (by decide +kernel)⟩
        · exact ⟨"tuple", false, true, fun H' s => tup_ty (sqT_same h1 s), fun H' s => tup_ty (sqT_same h2 s), rfl, kit_ty (by decide +kernel), kit_ty (by decide +kernel)⟩
      walk_at "go"
      refine fun p np => ?_
      have s1 := same_new (o := .tup [.ty "list", .ty "tuple"]) np
      refine ⟨.ref a, p, [.ty "list", .ty "tuple"], _, _, true, rfl, upd_same, .cons (.ty "list") (.cons (.ty "tuple") .nil), tyA _ s1, kA, ?_⟩
      refine ⟨_, rfl, iteT ?_⟩
      refine ⟨_, rfl, .ref b, .ty "list", _, _, bL, rfl, .ty "list", tyB _ s1, kL, ?_⟩
      refine ⟨_, rfl, .ref a, .ty "list", _, _, bL, rfl, .ty "list", tyA _ s1, kL, ?_⟩
      refine ⟨rfl, ?_⟩
      rw [decide_eq_true (rfl : V.bl bL = V.bl bL)]
      refine ⟨_, rfl, iteT ?_⟩
      refine ⟨_, rfl, .ref b, .ty "tuple", _, _, bT, rfl, .ty "tuple", tyB _ s1, kT, ?_⟩
      refine ⟨_, rfl, .ref a, .ty "tuple", _, _, bT, rfl, .ty "tuple", tyA _ s1, kT, ?_⟩
      refine ⟨rfl, ?_⟩
      rw [decide_eq_true (rfl : V.bl bT = V.bl bT)]
      refine ⟨_, rfl, _, rfl, iteT ?_⟩
      have S1 : ∀ H', Same H H' → (SqL K H' a xs ∨ SqT K H' a xs) := fun H' s => hS.imp (fun z => sqL_same z.1 s) (fun z => sqT_same z.1 s)
      have S2 : ∀ H', Same H H' → (SqL K H' b ys ∨ SqT K H' b ys) := fun H' s => hS.imp (fun z => sqL_same z.2 s) (fun z => sqT_same z.2 s)
      refine ⟨_, rfl, a, xs, rfl, S1 _ s1, ?_⟩
      refine ⟨_, rfl, b, ys, rfl, S2 _ s1, ?_⟩
      refine ⟨rfl, ?_⟩
      rw [decide_eq_true (show V.int ((xs.length : Nat) : Int) = V.int ((ys.length : Nat) : Int) by rw [hl])]
      refine ⟨_, rfl, iteT ?_⟩
      have mn : xs.length = min xs.length ys.length := by omega
      have fin : ∀ (J : It) (G : Hp → Prop), Walk J xs.length G (YPair (fun i => xs[i]?) fun i => ys[i]?) → (∀ H2, Same (upd H p (.tup [.ty "list", .ty "tuple"])) H2 → G H2) → ∀ D, upd H p (.tup [.ty "list", .ty "tuple"]) D = none → _ := fun J G w hG D nD =>
        fm_it (g := gTup K 2 (gCons (gName 3) (gCons (gName 4) gNil))) (tt := tYes) (te := tCall (spExact K d) [] E0 (tCons (tVar 3) (tCons (tVar 4) tNil))) (vs := [3, 4]) (σ := [some (.ref a), some (.ref b), some (.bl true), none, none, none])
          (Qd := fun H2 => rAll K [.ref D] H2 Q) w (fun i => some (.bl true)) nD (by omega) hG
          (fun i x H3 H4 Ψ Θ hi s3 y yes no => by
            obtain ⟨T, u, v, rfl, nT, rfl, hu2, hv2⟩ := y
            refine ⟨T, [u, v], rfl, SqT.of upd_same, rfl, u, [v], rfl, v, [], rfl, rfl, ?_⟩
            have s4 := same_new (o := .tup [u, v]) nT
            exact ⟨rfl, _, rfl, _, rfl, u, v, rfl, (al i u v hu2 hv2).same (same_trans s1 (same_trans s3 s4)), fun H5 s5 => yes _ H5 rfl (same_trans s4 s5)⟩)
          (fun H2 s2 h2 => all_done (xs := List.range xs.length) (b := fun _ => true) h2 (by
            have e : (List.range xs.length).all (fun _ => true) = true := List.all_eq_true.mpr fun _ _ => rfl
            rw [e]
            exact k H2 (same_trans s1 s2)))
      rcases hS with ⟨h1, h2⟩ | ⟨h1, h2⟩
      · exact ⟨_, rfl, _, rfl, a, b, xs, ys, rfl, .inl ⟨sqL_same h1 s1, sqL_same h2 s1, fun D nD => fin _ _ (walk_zip mn) (fun H2 s2 => ⟨sqL_same h1 (same_trans s1 s2), sqL_same h2 (same_trans s1 s2)⟩) D nD⟩⟩
      · exact ⟨_, rfl, _, rfl, a, b, xs, ys, rfl, .inr ⟨sqT_same h1 s1, sqT_same h2 s1, fun D nD => fin _ _ (walk_zipT mn) (fun H2 s2 => ⟨sqT_same h1 (same_trans s1 s2), sqT_same h2 (same_trans s1 s2)⟩) D nD⟩⟩
    · have kA : PySem.W.kitAny K (.type "dict") [.type "list", .type "tuple"] = some false := rfl
      have kD : PySem.W.kitOne K (.type "dict") (.type "dict") = some true := kit_ty (by decide +kernel)
      have tyA : ∀ H', Same H H' → TyX K H' (.ref a) (.type "dict") := fun H' s => .base (.dK (s _ _ ha))
      have tyB : ∀ H', Same H H' → TyX K H' (.ref b) (.type "dict") := fun H' s => .base (.dK (s _ _ hb))
      walk_at "go"
      refine fun p np => ?_
      have s1 := same_new (o := .tup [.ty "list", .ty "tuple"]) np
      refine ⟨.ref a, p, [.ty "list", .ty "tuple"], _, _, false, rfl, upd_same, .cons (.ty "list") (.cons (.ty "tuple") .nil), tyA _ s1, kA, ?_⟩
      refine ⟨_, rfl, iteF ?_⟩
      refine ⟨_, rfl, .ref a, .ty "dict", _, _, true, rfl, .ty "dict", tyA _ s1, kD, ?_⟩
      refine ⟨_, rfl, iteT ?_⟩
      refine ⟨_, rfl, .ref b, .ty "dict", _, _, true, rfl, .ty "dict", tyB _ s1, kD, ?_⟩
      refine ⟨_, rfl, iteT ?_⟩
      have ek : ((dm ps).map fun kv => L2.kV kv.1) = (ps.map (·.1)).map V.str := by
        unfold dm
        rw [List.map_map, List.map_map]
        rfl
      refine ⟨_, rfl, a, _, rfl, .inl (s1 _ _ ha), fun l1 n1 => ?_⟩
      rw [ek]
      have s2 := same_trans s1 (same_new (o := .lst ((ps.map (·.1)).map V.str)) n1)
      refine ⟨_, rfl, b, _, rfl, .inl (s2 _ _ hb), fun l2 n2 => ?_⟩
      rw [ek]
      have s3 := same_trans s2 (same_new (o := .lst ((ps.map (·.1)).map V.str)) n2)
      have g1 := (same_new (o := .lst ((ps.map (·.1)).map V.str)) n2) l1 _ upd_same
      obtain ⟨d', rfl⟩ : ∃ d', d = d' + 1 := ⟨d - 1, by omega⟩
      refine ⟨.ref l1, .ref l2, rfl, .inr (.inl ⟨l1, l2, _, _, rfl, rfl, .inl ⟨SqL.of g1, SqL.of upd_same⟩, rfl, by rw [List.length_map, List.length_map]; exact few, fun i u v hu2 hv2 => ?_⟩), fun H4 s4 => ?_⟩
      · rw [hu2] at hv2
        cases hv2
        obtain ⟨z, _, rfl⟩ := List.mem_map.mp (List.mem_of_getElem? hu2)
        exact Ex.leaf (.str z) d'
      · have s14 := same_trans s3 s4
        refine ⟨_, rfl, _, rfl, iteT ?_⟩
        refine ⟨a, _, s14 _ _ ha, trivial, fun od => ?_⟩
        refine ⟨_, rfl, a, od, rfl, .inl ⟨_, upd_same, fun D nD => ?_⟩⟩
        have hbz : upd H4 a (.frz od (.dK (dm ps))) b = some (.dK (dm ps)) := (upd_ne (Ne.symm ne)).trans (s14 _ _ hb)
        refine fm_it (walk_keys (kvs := dm ps)) (fun i => some (.bl true)) nD (by unfold dm; rw [List.length_map]; omega) (fun H5 s5 => s5 _ _ upd_same) (fun i x H5 H6 Ψ Θ hi s5 y yes no => ?_) (fun H5 s5 h5 => ?_)
        · obtain ⟨rfl, key, v, hkv, rfl⟩ := y
          obtain ⟨q, hq, e⟩ := List.mem_map.mp (List.mem_of_getElem? hkv)
          injection e with e1 e2
          subst e1
          subst e2
          have gA : DGet H6 a (.str q.1) (some (.str q.2)) := .inl ⟨dm ps, Sum.inr q.1, .inr ⟨od, s5 _ _ upd_same⟩, rfl, (valV_dm nd hq).symm⟩
          have gB : DGet H6 b (.str q.1) (some (.str q.2)) := .inl ⟨dm ps, Sum.inr q.1, .inl (s5 _ _ hbz), rfl, (valV_dm nd hq).symm⟩
          refine ⟨rfl, _, rfl, _, rfl, a, _, rfl, gA, _, rfl, _, rfl, b, _, rfl, gB, ?_⟩
          exact ⟨_, _, rfl, Ex.leaf (.str q.2) (d' + 1), fun H7 s7 => yes _ H7 rfl s7⟩
        · refine ⟨s5 _ _ upd_same, ?_⟩
          have nDa : D ≠ a := fun z => by
            rw [z, upd_same] at nD
            cases nD
          have back : Same H4 (upd H5 a (.dK (dm ps))) := fun c o e => by
            by_cases h : c = a
            · rw [h, upd_same, ← e, h]
              exact (s14 _ _ ha).symm
            · rw [upd_ne h]
              exact s5 c o ((upd_ne h).trans e)
          dsimp only [tNil]
          refine all_done (xs := List.range (dm ps).length) (b := fun _ => true) ((upd_ne nDa).trans h5) ?_
          have e : (List.range (dm ps).length).all (fun _ => true) = true := List.all_eq_true.mpr fun _ _ => rfl
          rw [e]
          exact k _ (same_trans s14 back)
end
end My
end

section
set_option Elab.async false
set_option linter.all false
set_option maxRecDepth 100000
set_option maxHeartbeats 4000000
namespace My
local macro_rules | `(tactic| walk_at "go") => `(tactic| (repeat (first
  | (refine ⟨_, rfl, ?_⟩)
  | (refine ⟨_, _, rfl, rfl, ?_⟩)
  | (refine ⟨_, _, rfl, ?_⟩)
  | (refine ⟨rfl, ?_⟩)
  | (refine Or.inl ⟨_, rfl, ?_⟩)
  | (refine ⟨_, _, _, _, rfl, rfl, L2.SqL.of (by first | assumption | exact L2.upd_same), rfl, ?_⟩)
  | (refine ⟨_, _, _, _, rfl, rfl, (by first | assumption | exact L2.upd_same), rfl, ?_⟩)
  | (refine And.intro (by first | omega | decide | (unfold L2.CPow; decide) | (unfold L2.CMul; omega) | (unfold L2.CDiv; omega)) ?_))))
open PySem PySem.Spec PyProof.Rows L2 TL MyF MyS MyW RZ
/-- all but p stays -/
def But (p : Addr) (H H' : Hp) : Prop := ∀ b o, H b = some o → b ≠ p → H' b = some o
theorem But.of {p : Addr} {H H' : Hp} (s : Same H H') : But p H H' := fun b o e _ => s b o e
theorem But.refl (p : Addr) (H : Hp) : But p H H := fun _ _ e _ => e
theorem But.trans {p : Addr} {H H1 H2 : Hp} (a : But p H H1) (b : But p H1 H2) : But p H H2 := fun c o e n => b c o (a c o e n) n
theorem But.set {p : Addr} {H : Hp} {o : HO} : But p H (upd H p o) := fun b u e n => by
  rw [upd_ne n]
  exact e
theorem But.sqL {K : PySem.W.Frag} {p a : Addr} {H H' : Hp} {xs : List V} (h : But p H H') (s : SqL K H a xs) (n : a ≠ p) : SqL K H' a xs := by
  rcases s with (s | ⟨o, s⟩) | s
  · exact .inl (.inl (h _ _ s n))
  · exact .inl (.inr ⟨o, h _ _ s n⟩)
  · exact .inr s
theorem But.sqT {K : PySem.W.Frag} {p a : Addr} {H H' : Hp} {xs : List V} (h : But p H H') (s : SqT K H a xs) (n : a ≠ p) : SqT K H' a xs := by
  rcases s with (s | ⟨o, s⟩) | s
  · exact .inl (.inl (h _ _ s n))
  · exact .inl (.inr ⟨o, h _ _ s n⟩)
  · exact .inr s
section
variable {P : Program} {w : World} {K : PySem.W.Frag} {mg : Str → Option Value} {base : Heap}
/-! ### _law_shuffled -/
abbrev sShuf : Stmt := top 41
def spShuf (K : PySem.W.Frag) : Sp := fun vs H Q _ => ∃ (p q : Addr) (n : Int) (l xs : List V), vs = [.ref p, .ref q] ∧ H p = some (.lst l) ∧ PurseL n l ∧ n ≤ 900000 ∧ SqL K H q xs ∧ q ≠ p ∧ xs.length ≤ 500 ∧
  ∀ (H' : Hp) (r : Addr) (l' ys : List V), But p H H' → H' p = some (.lst l') → PurseL (n + xs.length) l' → H r = none → H' r = some (.lst ys) → ys.Perm xs → Q (.ref r) H'
theorem sc_shuf : FnScope ["_law_purse_here", "_law_some", "_law_found", "_law_item"] ["_law_purse_here", "_law_some"] (defScope sShuf) := ⟨rfl, rfl, rfl, by decide +kernel, rfl, by decide +kernel, by decide +kernel⟩
theorem insert_perm {α : Type} (ys : List α) (x : α) (k : Nat) : (ys.take k ++ [x] ++ ys.drop k).Perm (ys ++ [x]) := by
  have h1 : (ys.take k ++ [x] ++ ys.drop k).Perm (ys.take k ++ (ys.drop k ++ [x])) := by
    rw [List.append_assoc]
    exact List.Perm.append_left _ List.perm_append_comm
  rw [← List.append_assoc, List.take_append_drop] at h1
  exact h1
theorem ok_shuf {f fD : Addr} {fd fdD : FuncData} (G : Fun K "_law_shuffled" "_law_shuffled" sShuf f fd) (hlen : mg "len" = none) (mD : mg "_law_draw" = some (.ref fD)) (kD : PySem.W.keepIn K (.ref fD) = true)
    (OD : FnOk P w K mg base CX0 2 fD fdD ["_law_purse_here", "_law_many"] spDraw) (bD : Binds K fdD ["_law_purse_here", "_law_many"] []) : FnOk P w K mg base CX0 3 f fd ["_law_purse_here", "_law_some"] (spShuf K) := by
  have sc := sc_shuf
  refine G.ok sc (fun vs H Q E h => ?_) (fun cdv A outer s H vs Q E hr h => ?_)
  · obtain ⟨_, _, _, _, _, rfl, _⟩ := h
    rfl
  · obtain ⟨p, q, n, l, xs, rfl, hp, hl, hn, hS, nqp, few, k⟩ := h
    have big : (100000 : Nat) < sizeLine := by decide
    refine ⟨_, pss_cons (ps_set (i := 2) sc.nd rfl (Or.inl rfl) (pe_lst pa_nil)) (pss_cons (ps_for PassesOwn.never rfl (pi_list (pv 1)) (pg_name (i := 3) sc.nd rfl (Or.inl rfl))
      (pss_one (ps_expr (pe_bm PySem.F.plainAttrs_list PySem.F.slot_list_insert PySem.F.type_list_insert mt_insert (pv 2) (pa_cons (pe_call OD hr rfl mD kD bD .nil pass0 (pa_cons (pv 0) (pa_cons (pe_op op_add (pe_callB call_len_seq (by rfl) hlen boot_len (pa_cons (pv 2) pa_nil)) pe_int) pa_nil))) (pa_cons (pv 3) pa_nil))))))
      (pss_one (ps_ret (pv 2)))), ?_⟩
    refine ⟨Nat.zero_le _, fun D nD => ?_⟩
    have nDp : D ≠ p := fun z => by
      rw [z, hp] at nD
      cases nD
    refine ⟨_, rfl, q, rfl, ⟨xs, sqL_same hS (same_new nD)⟩, ?_⟩
    refine for_list (xs := xs) (fun i σ H2 => i ≤ xs.length ∧ ∃ (l' ys : List V) (v : Option V), σ = [some (.ref p), some (.ref q), some (.ref D), v] ∧ But p H H2 ∧ H2 p = some (.lst l') ∧ PurseL (n + (i : Int)) l' ∧ H2 D = some (.lst ys) ∧ ys.Perm (xs.take i)) ?_ ?_ ?_ ?_
    · exact ⟨Nat.zero_le _, l, [], none, rfl, .of (same_new nD), (upd_ne (Ne.symm nDp)).trans hp, by simpa using hl, upd_same, by simp⟩
    · rintro i σ H2 hi ⟨_, l', ys, v, rfl, bu, _⟩
      exact bu.sqL hS nqp
    · rintro i x σ H2 hx ⟨hi, l', ys, v, rfl, bu, hp2, hl2, hD, pm⟩
      have hi2 : i < xs.length := (List.getElem?_eq_some_iff.mp hx).1
      have ly : ys.length = i := by
        rw [pm.length_eq, List.length_take]
        omega
      refine ⟨_, rfl, .inl ⟨rfl, _, SqL.of hD⟩, ?_⟩
      refine ⟨_, rfl, _, rfl, D, _, rfl, .inl (SqL.of hD), ?_⟩
      refine ⟨_, _, rfl, rfl, ?_⟩
      refine ⟨p, _, _, l', rfl, hp2, hl2, by omega, by omega, by omega, fun l2 r hl3 r0 r1 => ?_⟩
      have hD2 := (upd_ne (o := .lst l2) nDp).trans hD
      refine ⟨_, rfl, D, ys, r, x, rfl, rfl, hD2, by omega, r0, by omega, ?_⟩
      refine ⟨hi2, l2, _, _, rfl, ?_, (upd_ne (Ne.symm nDp)).trans upd_same, ?_, upd_same, ?_⟩
      · intro b o e ne
        have ne2 : b ≠ D := ne_of_none e nD
        rw [upd_ne ne2, upd_ne ne]
        exact bu b o e ne
      · have e : n + ((i + 1 : Nat) : Int) = n + (i : Int) + 1 := by omega
        rw [e]
        exact hl3
      · refine (insert_perm ys x r.toNat).trans ?_
        rw [List.take_add_one, hx]
        exact pm.append_right [x]
    · rintro σ H2 ⟨_, l', ys, v, rfl, bu, hp2, hl2, hD, pm⟩
      rw [List.take_length] at pm
      exact ⟨_, rfl, k H2 D l' ys bu hp2 hl2 nD hD pm⟩
end
end My
end

section
set_option Elab.async false
set_option linter.all false
set_option maxRecDepth 100000
set_option maxHeartbeats 4000000
namespace My
local macro_rules | `(tactic| walk_at "go") => `(tactic| (repeat (first
  | (refine ⟨_, rfl, ?_⟩)
  | (refine ⟨_, _, rfl, rfl, ?_⟩)
  | (refine ⟨_, _, rfl, ?_⟩)
  | (refine ⟨rfl, ?_⟩)
  | (refine Or.inl ⟨_, rfl, ?_⟩)
  | (refine ⟨_, _, _, _, rfl, rfl, L2.SqL.of (by first | assumption | exact L2.upd_same), rfl, ?_⟩)
  | (refine ⟨_, _, _, _, rfl, rfl, (by first | assumption | exact L2.upd_same), rfl, ?_⟩)
  | (refine And.intro (by first | omega | decide | (unfold L2.CPow; decide) | (unfold L2.CMul; omega) | (unfold L2.CDiv; omega)) ?_))))
open PySem PySem.Spec PyProof.Rows L2 TL MyF MyS MyW RZ
/-! ### literals of names -/
theorem abc_range : ∀ c ∈ abc, 97 ≤ c ∧ c ≤ 122 := by decide +kernel
theorem low_parts {s : Str} (h : lowZ s = true) : 1 ≤ s.length ∧ s.length ≤ 8 ∧ ∀ c ∈ s.cps.toList, 97 ≤ c ∧ c ≤ 122 := by
  unfold lowZ at h
  rw [Bool.and_eq_true, Bool.and_eq_true] at h
  refine ⟨of_decide_eq_true h.1.1, of_decide_eq_true h.1.2, fun c hc => ?_⟩
  exact abc_range c (of_decide_eq_true (List.all_eq_true.mp h.2 c hc))
theorem low_neg {s : Str} (h : lowZ s = true) : ¬ negS s = true := by
  obtain ⟨h1, _, h2⟩ := low_parts h
  obtain ⟨c, hc, e⟩ := first_cps h1
  rw [e]
  intro z
  have z2 := of_decide_eq_true z
  have := (h2 c (List.mem_of_getElem? hc)).1
  omega
theorem bare_low {s : Str} (h : lowZ s = true) : bareS s = s := bare_of_pos (low_neg h)
theorem neg_dash (s : Str) : negS (dash ++ s) = true := by
  rw [neg_eq, cps_cat, dash_cps]
  rfl
theorem bare_dash (s : Str) : bareS (dash ++ s) = s := by
  refine str_ext ?_
  rw [bare_eq, if_pos (neg_dash s), cps_cat, dash_cps]
  rfl
theorem len_dash (s : Str) : (dash ++ s).length = s.length + 1 := by
  have e : (dash ++ s).length = (dash ++ s).cps.toList.length := Array.length_toList.symm
  rw [e, cps_cat, dash_cps, List.length_append, List.length_singleton, Array.length_toList]
  exact Nat.add_comm ..
/-- c is the name s or its contrary -/
def Sg (c s : Str) : Prop := c = s ∨ c = dash ++ s
theorem Sg.bare {c s : Str} (h : Sg c s) (l : lowZ s = true) : bareS c = s := by
  rcases h with rfl | rfl
  · exact bare_low l
  · exact bare_dash s
theorem Sg.lit {c s : Str} (h : Sg c s) (l : lowZ s = true) : litS c = true := by
  unfold litS
  rw [h.bare l]
  exact l
theorem Sg.opp {c s : Str} (h : Sg c s) (l : lowZ s = true) : Sg (oppS c) s ∧ oppS c ≠ c := by
  rcases h with rfl | rfl
  · have e : oppS c = dash ++ c := if_neg (low_neg l)
    rw [e]
    refine ⟨.inr rfl, fun z => ?_⟩
    have := congrArg Str.length z
    rw [len_dash] at this
    omega
  · have e : oppS (dash ++ s) = s := (if_pos (neg_dash s)).trans (bare_dash s)
    rw [e]
    refine ⟨.inl rfl, fun z => ?_⟩
    have := congrArg Str.length z
    rw [len_dash] at this
    omega
/-- a clause over the names ns -/
structure Good (ns rs : List Str) : Prop where
  lit : ∀ y ∈ rs, ∃ s ∈ ns, Sg y s
  one : (rs.map bareS).Nodup
  up : sortedS rs = true
theorem nodup_of_map {α β : Type} (f : α → β) {l : List α} (h : (l.map f).Nodup) : l.Nodup := List.Pairwise.of_map f (fun _ _ hne e => hne (congrArg f e)) h
theorem inj_of_nodup {α β : Type} {f : α → β} : ∀ {l : List α}, (l.map f).Nodup → ∀ {x y : α}, x ∈ l → y ∈ l → f x = f y → x = y
  | [], _, _, _, h, _, _ => by cases h
  | a :: l, n, x, y, hx, hy, e => by
    obtain ⟨n1, n2⟩ := List.nodup_cons.mp n
    rcases List.mem_cons.mp hx with hx | hx
    · rcases List.mem_cons.mp hy with hy | hy
      · rw [hx, hy]
      · exact absurd (List.mem_map.mpr ⟨y, hy, by rw [← e, hx]⟩) n1
    · rcases List.mem_cons.mp hy with hy | hy
      · exact absurd (List.mem_map.mpr ⟨x, hx, by rw [e, hy]⟩) n1
      · exact inj_of_nodup n2 hx hy e
theorem lt_of_sorted {a b : Str} (h : ltCps b.cps.toList a.cps.toList = false) (ne : a ≠ b) : ltS a b = true := by
  rw [ltCps_eq] at h
  unfold ltS
  by_cases c : a.cps.toList < b.cps.toList
  · exact decide_eq_true c
  · exact absurd (str_ext (PyProof.Rows.strKind.total _ _ (decide_eq_false c) h)) ne
theorem asc_of_sorted : ∀ {rs : List Str}, sortedS rs = true → rs.Nodup → ascS rs = true
  | [], _, _ => rfl
  | [x], _, _ => rfl
  | x :: y :: r, h, n => by
    have h1 : (!ltCps y.cps.toList x.cps.toList && risingS y r) = true := h
    rw [Bool.and_eq_true, Bool.not_eq_true'] at h1
    obtain ⟨n1, n2⟩ := List.nodup_cons.mp n
    have ne : x ≠ y := fun z => n1 (z ▸ List.mem_cons_self ..)
    show (ltS x y && ascS (y :: r)) = true
    rw [lt_of_sorted h1.1 ne, asc_of_sorted (rs := y :: r) h1.2 n2]
    rfl
theorem Good.cl {ns rs : List Str} (h : Good ns rs) (lo : ns.all lowZ = true) : clS rs = true := by
  have low : ∀ s ∈ ns, lowZ s = true := fun s hs => List.all_eq_true.mp lo s hs
  have e1 : rs.all litS = true := List.all_eq_true.mpr fun y hy => by
    obtain ⟨s, hs, sg⟩ := h.lit y hy
    exact sg.lit (low s hs)
  have e2 : ascS rs = true := asc_of_sorted h.up (nodup_of_map bareS h.one)
  have e3 : hasS rs = false := List.any_eq_false.mpr fun y hy z => by
    obtain ⟨s, hs, sg⟩ := h.lit y hy
    have hm := of_decide_eq_true z
    obtain ⟨so, ne⟩ := sg.opp (low s hs)
    refine ne ?_
    have eb : bareS (oppS y) = bareS y := by rw [so.bare (low s hs), sg.bare (low s hs)]
    exact inj_of_nodup h.one hm hy eb
  unfold clS
  rw [e1, e2, e3]
  rfl
end My
end

section
set_option Elab.async false
set_option linter.all false
set_option maxRecDepth 100000
set_option maxHeartbeats 4000000
namespace My
local macro_rules | `(tactic| walk_at "go") => `(tactic| (repeat (first
  | (refine ⟨_, rfl, ?_⟩)
  | (refine ⟨_, _, rfl, rfl, ?_⟩)
  | (refine ⟨_, _, rfl, ?_⟩)
  | (refine ⟨rfl, ?_⟩)
  | (refine Or.inl ⟨_, rfl, ?_⟩)
  | (refine ⟨_, _, _, _, rfl, rfl, L2.SqL.of (by first | assumption | exact L2.upd_same), rfl, ?_⟩)
  | (refine ⟨_, _, _, _, rfl, rfl, (by first | assumption | exact L2.upd_same), rfl, ?_⟩)
  | (refine And.intro (by first | omega | decide | (unfold L2.CPow; decide) | (unfold L2.CMul; omega) | (unfold L2.CDiv; omega)) ?_))))
open PySem PySem.Spec PyProof.Rows L2 TL MyF MyS MyW RZ
/-! ### one order alone -/
theorem ltS_trans {a b c : Str} (h : ltS a b = true) (k : ltS b c = true) : ltS a c = true := PyProof.Rows.strKind.trans _ _ _ h k
theorem ltS_irrefl (a : Str) : ltS a a = false := PyProof.Rows.strKind.irrefl _
theorem asc_pw : ∀ {rs : List Str}, ascS rs = true → rs.Pairwise fun a b => ltS a b = true
  | [], _ => .nil
  | [x], _ => List.pairwise_singleton ..
  | x :: y :: r, h => by
    have h1 : (ltS x y && ascS (y :: r)) = true := h
    rw [Bool.and_eq_true] at h1
    have ih := asc_pw (rs := y :: r) h1.2
    refine List.pairwise_cons.mpr ⟨fun z hz => ?_, ih⟩
    rcases List.mem_cons.mp hz with e | e
    · rw [e]
      exact h1.1
    · exact ltS_trans h1.1 (List.rel_of_pairwise_cons ih e)
theorem pw_uniq : ∀ {rs ss : List Str}, rs.Pairwise (fun a b => ltS a b = true) → ss.Pairwise (fun a b => ltS a b = true) → (∀ y, y ∈ rs ↔ y ∈ ss) → rs = ss
  | [], [], _, _, _ => rfl
  | [], s :: ss, _, _, m => absurd ((m s).mpr (List.mem_cons_self ..)) (by simp)
  | r :: rs, [], _, _, m => absurd ((m r).mp (List.mem_cons_self ..)) (by simp)
  | r :: rs, s :: ss, p, q, m => by
    obtain ⟨p1, p2⟩ := List.pairwise_cons.mp p
    obtain ⟨q1, q2⟩ := List.pairwise_cons.mp q
    have e : r = s := by
      rcases List.mem_cons.mp ((m r).mp (List.mem_cons_self ..)) with h | h
      · exact h
      · rcases List.mem_cons.mp ((m s).mpr (List.mem_cons_self ..)) with k | k
        · exact k.symm
        · have := ltS_trans (q1 r h) (p1 s k)
          rw [ltS_irrefl] at this
          cases this
    subst e
    have nr : r ∉ rs := fun h => by
      have := p1 r h
      rw [ltS_irrefl] at this
      cases this
    have ns : r ∉ ss := fun h => by
      have := q1 r h
      rw [ltS_irrefl] at this
      cases this
    rw [pw_uniq p2 q2 fun y => ⟨fun h => by
      rcases List.mem_cons.mp ((m y).mp (List.mem_cons_of_mem _ h)) with e | e
      · exact absurd (e ▸ h) nr
      · exact e, fun h => by
      rcases List.mem_cons.mp ((m y).mpr (List.mem_cons_of_mem _ h)) with e | e
      · exact absurd (e ▸ h) ns
      · exact e⟩]
theorem InOrd.pw {rs ys : List Str} (h : InOrd rs ys) : rs.Pairwise fun a b => ltS a b = true := asc_pw (asc_of_sorted h.up h.nd)
theorem InOrd.uniq {rs ss ys zs : List Str} (h : InOrd rs ys) (k : InOrd ss zs) (m : ∀ y, y ∈ ys ↔ y ∈ zs) : rs = ss := pw_uniq h.pw k.pw fun y => (h.mem y).trans ((m y).trans (k.mem y).symm)
section
variable {P : Program} {w : World} {K : PySem.W.Frag} {mg : Str → Option Value} {base : Heap}
/-! ### _law_drawn_clause -/
theorem cutV_take (xs : List V) (k : Int) (h0 : 0 ≤ k) : cutV xs none (some k) = xs.take k.toNat := by
  obtain ⟨j, rfl⟩ : ∃ j : Nat, k = (j : Int) := ⟨k.toNat, by omega⟩
  show (xs.drop (HT.sIx xs.length 0 none)).take (HT.sIx xs.length xs.length (some ((j : Nat) : Int)) - HT.sIx xs.length 0 none) = _
  rw [HT.sIx_nat, HT.sIx_none, List.drop_zero, Nat.sub_zero]
  rw [Int.toNat_natCast]
  rcases Nat.le_total j xs.length with h | h
  · rw [Nat.min_eq_left h]
  · rw [Nat.min_eq_right h, List.take_of_length_le (Nat.le_refl _), List.take_of_length_le h]
/-- signs before names -/
def Sgs (cs ss : List Str) : Prop := Paired Sg cs ss
theorem Sgs.snoc {cs ss : List Str} {c s : Str} (h : Sgs cs ss) (k : Sg c s) : Sgs (cs ++ [c]) (ss ++ [s]) := paired_snoc h k
theorem Sgs.bare {cs ss : List Str} (h : Sgs cs ss) (lo : ∀ s ∈ ss, lowZ s = true) : cs.map bareS = ss := by
  induction h with
  | nil => rfl
  | @cons c s cs ss r t ih =>
    rw [List.map_cons, ih fun x hx => lo x (List.mem_cons_of_mem _ hx), r.bare (lo s (List.mem_cons_self ..))]
theorem Sgs.len {cs ss : List Str} (h : Sgs cs ss) : cs.length = ss.length := Paired.length h
theorem Sgs.lit {cs ss : List Str} (h : Sgs cs ss) : ∀ c ∈ cs, ∃ s ∈ ss, Sg c s := by
  induction h with
  | nil => intro c hc; cases hc
  | @cons c s cs ss r t ih =>
    intro x hx
    rcases List.mem_cons.mp hx with e | e
    · rw [e]
      exact ⟨s, List.mem_cons_self .., r⟩
    · obtain ⟨s2, h2, k⟩ := ih x e
      exact ⟨s2, List.mem_cons_of_mem _ h2, k⟩
/-- a clause of signed names, put in order -/
theorem good_of {ns ss cs rs : List Str} (sg : Sgs cs ss) (nd : ss.Nodup) (sub : ∀ s ∈ ss, s ∈ ns) (lo : ns.all lowZ = true) (io : InOrd rs cs) : Good ns rs ∧ rs.length = ss.length := by
  have low : ∀ s ∈ ss, lowZ s = true := fun s hs => List.all_eq_true.mp lo s (sub s hs)
  have eb := sg.bare low
  have ndc : cs.Nodup := nodup_of_map bareS (by rw [eb]; exact nd)
  have pm : rs.Perm cs := (List.perm_ext_iff_of_nodup io.nd ndc).mpr io.mem
  refine ⟨⟨fun y hy => ?_, ?_, io.up⟩, by rw [pm.length_eq, sg.len]⟩
  · obtain ⟨s, hs, k⟩ := sg.lit y ((io.mem y).mp hy)
    exact ⟨s, sub s hs, k⟩
  · rw [(pm.map bareS).nodup_iff, eb]
    exact nd
abbrev sDrawn : Stmt := top 49
def spDrawn (K : PySem.W.Frag) : Sp := fun vs H Q _ => ∃ (p q : Addr) (n most : Int) (l : List V) (ns : List Str), vs = [.ref p, .ref q, .int most] ∧ H p = some (.lst l) ∧ PurseL n l ∧ n ≤ 800000 ∧ SqL K H q (ns.map V.str) ∧ q ≠ p ∧ ns.Nodup ∧ ns.all lowZ = true ∧
  1 ≤ ns.length ∧ ns.length ≤ 6 ∧ 1 ≤ most ∧ most ≤ 6 ∧
  ∀ (H' : Hp) (t : Addr) (l' : List V) (rs : List Str), But p H H' → H' p = some (.lst l') → PurseL (n + 20) l' → H t = none → H' t = some (.tup (rs.map V.str)) → Good ns rs → 1 ≤ rs.length → rs.length ≤ 6 → Q (.ref t) H'
theorem sc_drawn : FnScope ["_law_purse_here", "_law_names", "_law_most", "_law_some", "_law_name"] ["_law_purse_here", "_law_names", "_law_most"] (defScope sDrawn) := ⟨rfl, rfl, rfl, by decide +kernel, rfl, by decide +kernel, by decide +kernel⟩
theorem ok_drawn {f fS fD fC : Addr} {fd fdS fdD fdC : FuncData} (G : Fun K "_law_drawn_clause" "_law_drawn_clause" sDrawn f fd) (hlen : mg "len" = none) (hmin : mg "min" = none) (mS : mg "_law_shuffled" = some (.ref fS)) (kS : PySem.W.keepIn K (.ref fS) = true) (OS : FnOk P w K mg base CX0 3 fS fdS ["_law_purse_here", "_law_some"] (spShuf K)) (bS : Binds K fdS ["_law_purse_here", "_law_some"] []) (mD : mg "_law_draw" = some (.ref fD)) (kD : PySem.W.keepIn K (.ref fD) = true) (OD : FnOk P w K mg base CX0 2 fD fdD ["_law_purse_here", "_law_many"] spDraw) (bD : Binds K fdD ["_law_purse_here", "_law_many"] []) (mC : mg "_law_clause" = some (.ref fC)) (kC : PySem.W.keepIn K (.ref fC) = true) (OC : FnOk P w K mg base CX0 1 fC fdC ["_law_literals"] (spLCl K)) (bC : Binds K fdC ["_law_literals"] []) : FnOk P w K mg base CX0 4 f fd ["_law_purse_here", "_law_names", "_law_most"] (spDrawn K) := by
  have sc := sc_drawn
  refine G.ok sc (fun vs H Q E h => ?_) (fun cdv A outer s H vs Q E hr h => ?_)
  · obtain ⟨_, _, _, _, _, _, rfl, _⟩ := h
    rfl
  · obtain ⟨p, q, n, most, l, ns, rfl, hp, hl, hn, hS, nqp, nd, lo, h1, h6, m1, m6, k⟩ := h
    have big : (100000 : Nat) < sizeLine := by decide
    have hr2 : Room 2 _ := hr.mono (by decide)
    have hr1 : Room 1 _ := hr.mono (by decide)
    refine ⟨_, pss_cons (ps_set (i := 3) sc.nd rfl (Or.inl rfl) (pe_slice sl_list (pe_call OS hr rfl mS kS bS .nil pass0 (pa_cons (pv 0) (pa_cons (pv 1) pa_nil))) po_none
        (po_some (pe_op op_add pe_int (pe_call OD hr2 rfl mD kD bD .nil pass0 (pa_cons (pv 0) (pa_cons (pe_callB (call_min2 rfl) (by rfl) hmin boot_min (pa_cons (pv 2) (pa_cons (pe_callB call_len_seq (by rfl) hlen boot_len (pa_cons (pv 1) pa_nil)) pa_nil))) pa_nil)))))))
      (pss_one (ps_ret (pe_call OC hr1 rfl mC kC bC .nil pass0 (pa_cons (pe_lc (own := [("_law_name", 4)]) (g := gName 4) (tt := tYes) rfl sc.nd (pi_list (pv 3))
        (blkOk_by (N := ["_law_purse_here", "_law_names", "_law_most", "_law_some", "_law_name"]) (sc := defScope sDrawn) (by decide +kernel)) (fun _ _ _ _ _ => pg_name (i := 4) sc.nd rfl (Or.inl rfl)) (fun _ _ _ _ _ => pts_nil)
        (fun _ _ _ _ _ => pe_ifExp (pt_cmpR op_eq (pe_call OD hr2 rfl mD kD bD .nil pass0 (pa_cons (pv 0) (pa_cons pe_int pa_nil))) pe_int (nomark _)) (pv 4) (pe_op op_add_str pe_str (pv 4)))) pa_nil)))), ?_⟩
    refine ⟨_, rfl, _, rfl, p, q, n, l, ns.map V.str, rfl, hp, hl, by omega, hS, nqp, by rw [List.length_map]; omega, fun H1 r l1 ys bu1 hp1 hl1 nr hys pm => ?_⟩
    have nrp : r ≠ p := fun z => by
      rw [z, hp] at nr
      cases nr
    refine ⟨_, rfl, _, rfl, _, rfl, q, _, rfl, .inl (bu1.sqL hS nqp), ?_⟩
    refine ⟨_, _, rfl, ?_⟩
    rw [List.length_map] at hl1 ⊢
    obtain ⟨M, eM, M1, M6⟩ : ∃ M : Int, (if ((ns.length : Nat) : Int) < most then ((ns.length : Nat) : Int) else most) = M ∧ 1 ≤ M ∧ M ≤ 6 := by
      refine ⟨_, rfl, ?_, ?_⟩ <;> split <;> omega
    rw [eM]
    refine ⟨p, M, _, l1, rfl, hp1, hl1, by omega, by omega, by omega, fun l2 d hl2 d0 d1 => ?_⟩
    refine ⟨_, _, rfl, rfl, ?_⟩
    refine ⟨_, rfl, r, _, rfl, SqL.of ((upd_ne nrp).trans hys), fun c nc => ?_⟩
    rw [cutV_take _ _ (by omega)]
    obtain ⟨zs, rfl⟩ : ∃ zs : List Str, ys = zs.map V.str := by
      refine ⟨strsV ys, ?_⟩
      have go : ∀ l : List V, (∀ x ∈ l, ∃ z, x = V.str z) → l = (strsV l).map V.str := by
        intro l
        induction l with
        | nil => intro _; rfl
        | cons x l ih =>
          intro h
          obtain ⟨z, rfl⟩ := h x (List.mem_cons_self ..)
          have e := ih fun y hy => h y (List.mem_cons_of_mem _ hy)
          show V.str z :: l = V.str z :: (strsV l).map V.str
          rw [← e]
      exact go ys fun x hx => by
        obtain ⟨z, _, e⟩ := List.mem_map.mp (pm.mem_iff.mp hx)
        exact ⟨z, e.symm⟩
    have pz : zs.Perm ns := by
      have e := pm.map (fun | V.str z => z | _ => Str.empty)
      rw [List.map_map, List.map_map] at e
      have i1 : ∀ l : List Str, l.map ((fun | V.str z => z | _ => Str.empty) ∘ V.str) = l := fun l => by
        induction l with
        | nil => rfl
        | cons x l ih => rw [List.map_cons, ih]; rfl
      rw [i1, i1] at e
      exact e
    rw [← List.map_take]
    have lz : zs.length = ns.length := pz.length_eq
    have ls : (zs.take (1 + d).toNat).length = min (1 + d).toNat ns.length := by rw [List.length_take, lz]
    have nds : (zs.take (1 + d).toNat).Nodup := ((pz.nodup_iff).mpr nd).sublist (List.take_sublist ..)
    have subs : ∀ s ∈ zs.take (1 + d).toNat, s ∈ ns := fun s hs => pz.mem_iff.mp (List.mem_of_mem_take hs)
    generalize zs.take (1 + d).toNat = ss at ls nds subs
    have l6 : ss.length ≤ 6 := by omega
    have l1' : 1 ≤ ss.length := by omega
    have ncp : c ≠ p := fun z => by
      rw [z, upd_same] at nc
      cases nc
    have nc1 : H1 c = none := by
      rw [upd_ne ncp] at nc
      exact nc
    have bu2 : But p H (upd (upd H1 p (.lst l2)) c (.lst (ss.map V.str))) := fun b o e ne => by
      have e1 := bu1 b o e ne
      rw [upd_ne (ne_of_none e1 nc1), upd_ne ne]
      exact e1
    have hp2 : upd (upd H1 p (.lst l2)) c (.lst (ss.map V.str)) p = some (.lst l2) := (upd_ne (Ne.symm ncp)).trans upd_same
    refine ⟨_, rfl, c, rfl, ⟨_, SqL.of upd_same⟩, fun D nD => ?_⟩
    have nDp : D ≠ p := fun z => by
      rw [z, hp2] at nD
      cases nD
    have hc0 : upd (upd H1 p (.lst l2)) c (.lst (ss.map V.str)) c = some (.lst (ss.map V.str)) := upd_same
    generalize upd (upd H1 p (.lst l2)) c (.lst (ss.map V.str)) = Hb at bu2 hp2 nD hc0
    refine lc_list (K := K) (a := c) (xs := ss.map V.str) (fun i Hc => i ≤ ss.length ∧ ∃ (l3 : List V) (cs : List Str), But p Hb Hc ∧ Hc p = some (.lst l3) ∧ PurseL (n + ns.length + 1 + (i : Int)) l3 ∧ Hc D = some (.lst (cs.map V.str)) ∧ Sgs cs (ss.take i)) ?_ ?_ ?_ ?_
    · exact ⟨Nat.zero_le _, l2, [], .of (same_new nD), (upd_ne (Ne.symm nDp)).trans hp2, by simpa using hl2, upd_same, .nil⟩
    · rintro i Hc hi ⟨_, l3, cs, bu3, _⟩
      exact SqL.of (bu3 _ _ hc0 ncp)
    · rintro i x Hc hx ⟨hi, l3, cs, bu3, hp3, hl3, hD, sg⟩
      have hi2 : i < ss.length := by
        have := (List.getElem?_eq_some_iff.mp hx).1
        rw [List.length_map] at this
        exact this
      rw [List.getElem?_map, List.getElem?_eq_getElem hi2] at hx
      cases hx
      have lcs : cs.length = i := by
        rw [sg.len, List.length_take]
        omega
      have lows : lowZ ss[i] = true := List.all_eq_true.mp lo _ (subs _ (List.getElem_mem hi2))
      have next : ∀ (l4 : List V) (cc : Str), PurseL (n + ns.length + 1 + (i : Int) + 1) l4 → Sg cc ss[i] → ∃ acc, upd Hc p (.lst l4) D = some (.lst acc) ∧ acc.length < sizeLine ∧ (i + 1 ≤ ss.length ∧ ∃ (l3 : List V) (cs : List Str), But p Hb (upd (upd Hc p (.lst l4)) D (.lst (acc ++ [V.str cc]))) ∧
          upd (upd Hc p (.lst l4)) D (.lst (acc ++ [V.str cc])) p = some (.lst l3) ∧ PurseL (n + ns.length + 1 + ((i + 1 : Nat) : Int)) l3 ∧ upd (upd Hc p (.lst l4)) D (.lst (acc ++ [V.str cc])) D = some (.lst (cs.map V.str)) ∧ Sgs cs (ss.take (i + 1))) := fun l4 cc h4 hs => by
        refine ⟨cs.map V.str, (upd_ne nDp).trans hD, by rw [List.length_map]; omega, hi2, l4, cs ++ [cc], fun b o e ne => ?_, (upd_ne (Ne.symm nDp)).trans upd_same, ?_, by rw [upd_same, List.map_append]; rfl, ?_⟩
        · rw [upd_ne (ne_of_none e nD), upd_ne ne]
          exact bu3 b o e ne
        · have e : n + ns.length + 1 + ((i + 1 : Nat) : Int) = n + ns.length + 1 + (i : Int) + 1 := by omega
          rw [e]
          exact h4
        · rw [List.take_add_one, List.getElem?_eq_getElem hi2]
          exact sg.snoc hs
      walk_at "go"
      refine ⟨p, 2, _, l3, rfl, hp3, hl3, by omega, by decide, by decide, fun l4 r4 h4 r0 r1 => ?_⟩
      refine ⟨rfl, _, rfl, ?_⟩
      refine ite2 (fun z => ?_) (fun z => ?_)
      · exact ⟨_, rfl, next l4 _ h4 (.inl rfl)⟩
      · refine ⟨_, rfl, dash, ss[i], rfl, rfl, ?_, next l4 _ h4 (.inr rfl)⟩
        have := (low_parts lows).2.1
        show 1 + ss[i].length ≤ sizeLine
        omega
    · rintro Hc ⟨_, l3, cs, bu3, hp3, hl3, hD, sg⟩
      rw [List.length_map, List.take_length] at sg
      rw [List.length_map] at hl3
      dsimp only [tNil]
      refine ⟨D, cs, rfl, .inl (SqL.of hD), by rw [sg.len]; omega, fun H5 t rs s5 nt ht io => ?_⟩
      obtain ⟨good, len⟩ := good_of sg nds subs lo io
      refine k H5 t l3 rs (fun b o e ne => s5 b o (bu3 b o (bu2 b o e ne) ne)) (s5 _ _ hp3) (hl3.mono (by omega)) ?_ ht good (by omega) (by omega)
      cases e : H t with
      | none => rfl
      | some o =>
        by_cases z : t = p
        · rw [z, hp3] at nt
          cases nt
        · rw [bu3 t o (bu2 t o e z) z] at nt
          cases nt
end
end My
end

section
set_option Elab.async false
set_option linter.all false
set_option maxRecDepth 100000
set_option maxHeartbeats 4000000
namespace MyT
open PySem PySem.Spec PyProof.Rows L2
def signsV (z : Str) : List V := z.cps.toList.map fun c => V.str ⟨#[c]⟩
section
variable {X : Cx}
/-- s * n -/
theorem op_mulS : OpR X (binaryOp .Mult) (fun x y H Q => ∃ (z : Str) (n : Int), x = .str z ∧ y = .int n ∧ MulOk z n ∧ Q (.str (Txt.mul z n)) H) := by
  intro pins s σ H x y v u Q I rx ry h
  obtain ⟨z, n, rfl, rfl, ok, q⟩ := h
  obtain ⟨t, rfl⟩ := rx
  obtain ⟨t2, rfl⟩ := ry
  exact SB.mul ok fun t' k => ⟨.str _, H, I.tok _, ⟨_, rfl⟩, q⟩
theorem signs_vals {z : Str} : ∀ {us : List Value} {cs : List Nat}, us.length = cs.length → (∀ (j : Nat) (v : Value), us[j]? = some v → ∃ c t, cs[j]? = some c ∧ v = Value.str ⟨#[c]⟩ t) → Vals (cs.map fun c => V.str ⟨#[c]⟩) us
  | [], [], _, _ => .nil
  | u :: us, c :: cs, hl, h => by
    obtain ⟨c2, t, e1, e2⟩ := h 0 u rfl
    have e3 : c = c2 := Option.some.inj e1
    subst e3
    exact .cons ⟨t, e2⟩ (signs_vals (z := z) (by simpa using hl) fun j v e => h (j + 1) v e)
/-- list(s) -/
theorem call_listS (hcalm : X.calm = true) : CallR X (.type "list") (fun xs H Q => ∃ z, xs = [.str z] ∧ z.length ≤ sizeLine ∧ ∀ p, H p = none → Q (.ref p) (upd H p (.lst (signsV z)))) := by
  intro pins s σ H xs us Q I r q
  obtain ⟨z, rfl, hz, q⟩ := q
  obtain ⟨u, rfl, t, rfl⟩ := vals1 r
  refine call_list_str (I.ok.hd hcalm) z t (hn := hz) fun h' tk acc c' hk hS hacc => ?_
  have hv : Vals (signsV z) acc.toList := signs_vals (z := z) (by rw [Array.length_toList, Array.length_toList]; exact hacc.1) fun j v e => by
    obtain ⟨c, t2, hc, e2⟩ := hacc.2 j v (by rw [← Array.getElem?_toList]; exact e)
    exact ⟨c, t2, by rw [Array.getElem?_toList]; exact hc, e2⟩
  have hl : (signsV z).length ≤ sizeLine := by
    unfold signsV
    rw [List.length_map, Array.length_toList]
    exact hz
  exact ⟨.ref s.heap.objs.size, _, I.laid (t' := tk) hk (Nat.le_refl _) (show ObjOk X.prog X.w _ _ _ (.lst (signsV z)) from ⟨hl, acc.toList, c', hv, by rw [Array.toArray_toList]; exact hS⟩), rfl, q _ (I.hok.fresh (Nat.le_refl _))⟩
end
end MyT
end

section
set_option Elab.async false
set_option linter.all false
set_option maxRecDepth 100000
set_option maxHeartbeats 4000000
namespace My
local macro_rules | `(tactic| walk_at "go") => `(tactic| (repeat (first
  | (refine ⟨_, rfl, ?_⟩)
  | (refine ⟨_, _, rfl, rfl, ?_⟩)
  | (refine ⟨_, _, rfl, ?_⟩)
  | (refine ⟨rfl, ?_⟩)
  | (refine Or.inl ⟨_, rfl, ?_⟩)
  | (refine ⟨_, _, _, _, rfl, rfl, L2.SqL.of (by first | assumption | exact L2.upd_same), rfl, ?_⟩)
  | (refine ⟨_, _, _, _, rfl, rfl, (by first | assumption | exact L2.upd_same), rfl, ?_⟩)
  | (refine And.intro (by first | omega | decide | (unfold L2.CPow; decide) | (unfold L2.CMul; omega) | (unfold L2.CDiv; omega)) ?_))))
open PySem PySem.Spec PyProof.Rows L2 TL MyF MyS MyW MyT RZ
section
variable {P : Program} {w : World} {K : PySem.W.Frag} {mg : Str → Option Value} {base : Heap}
/-! ### _law_spare -/
def octS (c : Nat) : Str := Txt.mul ⟨#[c]⟩ 8
def spareS (ns : List Str) : List Str := (abc.map octS).filter fun y => !decide (y ∈ ns)
theorem oct_low : ∀ c ∈ abc, lowZ (octS c) = true := by decide +kernel
theorem oct_nodup : (abc.map octS).Nodup := by decide +kernel
theorem oct_ok : ∀ c, MulOk ⟨#[c]⟩ 8 := fun c => ⟨by decide, fun _ _ => by
  show ¬ ((1 : Int) > _)
  decide, fun _ _ => by
  rfl⟩
abbrev sSpare : Stmt := top 50
def spSpare (K : PySem.W.Frag) : Sp := fun vs H Q _ => ∃ (q : Addr) (ns : List Str), vs = [.ref q] ∧ SqL K H q (ns.map V.str) ∧ ∀ (H' : Hp) (r : Addr), Same H H' → H r = none → H' r = some (.lst ((spareS ns).map V.str)) → Q (.ref r) H'
theorem sc_spare : FnScope ["_law_names", "_law_letter"] ["_law_names"] (defScope sSpare) := ⟨rfl, rfl, rfl, by decide +kernel, rfl, by decide +kernel, by decide +kernel⟩
theorem ok_spare {f : Addr} {fd : FuncData} (G : Fun K "_law_spare" "_law_spare" sSpare f fd) (hlist : mg "list" = none) : FnOk P w K mg base CX0 1 f fd ["_law_names"] (spSpare K) := by
  have sc := sc_spare
  refine G.ok sc (fun vs H Q E h => ?_) (fun cdv A outer s H vs Q E hr h => ?_)
  · obtain ⟨_, _, rfl, _⟩ := h
    rfl
  · obtain ⟨q, ns, rfl, hS, k⟩ := h
    refine ⟨_, pss_one (ps_ret (pe_lc (own := [("_law_letter", 1)]) (g := gName 1) (tt := tTest (tOp (rIn K true) (tOp (fun x y H Q => ∃ (z : Str) (n : Int), x = .str z ∧ y = .int n ∧ MulOk z n ∧ Q (.str (Txt.mul z n)) H) (tVar 1) (tC (.int 8))) (tVar 0))) rfl sc.nd (pi_list (pe_callTy (call_listS rfl) (by rfl) hlist boot_list (pa_cons pe_str pa_nil)))
        (blkOk_by (N := ["_law_names", "_law_letter"]) (sc := defScope sSpare) (by decide +kernel)) (fun _ _ _ _ _ => pg_name (i := 1) sc.nd rfl (Or.inl rfl)) (fun _ _ _ _ _ => pts_one (pt_cmpR op_notIn_seq (pe_op op_mulS (pv 1) pe_int) (pv 0) (by rfl)))
        (fun _ _ _ _ _ => pe_op op_mulS (pv 1) pe_int))), ?_⟩
    refine ⟨_, rfl, by decide +kernel, fun r nr => ?_⟩
    refine ⟨r, rfl, ⟨_, SqL.of upd_same⟩, fun D nD => ?_⟩
    have s1 := same_new (o := .lst (signsV "abcdefghijklmnopqrstuvwxyz")) nr
    refine lstD (xs := abc.map fun c => V.str ⟨#[c]⟩) (fun x => match x with | .str z => (if (!decide (Txt.mul z 8 ∈ ns)) = true then some (.str (Txt.mul z 8)) else none) | _ => none) (SqL.of upd_same) (by decide +kernel) nD (fun x H2 Ψ Θ hx s2 yes no => ?_) (fun H2 s2 h2 => ?_)
    · obtain ⟨c, hc, rfl⟩ := List.mem_map.mp hx
      walk_at "go"
      refine ⟨oct_ok c, ?_⟩
      refine ⟨_, rfl, q, _, rfl, .inl (sqL_same hS (same_trans s1 s2)), rfl, flat_strs ns, ?_⟩
      refine ⟨_, rfl, ?_⟩
      have e0 : (if true = true then !inV (V.str (octS c)) (ns.map V.str) else inV (V.str (octS c)) (ns.map V.str)) = !decide (octS c ∈ ns) := by rw [if_pos rfl, inV_strs]
      show if (if true = true then !inV (V.str (octS c)) (ns.map V.str) else inV (V.str (octS c)) (ns.map V.str)) = true then _ else _
      rw [e0]
      by_cases z : (!decide (octS c ∈ ns)) = true
      · have y := yes (.str (octS c)) H2 (if_pos z) (same_refl _)
        rw [z]
        exact iteT ⟨_, rfl, _, _, rfl, rfl, oct_ok c, y⟩
      · have y := no H2 (if_neg z) (same_refl _)
        rw [Bool.eq_false_iff.mpr z]
        exact iteF y
    · refine k H2 D (same_trans s1 s2) (same_free s1 nD) ?_
      rw [h2, List.filterMap_map]
      unfold spareS
      rw [List.filter_map, List.map_map, ← filt_fm]
      rfl
end
end My
end

section
set_option Elab.async false
set_option linter.all false
set_option maxRecDepth 100000
set_option maxHeartbeats 4000000
namespace My
local macro_rules | `(tactic| walk_at "go") => `(tactic| (repeat (first
  | (refine ⟨_, rfl, ?_⟩)
  | (refine ⟨_, _, rfl, rfl, ?_⟩)
  | (refine ⟨_, _, rfl, ?_⟩)
  | (refine ⟨rfl, ?_⟩)
  | (refine Or.inl ⟨_, rfl, ?_⟩)
  | (refine ⟨_, _, _, _, rfl, rfl, L2.SqL.of (by first | assumption | exact L2.upd_same), rfl, ?_⟩)
  | (refine ⟨_, _, _, _, rfl, rfl, (by first | assumption | exact L2.upd_same), rfl, ?_⟩)
  | (refine And.intro (by first | omega | decide | (unfold L2.CPow; decide) | (unfold L2.CMul; omega) | (unfold L2.CDiv; omega)) ?_))))
open PySem PySem.Spec PyProof.Rows L2 TL MyF MyS MyW MyT RZ
theorem abc_all : ∀ d : Fin 26, (97 + d.val) ∈ abc := by decide +kernel
theorem low_of {z : Str} (h1 : 1 ≤ z.length) (h8 : z.length ≤ 8) (h : ∀ c ∈ z.cps.toList, 97 ≤ c ∧ c ≤ 122) : lowZ z = true := by
  unfold lowZ
  rw [decide_eq_true h1, decide_eq_true h8, Bool.true_and, Bool.true_and]
  refine List.all_eq_true.mpr fun c hc => decide_eq_true ?_
  obtain ⟨a, b⟩ := h c hc
  have q := abc_all ⟨c - 97, by omega⟩
  have e : 97 + (c - 97) = c := by omega
  rw [← e]
  exact q
theorem Low.z {z : Str} (h : Low z) : lowZ z = true := low_of h.2.1 h.1 h.2.2
theorem cut_to (z : Str) (j : Nat) (h : j ≤ z.length) : (cutS z none (some (j : Int))).cps.toList = z.cps.toList.take j := by
  show ((z.cps.toList.drop (HT.sIx z.length 0 none)).take (HT.sIx z.length z.length (some ((j : Nat) : Int)) - HT.sIx z.length 0 none)).toArray.toList = _
  rw [HT.sIx_nat, HT.sIx_none, List.drop_zero, Nat.sub_zero, Nat.min_eq_left h, List.toList_toArray]
theorem cut_from (z : Str) (j : Nat) (h : j ≤ z.length) : (cutS z (some (j : Int)) none).cps.toList = z.cps.toList.drop j := by
  show ((z.cps.toList.drop (HT.sIx z.length 0 (some ((j : Nat) : Int)))).take (HT.sIx z.length z.length none - HT.sIx z.length 0 (some ((j : Nat) : Int)))).toArray.toList = _
  rw [HT.sIx_nat, HT.sIx_none, Nat.min_eq_left h, List.toList_toArray, List.take_of_length_le]
  rw [List.length_drop, Array.length_toList]
  exact Nat.le_refl _
theorem len_cps (z : Str) : z.length = z.cps.toList.length := Array.length_toList.symm
theorem near_low {b : Str} (lb : lowZ b = true) {j c : Nat} (hj : j < b.length) (hc : 97 ≤ c ∧ c ≤ 122) : lowZ (cutS b none (some (j : Int)) ++ ⟨#[c]⟩ ++ cutS b (some ((j : Int) + 1)) none) = true := by
  obtain ⟨h1, h8, hr⟩ := low_parts lb
  have e1 : ((j : Int) + 1) = ((j + 1 : Nat) : Int) := by omega
  rw [e1]
  have e : (cutS b none (some (j : Int)) ++ ⟨#[c]⟩ ++ cutS b (some ((j + 1 : Nat) : Int)) none).cps.toList = b.cps.toList.take j ++ [c] ++ b.cps.toList.drop (j + 1) := by
    rw [cps_cat, cps_cat, cut_to b j (by omega), cut_from b (j + 1) (by omega)]
  have el : (cutS b none (some (j : Int)) ++ ⟨#[c]⟩ ++ cutS b (some ((j + 1 : Nat) : Int)) none).length = b.length := by
    rw [len_cps, e, List.length_append, List.length_append, List.length_take, List.length_drop, List.length_singleton, ← len_cps]
    omega
  refine low_of (by rw [el]; exact h1) (by rw [el]; exact h8) fun x hx => ?_
  rw [e] at hx
  rcases List.mem_append.mp hx with hx | hx
  · rcases List.mem_append.mp hx with hx | hx
    · exact hr x (List.mem_of_mem_take hx)
    · rw [List.mem_singleton] at hx
      rw [hx]
      exact hc
  · exact hr x (List.mem_of_mem_drop hx)
def oneS (c : Nat) : Str := ⟨#[c]⟩
theorem one_low : ∀ c ∈ abc, lowZ (oneS c) = true := by decide +kernel
theorem one_nodup : (abc.map oneS).Nodup := by decide +kernel
theorem abc_len : (abc.map oneS).length = 26 := by decide +kernel
/-- a letter that is not among few words -/
theorem free_letter {fs : List Str} (h : fs.length < 26) : ∃ y r, (abc.map oneS).filter (fun y => !decide (y ∈ fs)) = y :: r ∧ lowZ y = true ∧ y ∉ fs := by
  cases e : (abc.map oneS).filter (fun y => !decide (y ∈ fs)) with
  | nil =>
    exfalso
    have sub : ∀ y, y ∈ abc.map oneS → y ∈ fs := fun y hy => by
      by_cases c : y ∈ fs
      · exact c
      · have m : y ∈ (abc.map oneS).filter (fun y => !decide (y ∈ fs)) := List.mem_filter.mpr ⟨hy, by rw [decide_eq_false c]; rfl⟩
        rw [e] at m
        cases m
    have := (perm_of_sub one_nodup sub (by rw [abc_len]; omega)).length_eq
    rw [abc_len] at this
    omega
  | cons y r =>
    have m : y ∈ (abc.map oneS).filter (fun y => !decide (y ∈ fs)) := by
      rw [e]
      exact List.mem_cons_self ..
    obtain ⟨m1, m2⟩ := List.mem_filter.mp m
    refine ⟨y, r, rfl, ?_, fun c => ?_⟩
    · obtain ⟨c, hc, rfl⟩ := List.mem_map.mp m1
      exact one_low c hc
    · rw [decide_eq_true c] at m2
      cases m2
section
variable {P : Program} {w : World} {K : PySem.W.Frag} {mg : Str → Option Value} {base : Heap}
/-! ### _law_words -/
abbrev sWords : Stmt := top 44
def spWords : Sp := fun vs H Q _ => ∃ (p : Addr) (n m : Int) (l : List V), vs = [.ref p, .int m] ∧ H p = some (.lst l) ∧ PurseL n l ∧ n ≤ 800000 ∧ 0 ≤ m ∧ m ≤ 6 ∧
  ∀ (H' : Hp) (r : Addr) (l' : List V) (ns : List Str), But p H H' → H' p = some (.lst l') → PurseL (n + 200) l' → H r = none → H' r = some (.lst (ns.map V.str)) → ns.Nodup → ns.all lowZ = true → (ns.length : Int) = m → Q (.ref r) H'
def Nw : List Str := ["_law_purse_here", "_law_many", "_law_base", "_law_near", "_law_spot", "_law_found", "_law_spin", "_law_word_here", "_law_letter"]
theorem sc_words : FnScope ["_law_purse_here", "_law_many", "_law_base", "_law_near", "_law_spot", "_law_found", "_law_spin", "_law_word_here", "_law_letter"] ["_law_purse_here", "_law_many"] (defScope sWords) := ⟨rfl, rfl, rfl, by decide +kernel, rfl, by decide +kernel, by decide +kernel⟩
theorem ok_words {f fD fW : Addr} {fd fdD fdW : FuncData} (G : Fun K "_law_words" "_law_words" sWords f fd) (hlen : mg "len" = none) (hrange : mg "range" = none) (hlist : mg "list" = none) (mD : mg "_law_draw" = some (.ref fD)) (kD : PySem.W.keepIn K (.ref fD) = true) (OD : FnOk P w K mg base CX0 2 fD fdD ["_law_purse_here", "_law_many"] spDraw) (bD : Binds K fdD ["_law_purse_here", "_law_many"] []) (mW : mg "_law_word" = some (.ref fW)) (kW : PySem.W.keepIn K (.ref fW) = true) (OW : FnOk P w K mg base CX0 4 fW fdW ["_law_purse_here"] spWord) (bW : Binds K fdW ["_law_purse_here"] []) : FnOk P w K mg base CX0 5 f fd ["_law_purse_here", "_law_many"] spWords := by
  have sc := sc_words
  refine G.ok sc (fun vs H Q E h => ?_) (fun cdv A outer s H vs Q E hr h => ?_)
  · obtain ⟨_, _, _, _, rfl, _⟩ := h
    rfl
  · obtain ⟨p, n, m, l, rfl, hp, hl, hn, m0, m6, k⟩ := h
    have big : (100000 : Nat) < sizeLine := by decide
    have hr2 : Room 2 _ := hr.mono (by decide)
    have hr4 : Room 4 _ := hr.mono (by decide)
    refine ⟨_, pss_cons (ps_par (i := 2) (j := 3) (by rfl) sc.nd rfl rfl (by decide) rfl rfl (pa_cons (pe_call OW hr4 rfl mW kW bW .nil pass0 (pa_cons (pv 0) pa_nil)) (pa_cons (pe_cmpR op_eq (pe_call OD hr2 rfl mD kD bD .nil pass0 (pa_cons (pv 0) (pa_cons pe_int pa_nil))) pe_int (nomark _)) pa_nil)) (by rfl))
      (pss_cons (ps_asg (pe_tup (pa_cons (pe_call OD hr2 rfl mD kD bD .nil pass0 (pa_cons (pv 0) (pa_cons (pe_callB call_len_str (by rfl) hlen boot_len (pa_cons (pv 2) pa_nil)) pa_nil))) (pa_cons (pe_lst pa_nil) pa_nil))) (pg_tup rfl (pgs_cons (pg_name (i := 4) sc.nd rfl (Or.inl rfl)) (pgs_cons (pg_name (i := 5) sc.nd rfl (Or.inr rfl)) pgs_nil))))
      (pss_cons (ps_for PassesOwn.never rfl (pi_range1 rfl hrange (pa_cons (pv 1) pa_nil)) (pg_name (i := 6) sc.nd rfl (Or.inl rfl))
        (pss_cons (ps_set (i := 7) sc.nd rfl (Or.inl rfl) (pe_op op_add_str (pe_op op_add_str (pe_slice sl_str (pv 2) po_none (po_some (pv 4))) (pe_ix ix_str pe_str (pe_call OD hr2 rfl mD kD bD .nil pass0 (pa_cons (pv 0) (pa_cons pe_int pa_nil))) (fun _ _ => rfl))) (pe_slice sl_str (pv 2) (po_some (pe_op op_add (pv 4) pe_int)) po_none)))
        (pss_cons (ps_if (pt_not (pt_val (pv 3))) (pss_one (ps_set (i := 7) sc.nd rfl (Or.inl rfl) (pe_call OW hr4 rfl mW kW bW .nil pass0 (pa_cons (pv 0) pa_nil)))) pss_nil)
        (pss_cons (ps_if (pt_cmpR op_in_seq (pv 7) (pv 5) (by rfl)) (pss_one (ps_set (i := 7) sc.nd rfl (Or.inl rfl) (pe_ix ix_list (pe_lc (own := [("_law_letter", 8)]) (g := gName 8) (tt := tTest (tOp (rIn K true) (tVar 8) (tVar 5))) rfl sc.nd (pi_list (pe_callTy (call_listS rfl) (by rfl) hlist boot_list (pa_cons pe_str pa_nil)))
            (blkOk_by (N := ["_law_purse_here", "_law_many", "_law_base", "_law_near", "_law_spot", "_law_found", "_law_spin", "_law_word_here", "_law_letter"]) (sc := defScope sWords) (by decide +kernel)) (fun _ _ _ _ _ => pg_name (i := 8) sc.nd rfl (Or.inl rfl)) (fun _ _ _ _ _ => pts_one (pt_cmpR op_notIn_seq (pv 8) (pv 5) (by rfl)))
            (fun _ _ _ _ _ => pv 8)) pe_int (fun _ _ => rfl)))) pss_nil)
        (pss_one (ps_expr (pe_bm PySem.F.plainAttrs_list PySem.F.slot_list_append PySem.F.type_list_append mt_append (pv 5) (pa_cons (pv 7) pa_nil))))))))
      (pss_one (ps_ret (pv 5))))), ?_⟩
    refine ⟨_, rfl, p, n, l, rfl, hp, hl, by omega, fun H1 l1 b bu1 hp1 hl1 lb => ?_⟩
    refine ⟨_, rfl, p, 3, _, l1, rfl, hp1, hl1, by omega, by decide, by decide, fun l2 r2 hl2 r20 r21 => ?_⟩
    refine ⟨rfl, _, _, rfl, ?_⟩
    have lbz := lb.z
    obtain ⟨b1, b8, _⟩ := low_parts lbz
    refine ⟨_, rfl, _, rfl, b, rfl, by omega, ?_⟩
    refine ⟨p, _, _, l2, rfl, upd_same, hl2, by omega, by omega, by omega, fun l3 sp hl3 sp0 sp1 => ?_⟩
    rw [upd_upd]
    refine ⟨Nat.zero_le _, fun D nD => ?_⟩
    refine ⟨(by show 2 ≤ sizeLine; decide), fun T nT => ?_⟩
    refine ⟨T, [_, _], rfl, SqT.of upd_same, rfl, _, [_], rfl, _, [], rfl, rfl, ?_⟩
    generalize decide (V.int r2 = V.int 0) = nearB
    have nDp : D ≠ p := fun z => by
      rw [z, upd_same] at nD
      cases nD
    have nTD : T ≠ D := fun z => by
      rw [z, upd_same] at nT
      cases nT
    have nTp : T ≠ p := fun z => by
      rw [z, upd_ne (Ne.symm nDp), upd_same] at nT
      cases nT
    have nD1 : H1 D = none := by
      rw [upd_ne nDp] at nD
      exact nD
    have nT1 : H1 T = none := by
      rw [upd_ne nTD, upd_ne nTp] at nT
      exact nT
    have nDH : H D = none := by
      cases e : H D with
      | none => rfl
      | some o =>
        rw [bu1 D o e nDp] at nD1
        cases nD1
    have buH : But p H (upd (upd (upd H1 p (.lst l3)) D (.lst [])) T (.tup [.int sp, .ref D])) := fun c o e ne => by
      have e1 := bu1 c o e ne
      rw [upd_ne (ne_of_none e1 nT1), upd_ne (ne_of_none e1 nD1), upd_ne ne]
      exact e1
    have hDb0 : upd (upd (upd H1 p (.lst l3)) D (.lst [])) T (.tup [.int sp, .ref D]) D = some (.lst []) := (upd_ne (Ne.symm nTD)).trans upd_same
    have hpb : upd (upd (upd H1 p (.lst l3)) D (.lst [])) T (.tup [.int sp, .ref D]) p = some (.lst l3) := (upd_ne (Ne.symm nTp)).trans ((upd_ne (Ne.symm nDp)).trans upd_same)
    generalize upd (upd (upd H1 p (.lst l3)) D (.lst [])) T (.tup [.int sp, .ref D]) = H2 at buH hDb0 hpb
    obtain ⟨j, rfl⟩ : ∃ j : Nat, sp = (j : Int) := ⟨sp.toNat, by omega⟩
    have hj : j < b.length := by omega
    refine ⟨_, rfl, m, rfl, by omega, by omega, ?_⟩
    refine for_range (lo := 0) (n := m.toNat) (fun i σ Hc => i ≤ m.toNat ∧ ∃ (l4 : List V) (fs : List Str) (v6 v7 : Option V), σ = [some (.ref p), some (.int m), some (.str b), some (.bl nearB), some (.int (j : Int)), some (.ref D), v6, v7, none] ∧
      (∀ c o, H c = some o → c ≠ p → Hc c = some o) ∧ Hc p = some (.lst l4) ∧ PurseL (n + 12 + 11 * (i : Int)) l4 ∧ Hc D = some (.lst (fs.map V.str)) ∧ fs.length = i ∧ fs.Nodup ∧ fs.all lowZ = true) ?_ ?_ ?_
    · exact ⟨Nat.zero_le _, l3, [], none, none, rfl, buH, hpb, hl3.mono (by omega), hDb0, rfl, List.nodup_nil, rfl⟩
    · rintro i σ Hc hi ⟨_, l4, fs, v6, v7, rfl, bu, hp4, hl4, hD, lfs, nfs, lows⟩
      refine ⟨_, rfl, _, rfl, _, rfl, b, rfl, by omega, ?_⟩
      refine ⟨_, rfl, p, 26, _, l4, rfl, hp4, hl4, by omega, by decide, by decide, fun l5 r5 hl5 r50 r51 => ?_⟩
      obtain ⟨d, rfl⟩ : ∃ d : Nat, r5 = (d : Int) := ⟨r5.toNat, by omega⟩
      have h26 : d < 26 := by omega
      have hd : d < abc.length := Nat.lt_of_lt_of_eq h26 (by decide +kernel)
      refine ⟨_, (d : Int), abc[d], rfl, rfl, by decide, atI_nat (List.getElem?_eq_getElem hd), ?_⟩
      have lw1 := near_low lbz hj (abc_range _ (List.getElem_mem hd))
      have c1 : (cutS b none (some (j : Int))).length ≤ 8 := by
        rw [len_cps, cut_to b j (by omega), List.length_take]
        omega
      have c2 : (cutS b (some ((j : Int) + 1)) none).length ≤ 8 := by
        have e1 : ((j : Int) + 1) = ((j + 1 : Nat) : Int) := by omega
        rw [len_cps, e1, cut_from b (j + 1) (by omega), List.length_drop, ← len_cps]
        omega
      have c3 : (cutS b none (some (j : Int)) ++ (⟨#[abc[d]]⟩ : Str)).length ≤ 9 := by
        rw [len_cps, cps_cat, List.length_append, ← len_cps]
        show _ + 1 ≤ 9
        omega
      refine ⟨_, _, rfl, rfl, ?_, ?_⟩
      · show _ + 1 ≤ sizeLine
        omega
      refine ⟨_, rfl, _, rfl, _, _, rfl, rfl, _, rfl, b, rfl, by omega, ?_⟩
      refine ⟨_, _, rfl, rfl, by omega, ?_⟩
      refine ⟨_, rfl, _, rfl, ?_⟩
      refine ite2 (fun z => ?_) (fun z => ?_)
      · refine ⟨_, rfl, p, _, l5, rfl, upd_same, hl5, by omega, fun H5 lZ wd bu6 hp5 hl6 lwdd => ?_⟩
        have lwd := lwdd.z
        have bu5 : But p Hc H5 := fun c o e ne => bu6 c o ((upd_ne ne).trans e) ne
        have hD5 := bu5 D _ hD nDp
        have hl5z := hl6.mono (show n + 12 + 11 * (i : Int) + 1 + 10 ≤ n + 12 + 11 * (i : Int) + 11 by omega)
        refine ⟨_, rfl, _, rfl, D, _, rfl, .inl (SqL.of hD5), rfl, flat_strs fs, ?_⟩
        refine ⟨_, rfl, ?_⟩
        rw [inV_strs]
        by_cases c : wd ∈ fs
        · rw [decide_eq_true c]
          refine iteT ?_
          refine ⟨_, rfl, by decide +kernel, fun r nr => ?_⟩
          refine ⟨r, rfl, ⟨_, SqL.of upd_same⟩, fun D2 nD2 => ?_⟩
          have s6 := same_new (o := .lst (signsV "abcdefghijklmnopqrstuvwxyz")) nr
          refine lstD (xs := abc.map fun c => V.str ⟨#[c]⟩) (fun x => match x with | .str z => (if (!decide (z ∈ fs)) = true then some (.str z) else none) | _ => none) (SqL.of upd_same) (by decide +kernel) nD2 (fun x H7 Ψ Θ hx s7 yes no => ?_) (fun H7 s7 h7 => ?_)
          · obtain ⟨c7, hc7, rfl⟩ := List.mem_map.mp hx
            walk_at "go"
            refine ⟨D, _, rfl, .inl (SqL.of (s7 _ _ (s6 _ _ hD5))), rfl, flat_strs fs, ?_⟩
            refine ⟨_, rfl, ?_⟩
            have e0 : (if true = true then !inV (V.str (oneS c7)) (fs.map V.str) else inV (V.str (oneS c7)) (fs.map V.str)) = !decide (oneS c7 ∈ fs) := by rw [if_pos rfl, inV_strs]
            show if (if true = true then !inV (V.str (oneS c7)) (fs.map V.str) else inV (V.str (oneS c7)) (fs.map V.str)) = true then _ else _
            rw [e0]
            by_cases z : (!decide (oneS c7 ∈ fs)) = true
            · have y := yes (.str (oneS c7)) H7 (if_pos z) (same_refl _)
              rw [z]
              exact iteT ⟨_, rfl, y⟩
            · have y := no H7 (if_neg z) (same_refl _)
              rw [Bool.eq_false_iff.mpr z]
              exact iteF y
          · obtain ⟨wX, rX, ef, lwX, nwX⟩ := free_letter (fs := fs) (by omega)
            have s67 := same_trans s6 s7
            have hDX := s67 _ _ hD5
            have hpX := s67 _ _ hp5
            have buX : But p Hc H7 := bu5.trans (.of s67)
            have h8 : H7 D2 = some (.lst ((wX :: rX).map V.str)) := by
              rw [h7, List.filterMap_map, ← ef, List.filter_map, List.map_map, ← filt_fm]
              rfl
            refine ⟨D2, _, _, .str wX, rfl, rfl, SqL.of h8, atI_nat (j := 0) rfl, ?_⟩
            refine ⟨_, rfl, .inl ⟨rfl, _, SqL.of hDX⟩, ?_⟩
            refine ⟨_, rfl, D, _, _, rfl, rfl, hDX, by rw [List.length_map]; omega, ?_⟩
            refine ⟨hi, lZ, fs ++ [wX], _, _, rfl, fun c o e ne => ?_, (upd_ne (Ne.symm nDp)).trans hpX, ?_, by rw [upd_same, List.map_append]; rfl, by rw [List.length_append, lfs]; rfl, ?_, ?_⟩
            · rw [upd_ne (fun z => by rw [z, nDH] at e; cases e)]
              exact buX c o (bu c o e ne) ne
            · have e : n + 12 + 11 * ((i + 1 : Nat) : Int) = n + 12 + 11 * (i : Int) + 11 := by omega
              rw [e]
              exact hl5z
            · exact List.nodup_append.mpr ⟨nfs, List.nodup_cons.mpr ⟨by simp, List.nodup_nil⟩, fun x hx y hy => by
                rw [List.mem_singleton] at hy
                rw [hy]
                exact fun z => nwX (z ▸ hx)⟩
            · rw [List.all_append, lows, Bool.true_and]
              show (lowZ wX && true) = true
              rw [lwX]
              rfl
        · rw [decide_eq_false c]
          refine iteF ?_
          refine ⟨_, rfl, .inl ⟨rfl, _, SqL.of hD5⟩, ?_⟩
          refine ⟨_, rfl, D, _, _, rfl, rfl, hD5, by rw [List.length_map]; omega, ?_⟩
          refine ⟨hi, lZ, fs ++ [wd], _, _, rfl, fun c2 o e ne => ?_, (upd_ne (Ne.symm nDp)).trans hp5, ?_, by rw [upd_same, List.map_append]; rfl, by rw [List.length_append, lfs]; rfl, ?_, ?_⟩
          · rw [upd_ne (fun z => by rw [z, nDH] at e; cases e)]
            exact bu5 c2 o (bu c2 o e ne) ne
          · have e : n + 12 + 11 * ((i + 1 : Nat) : Int) = n + 12 + 11 * (i : Int) + 11 := by omega
            rw [e]
            exact hl5z
          · exact List.nodup_append.mpr ⟨nfs, List.nodup_cons.mpr ⟨by simp, List.nodup_nil⟩, fun x hx y hy => by
              rw [List.mem_singleton] at hy
              rw [hy]
              exact fun z => c (z ▸ hx)⟩
          · rw [List.all_append, lows, Bool.true_and]
            show (lowZ wd && true) = true
            rw [lwd]
            rfl
      · generalize cutS b none (some (j : Int)) ++ (⟨#[abc[d]]⟩ : Str) ++ cutS b (some ((j : Int) + 1)) none = wd at lw1
        have lwd := lw1
        have bu5 : But p Hc (upd Hc p (.lst l5)) := But.set
        have hp5 : upd Hc p (.lst l5) p = some (.lst l5) := upd_same
        generalize upd Hc p (.lst l5) = H5 at bu5 hp5
        have hD5 := bu5 D _ hD nDp
        have hl5z := hl5.mono (show n + 12 + 11 * (i : Int) + 1 ≤ n + 12 + 11 * (i : Int) + 11 by omega)
        refine ⟨_, rfl, _, rfl, D, _, rfl, .inl (SqL.of hD5), rfl, flat_strs fs, ?_⟩
        refine ⟨_, rfl, ?_⟩
        rw [inV_strs]
        by_cases c : wd ∈ fs
        · rw [decide_eq_true c]
          refine iteT ?_
          refine ⟨_, rfl, by decide +kernel, fun r nr => ?_⟩
          refine ⟨r, rfl, ⟨_, SqL.of upd_same⟩, fun D2 nD2 => ?_⟩
          have s6 := same_new (o := .lst (signsV "abcdefghijklmnopqrstuvwxyz")) nr
          refine lstD (xs := abc.map fun c => V.str ⟨#[c]⟩) (fun x => match x with | .str z => (if (!decide (z ∈ fs)) = true then some (.str z) else none) | _ => none) (SqL.of upd_same) (by decide +kernel) nD2 (fun x H7 Ψ Θ hx s7 yes no => ?_) (fun H7 s7 h7 => ?_)
          · obtain ⟨c7, hc7, rfl⟩ := List.mem_map.mp hx
            walk_at "go"
            refine ⟨D, _, rfl, .inl (SqL.of (s7 _ _ (s6 _ _ hD5))), rfl, flat_strs fs, ?_⟩
            refine ⟨_, rfl, ?_⟩
            have e0 : (if true = true then !inV (V.str (oneS c7)) (fs.map V.str) else inV (V.str (oneS c7)) (fs.map V.str)) = !decide (oneS c7 ∈ fs) := by rw [if_pos rfl, inV_strs]
            show if (if true = true then !inV (V.str (oneS c7)) (fs.map V.str) else inV (V.str (oneS c7)) (fs.map V.str)) = true then _ else _
            rw [e0]
            by_cases z : (!decide (oneS c7 ∈ fs)) = true
            · have y := yes (.str (oneS c7)) H7 (if_pos z) (same_refl _)
              rw [z]
              exact iteT ⟨_, rfl, y⟩
            · have y := no H7 (if_neg z) (same_refl _)
              rw [Bool.eq_false_iff.mpr z]
              exact iteF y
          · obtain ⟨wX, rX, ef, lwX, nwX⟩ := free_letter (fs := fs) (by omega)
            have s67 := same_trans s6 s7
            have hDX := s67 _ _ hD5
            have hpX := s67 _ _ hp5
            have buX : But p Hc H7 := bu5.trans (.of s67)
            have h8 : H7 D2 = some (.lst ((wX :: rX).map V.str)) := by
              rw [h7, List.filterMap_map, ← ef, List.filter_map, List.map_map, ← filt_fm]
              rfl
            refine ⟨D2, _, _, .str wX, rfl, rfl, SqL.of h8, atI_nat (j := 0) rfl, ?_⟩
            refine ⟨_, rfl, .inl ⟨rfl, _, SqL.of hDX⟩, ?_⟩
            refine ⟨_, rfl, D, _, _, rfl, rfl, hDX, by rw [List.length_map]; omega, ?_⟩
            refine ⟨hi, l5, fs ++ [wX], _, _, rfl, fun c o e ne => ?_, (upd_ne (Ne.symm nDp)).trans hpX, ?_, by rw [upd_same, List.map_append]; rfl, by rw [List.length_append, lfs]; rfl, ?_, ?_⟩
            · rw [upd_ne (fun z => by rw [z, nDH] at e; cases e)]
              exact buX c o (bu c o e ne) ne
            · have e : n + 12 + 11 * ((i + 1 : Nat) : Int) = n + 12 + 11 * (i : Int) + 11 := by omega
              rw [e]
              exact hl5z
            · exact List.nodup_append.mpr ⟨nfs, List.nodup_cons.mpr ⟨by simp, List.nodup_nil⟩, fun x hx y hy => by
                rw [List.mem_singleton] at hy
                rw [hy]
                exact fun z => nwX (z ▸ hx)⟩
            · rw [List.all_append, lows, Bool.true_and]
              show (lowZ wX && true) = true
              rw [lwX]
              rfl
        · rw [decide_eq_false c]
          refine iteF ?_
          refine ⟨_, rfl, .inl ⟨rfl, _, SqL.of hD5⟩, ?_⟩
          refine ⟨_, rfl, D, _, _, rfl, rfl, hD5, by rw [List.length_map]; omega, ?_⟩
          refine ⟨hi, l5, fs ++ [wd], _, _, rfl, fun c2 o e ne => ?_, (upd_ne (Ne.symm nDp)).trans hp5, ?_, by rw [upd_same, List.map_append]; rfl, by rw [List.length_append, lfs]; rfl, ?_, ?_⟩
          · rw [upd_ne (fun z => by rw [z, nDH] at e; cases e)]
            exact bu5 c2 o (bu c2 o e ne) ne
          · have e : n + 12 + 11 * ((i + 1 : Nat) : Int) = n + 12 + 11 * (i : Int) + 11 := by omega
            rw [e]
            exact hl5z
          · exact List.nodup_append.mpr ⟨nfs, List.nodup_cons.mpr ⟨by simp, List.nodup_nil⟩, fun x hx y hy => by
              rw [List.mem_singleton] at hy
              rw [hy]
              exact fun z => c (z ▸ hx)⟩
          · rw [List.all_append, lows, Bool.true_and]
            show (lowZ wd && true) = true
            rw [lwd]
            rfl
    · rintro σ Hc ⟨_, l4, fs, v6, v7, rfl, bu, hp4, hl4, hD, lfs, nfs, lows⟩
      exact ⟨_, rfl, k Hc D l4 fs bu hp4 (hl4.mono (by omega)) nDH hD nfs lows (by omega)⟩
end
end My
end

section
set_option Elab.async false
set_option linter.all false
set_option maxRecDepth 100000
set_option maxHeartbeats 4000000
namespace MyQ
open PySem PySem.Spec PyProof.Rows L2
/-- one keyword alone -/
def gOne {α : Type} : List α → List α → List α
  | [], [a] => [a]
  | _, _ => []
/-- two keywords, written the other way round -/
def gTwo {α : Type} : List α → List α → List α
  | [], [a, b] => [b, a]
  | _, _ => []
theorem one_rel {vs zs : List V} {us ws : List Value} (r : Vals vs us) (t : Vals zs ws) : Vals (gOne vs zs) (gOne us ws) := by
  cases r with
  | nil =>
    cases t with
    | nil => exact .nil
    | cons a t =>
      cases t with
      | nil => exact .cons a .nil
      | cons b t => exact .nil
  | cons a r => exact .nil
theorem two_rel {vs zs : List V} {us ws : List Value} (r : Vals vs us) (t : Vals zs ws) : Vals (gTwo vs zs) (gTwo us ws) := by
  cases r with
  | nil =>
    cases t with
    | nil => exact .nil
    | cons a t =>
      cases t with
      | nil => exact .nil
      | cons b t =>
        cases t with
        | nil => exact .cons b (.cons a .nil)
        | cons c t => exact .nil
  | cons a r => exact .nil
section
variable {K : PySem.W.Frag} {x qual a b : Str} {st : Stmt} {f : Addr} {fd : FuncData}
theorem kb_one (F : Fun K x qual st f fd) (h : ∀ (kV doc pm : Value) (an : Option Addr) (cdv ct v : Value), bindArgs (PySem.W.fnOf x qual (defArgs st) (defBody st) (defScope st) .none kV doc pm an cdv ct) ⟨[], [(a, v)]⟩ = pure [(a, v)]) : KBinds K fd [a] [a] gOne gOne := by
  obtain ⟨oc, od, kV, doc, pm, an, cdv, ct, osl, rfl, lk, hcd⟩ := F.ex
  refine ⟨fun s us ws _ hl => ?_, fun r t => one_rel r t⟩
  match us, ws, hl with
  | [], [v], _ => exact BindsTo.of_eq (h kV doc pm an cdv ct v)
  | [], [], hl => cases hl
  | [], _ :: _ :: _, hl => cases hl
  | _ :: _, _, hl => cases hl
theorem kb_two (F : Fun K x qual st f fd) (h : ∀ (kV doc pm : Value) (an : Option Addr) (cdv ct v u : Value), bindArgs (PySem.W.fnOf x qual (defArgs st) (defBody st) (defScope st) .none kV doc pm an cdv ct) ⟨[], [(b, v), (a, u)]⟩ = pure [(a, u), (b, v)]) : KBinds K fd [a, b] [b, a] gTwo gTwo := by
  obtain ⟨oc, od, kV, doc, pm, an, cdv, ct, osl, rfl, lk, hcd⟩ := F.ex
  refine ⟨fun s us ws _ hl => ?_, fun r t => two_rel r t⟩
  match us, ws, hl with
  | [], [v, u], _ => exact BindsTo.of_eq (h kV doc pm an cdv ct v u)
  | [], [], hl => cases hl
  | [], [_], hl => cases hl
  | [], _ :: _ :: _ :: _, hl => cases hl
  | _ :: _, _, hl => cases hl
end
section
variable {X : Cx} {CX : CXT} {k : Nat} {f : Addr} {fd : FuncData} {ps ks : List Str} {sp : Sp} {E : XK} {x : Str} {p pos : Pos} {kws : List Keyword} {tk : TA} {g : List Value → List Value → List Value} {gV : List V → List V → List V}
/-- f(k = v, ..), keywords alone -/
theorem pe_callK0 (F : FnOk X.prog X.w X.K X.mg X.base CX k f fd ps sp) (hr : Room k X.A) (hg : Gl X x) (hm : X.mg x = some (.ref f)) (hk : PySem.W.keepIn X.K (.ref f) = true) (hb : KBinds X.K fd ps ks g gV) (hx : Passes CX X E)
    (hkw : PK X kws tk) (hall : (backToKw pos (keywordEach kws X.env)).all (·.1.isSome) = true := by rfl) (hks : (backToKw pos (keywordEach kws X.env)).filterMap (·.1) = ks := by rfl)
    (hdb : (x == ("__debug__" : Str)) = false := by decide) (hpl : ((backTo pos (starEach [] X.env)).any (·.1) || (backToKw pos (keywordEach kws X.env)).any (·.1.isNone)) = false := by rfl) :
    PE X (.Call (.Name x p) [] kws pos) (tCallK sp gV E tNil tk) := by
  refine ⟨fun pins s σ H Q I h => ?_⟩
  refine wpAny_Call_Name_kw (ld_glob I hg hm ?_ hdb)
  refine PySem.W.callWith_KW0 (h₀ := X.base) I.ok.mod.kin hk hall (thn (hkw.run pos pins s σ H _ I h) fun ws s2 ⟨zs, H2, I2, rz, q2⟩ => ⟨I2.kIn, ?_⟩) hpl
  rw [hks]
  exact run_fnk F hr hb hx I2 .nil rz q2
/-- t[::-1] of a tuple of two or more -/
def tRevT (K : PySem.W.Frag) (te : TE) : TE := fun σ H Q => te σ H fun x H1 => ∃ a xs, x = .ref a ∧ SqT K H1 a xs ∧ ∀ p, H1 p = none → Q (.ref p) (upd H1 p (.tup xs.reverse))
end
end MyQ
end

section
set_option Elab.async false
set_option linter.all false
set_option maxRecDepth 100000
set_option maxHeartbeats 4000000
namespace MyV
open PySem PySem.Spec PyProof.Rows L2 HT
theorem adjust_rev (n : Nat) : Builtin.Slice.sliceAdjust none none (-1) (n : Int) = ((n : Int) - 1, -1) := by
  unfold Builtin.Slice.sliceAdjust
  rfl
theorem places_rev (n : Nat) : Builtin.Slice.slicePlaces ((n : Int) - 1) (-1) (-1) = n := by
  unfold Builtin.Slice.slicePlaces
  simp
  all_goals omega
theorem pick_rev (xs : Array Value) : ((List.range xs.size).filterMap fun (m : Nat) => xs[(((xs.size : Int) - 1) + (m : Int) * (-1)).toNat]?).toArray = xs.toList.reverse.toArray := by
  congr 1
  have q := MyF.range_fm (fun x : Value => some x) xs.toList.reverse
  rw [List.length_reverse, Array.length_toList] at q
  rw [List.filterMap_some] at q
  refine Eq.trans (MyF.fm_congr fun i hi => ?_) q
  have hi2 : i < xs.size := List.mem_range.mp hi
  have e : (((xs.size : Int) - 1) + (i : Int) * (-1)).toNat = xs.size - 1 - i := by omega
  rw [e, List.getElem?_reverse (by rw [Array.length_toList]; exact hi2), Array.length_toList, Array.getElem?_toList]
  cases xs[xs.size - 1 - i]? <;> rfl
section
variable {prog : Program} {w : World} {A : Around} {E : Value → Shared → Prop} {s : Shared}
theorem get_rev {t sl : Addr} {items : Array Value} {k : Tok} {Q : Value → Shared → Prop} (ht : IsTup s.heap t items) (hs : s.heap.IsSliceOf sl .none .none (.int (-1) k)) (h : Q (.ref s.heap.objs.size) { s with heap := s.heap.push { cls := .type "tuple", data := .seq items.toList.reverse.toArray } })
    (hz : items.size ≤ sizeLine) : wpAny (model prog w) A (getItem (.ref t) (.ref sl)) Q E s := by
  have ok : sizeOk (.seq items.toList.reverse.toArray) := by
    show items.toList.reverse.toArray.size ≤ sizeLine
    rw [List.size_toArray, List.length_reverse, Array.length_toList]
    exact hz
  obtain ⟨os, hos, hcs, hds⟩ := id hs
  have ty : s.TypeIs (.ref sl) "slice" := ⟨os, hos, hcs⟩
  unfold getItem
  try with_reducible refine wpAny_holding ?_
  first | refine wpAny_bind (wpAny_pure ?_) | skip
  refine wpAny_bind (wpAny_sequenceKey ht.typeIs (by decide) (wpAny_bind (wpAny_callSpecial?_slot (name := Str.ofString "__getitem__") ht.typeIs PyProof.Rows.slot_tuple_getitem
    (wpAny_call_entry PyProof.Rows.slot_tuple_getitem ht.typeIs entry_tuple_getitem ?_ (args_tuple_getitem _ _)))))
  refine wpAny_bind (m := Builtin.Tuple.tupleItemsOf (.ref t)) (tupleItemsOf_ ht (wpAny_bind (wpAny_typeOf ty ?_)))
  rw [if_pos (by decide)]
  refine wpAny_bind (m := Builtin.Slice.sliceApplied (.ref sl) (pure (items.size : Int))) ?_
  unfold Builtin.Slice.sliceApplied Builtin.Slice.sliceFields
  refine wpAny_bind (wpAny_bind (wpAny_field hos hds (x := .none) rfl (wpAny_bind (wpAny_field hos hds (x := .none) rfl (wpAny_bind (wpAny_field hos hds (x := .int (-1) k) rfl (wpAny_pure ?_)))))))
  refine wpAny_bind (slicePart_ (.int (-1) k) ?_)
  show wpAny _ _ (if ((-1 : Int) == 0) = true then _ else _) _ _ s
  rw [if_neg (by decide)]
  refine wpAny_bind (slicePart_ .none (wpAny_bind (slicePart_ .none (wpAny_bind (wpAny_pure ?_)))))
  show wpAny _ _ (match Builtin.Slice.sliceAdjust none none (-1) (items.size : Int) with | (lo, hi) => pure (lo, (-1 : Int), Builtin.Slice.slicePlaces lo hi (-1))) _ _ s
  rw [adjust_rev]
  show wpAny _ _ (pure ((items.size : Int) - 1, (-1 : Int), Builtin.Slice.slicePlaces ((items.size : Int) - 1) (-1) (-1))) _ _ s
  rw [places_rev]
  refine wpAny_pure ?_
  have no : ¬ ((((items.size : Int) - 1) == 0 && (-1 : Int) == 1 && items.size == items.size) = true) := by
    intro q
    rw [Bool.and_eq_true, Bool.and_eq_true] at q
    exact absurd q.1.2 (by decide)
  show wpAny _ _ (if ((((items.size : Int) - 1) == 0 && (-1 : Int) == 1 && items.size == items.size) = true) then _ else _) _ _ s
  rw [if_neg no, pick_rev]
  first
    | exact wpAny_bind (m := Builtin.Tuple.tupleExact _) (wpAny_newObj_type (wpAny_pure ⟨_, rfl, wpAny_pure h⟩) ok)
    | exact wpAny_bind (wpAny_bind (m := Builtin.Tuple.tupleExact _) (wpAny_newObj_type (wpAny_pure (wpAny_pure ⟨_, rfl, wpAny_pure h⟩)) ok))
end
section
variable {X : Cx}
/-- t[::-1] of a tuple -/
def tRevT (K : PySem.W.Frag) (te : TE) : TE := fun σ H Q => te σ H fun x H1 => ∃ a xs, x = .ref a ∧ SqT K H1 a xs ∧ ∀ p, H1 p = none → Q (.ref p) (upd H1 p (.tup xs.reverse))
theorem pe_revT {e : Expr} {te : TE} {k : Nat} {p1 p2 p3 pos : Pos} (he : PE X e te) : PE X (.Subscript e (.Slice none none (some (.UnaryOp .USub (.Constant (.int 1) k p1) p2)) p3) pos) (tRevT X.K te) := by
  refine ⟨fun pins s σ H Q I h => ?_⟩
  refine Subscript_ (thn (he.run pins s σ H _ I h) fun v s1 ⟨x, H1, I1, r1, a, xs, ex, hx, q⟩ => ?_)
  subst ex
  cases r1
  have st : PO X (some (.UnaryOp .USub (.Constant (.int 1) k p1) p2)) (tPart (tUn (rU fun i => .int (-i)) (tC (.int 1)))) := po_some (pe_un un_neg pe_int)
  refine wpAny_Slice (thn (po_none.run pins s1 σ H1 (fun o H2 => o = none ∧ H2 = H1) I1 ⟨rfl, rfl⟩) fun vl s2 ⟨l, H2, I2, pl, el, e2⟩ => ?_)
  subst el e2
  refine thn (po_none.run pins s2 σ H2 (fun o H3 => o = none ∧ H3 = H2) I2 ⟨rfl, rfl⟩) fun vu s3 ⟨u, H3, I3, pu, eu, e3⟩ => ?_
  subst eu e3
  refine thn (st.run pins s3 σ H3 (fun o H4 => o = some (-1) ∧ H4 = H3) I3 ⟨1, rfl, -1, rfl, rfl, rfl⟩) fun vs s4 ⟨o, H4, I4, ps, eo, e4⟩ => ?_
  subst eo e4
  cases pl
  cases pu
  obtain ⟨tk, rfl⟩ : ∃ tk, vs = Value.int (-1) tk := by
    cases ps
    exact ⟨_, rfl⟩
  have I5 : L2.Inv X pins σ H4 { s4 with heap := s4.heap.push { cls := .type "slice", data := .fields #[.none, .none, .int (-1) tk] } } := I4.kept (t' := s4.toks) fun b ob q => Heap.get?_push_of_some _ q
  obtain ⟨its, r, ht, hz⟩ := I5.tuple hx
  refine tail_any (ops := [.ref a, .ref s4.heap.objs.size]) ht.typeIs (PyProof.Rows.slot_tuple_getitem.lookup) ?_ (by with_unfolding_all rfl)
  refine get_rev ht (Heap.IsSliceOf.new _ .none .none (.int (-1) tk)) ?_ (by rw [List.size_toArray, ← r.length]; exact hz)
  refine ⟨.ref _, _, I5.laid (t' := s4.toks) (o := .tup xs.reverse) (fun b ob q => Heap.get?_push_of_some _ q) (Nat.le_refl _) ?_, rfl, q _ (I5.hok.fresh (Nat.le_refl _))⟩
  exact ⟨by rw [List.length_reverse]; exact hz, its.reverse, r.reverse, _, Heap.get?_push_size _ rfl, rfl, 0, by simp⟩
end
end MyV
end

section
set_option Elab.async false
set_option linter.all false
set_option maxRecDepth 100000
set_option maxHeartbeats 4000000
namespace My
local macro_rules | `(tactic| walk_at "go") => `(tactic| (repeat (first
  | (refine ⟨_, rfl, ?_⟩)
  | (refine ⟨_, _, rfl, rfl, ?_⟩)
  | (refine ⟨_, _, rfl, ?_⟩)
  | (refine ⟨rfl, ?_⟩)
  | (refine Or.inl ⟨_, rfl, ?_⟩)
  | (refine ⟨_, _, _, _, rfl, rfl, L2.SqL.of (by first | assumption | exact L2.upd_same), rfl, ?_⟩)
  | (refine ⟨_, _, _, _, rfl, rfl, (by first | assumption | exact L2.upd_same), rfl, ?_⟩)
  | (refine And.intro (by first | omega | decide | (unfold L2.CPow; decide) | (unfold L2.CMul; omega) | (unfold L2.CDiv; omega)) ?_))))
open PySem PySem.Spec PyProof.Rows L2 TL MyF MyS MyW MyT MyQ MyV RZ
/-! ### two clauses -/
theorem opp_neg {y : Str} (n : negS y = true) : oppS y = bareS y := if_pos n
theorem opp_pos {y : Str} (n : ¬ negS y = true) : oppS y = dash ++ y := if_neg n
theorem dash_bare {y : Str} (n : negS y = true) : dash ++ bareS y = y := by
  refine str_ext ?_
  rw [cps_cat, dash_cps, bare_eq, if_pos n]
  rw [neg_eq] at n
  have e := of_decide_eq_true n
  rw [← e, List.take_append_drop]
/-- twice turned is the same -/
theorem opp_opp {y : Str} (l : litS y = true) : oppS (oppS y) = y := by
  by_cases n : negS y = true
  · rw [opp_neg n, opp_pos (low_neg l), dash_bare n]
  · rw [opp_pos n, opp_neg (neg_dash y), bare_dash]
theorem bare_opp {y : Str} (l : litS y = true) : bareS (oppS y) = bareS y := by
  by_cases n : negS y = true
  · rw [opp_neg n, bare_low l]
  · rw [opp_pos n, bare_dash, bare_of_pos n]
/-- two literals of one variable -/
theorem same_bare {y z : Str} (ly : litS y = true) (lz : litS z = true) (e : bareS y = bareS z) : z = y ∨ z = oppS y := by
  by_cases n : negS y = true
  · by_cases m : negS z = true
    · left
      rw [← dash_bare n, ← dash_bare m, e]
    · right
      rw [opp_neg n, e, bare_of_pos m]
  · by_cases m : negS z = true
    · right
      rw [opp_pos n, ← dash_bare m, ← e, bare_of_pos n]
    · left
      rw [← bare_of_pos n, ← bare_of_pos m, e]
theorem Good.lits {ns rs : List Str} (h : Good ns rs) (lo : ns.all lowZ = true) : ∀ y ∈ rs, litS y = true := fun y hy => by
  obtain ⟨s, hs, sg⟩ := h.lit y hy
  exact sg.lit (List.all_eq_true.mp lo s hs)
theorem mem_clash {ys zs : List Str} {y : Str} : y ∈ clashS ys zs ↔ y ∈ ys ∧ oppS y ∈ zs := by
  unfold clashS
  rw [List.mem_filter, decide_eq_true_iff]
/-- what two clauses meet at -/
def meetO : List Str → Option Str
  | [y] => some (bareS y)
  | _ => none
theorem nodup_one {l : List Str} {x : Str} (n : l.Nodup) (h : ∀ y, y ∈ l ↔ y = x) : l = [x] := by
  match l, n, h with
  | [], _, h => exact absurd ((h x).mpr rfl) (by simp)
  | [a], _, h => rw [(h a).mp (List.mem_cons_self ..)]
  | a :: b :: r, n, h =>
    have e1 := (h a).mp (List.mem_cons_self ..)
    have e2 := (h b).mp (List.mem_cons_of_mem _ (List.mem_cons_self ..))
    exact absurd (show a ∈ b :: r by rw [e1, ← e2]; exact List.mem_cons_self ..) (List.nodup_cons.mp n).1
theorem clash_one {ys zs : List Str} (ny : ys.Nodup) (nz : zs.Nodup) (ly : ∀ y ∈ ys, litS y = true) (lz : ∀ z ∈ zs, litS z = true) {y : Str} (h : clashS ys zs = [y]) : clashS zs ys = [oppS y] := by
  have hy : y ∈ clashS ys zs := by
    rw [h]
    exact List.mem_cons_self ..
  have hy2 := mem_clash.mp hy
  refine nodup_one (nz.filter _) fun z => ⟨fun hz => ?_, fun e => ?_⟩
  · have hz2 := mem_clash.mp hz
    have m : oppS z ∈ clashS ys zs := mem_clash.mpr ⟨hz2.2, by rw [opp_opp (lz z hz2.1)]; exact hz2.1⟩
    rw [h, List.mem_singleton] at m
    rw [← m, opp_opp (lz z hz2.1)]
  · rw [e]
    exact mem_clash.mpr ⟨hy2.2, by rw [opp_opp (ly y hy2.1)]; exact hy2.1⟩
theorem meet_sym {ys zs : List Str} (ny : ys.Nodup) (nz : zs.Nodup) (ly : ∀ y ∈ ys, litS y = true) (lz : ∀ z ∈ zs, litS z = true) : meetV zs ys = meetV ys zs := by
  have one : ∀ {as bs : List Str}, as.Nodup → bs.Nodup → (∀ y ∈ as, litS y = true) → (∀ y ∈ bs, litS y = true) → ∀ {y}, clashS as bs = [y] → meetV bs as = .str (bareS y) ∧ meetV as bs = .str (bareS y) := fun {as bs} na nb la lb {y} h => by
    have h2 := clash_one na nb la lb h
    have hy : y ∈ clashS as bs := by
      rw [h]
      exact List.mem_cons_self ..
    unfold meetV
    rw [h, h2]
    exact ⟨by rw [← bare_opp (la y (mem_clash.mp hy).1)], rfl⟩
  have non : ∀ {as bs : List Str}, (∀ y, clashS as bs ≠ [y]) → meetV as bs = .non := fun {as bs} h => by
    unfold meetV
    generalize clashS as bs = l at h
    match l, h with
    | [], _ => rfl
    | [y], h => exact absurd rfl (h y)
    | _ :: _ :: _, _ => rfl
  by_cases c : ∃ y, clashS ys zs = [y]
  · obtain ⟨y, h⟩ := c
    obtain ⟨h1, h2⟩ := one ny nz ly lz h
    rw [h1, h2]
  · rw [non fun y h => c ⟨y, h⟩]
    by_cases d : ∃ z, clashS zs ys = [z]
    · obtain ⟨z, h⟩ := d
      exact absurd ⟨_, clash_one nz ny lz ly h⟩ c
    · rw [non fun z h => d ⟨z, h⟩]
/-- no clash: what both have together has no contraries -/
theorem has_both {ys zs : List Str} (hy : hasS ys = false) (hz : hasS zs = false) (ly : ∀ y ∈ ys, litS y = true) (lz : ∀ z ∈ zs, litS z = true) (nc : clashS ys zs = []) : hasS (ys ++ zs) = false := by
  have no : ∀ y, y ∈ ys → oppS y ∈ zs → False := fun y a b => by
    have m := mem_clash.mpr ⟨a, b⟩
    rw [nc] at m
    cases m
  refine List.any_eq_false.mpr fun x hx e => ?_
  have m := of_decide_eq_true e
  rcases List.mem_append.mp hx with hx | hx
  · rcases List.mem_append.mp m with m | m
    · exact List.any_eq_false.mp hy x hx (decide_eq_true m)
    · exact no x hx m
  · rcases List.mem_append.mp m with m | m
    · exact no _ m (by rw [opp_opp (lz x hx)]; exact hx)
    · exact List.any_eq_false.mp hz x hx (decide_eq_true m)
/-- what is put together is made true by what makes both true -/
theorem kept_put {ys zs ps : List Str} {y : Str} (by1 : (ys.map bareS).Nodup) (bz1 : (zs.map bareS).Nodup) (ly : ∀ y ∈ ys, litS y = true) (lz : ∀ z ∈ zs, litS z = true) (cons : ∀ x ∈ ps, oppS x ∉ ps) (h : clashS ys zs = [y])
    (k1 : ∃ x ∈ ys, x ∈ ps) (k2 : ∃ x ∈ zs, x ∈ ps) : ∃ x, x ∈ (ys ++ zs).filter (fun x => !decide (bareS x = bareS y)) ∧ x ∈ ps := by
  have hy := mem_clash.mp (show y ∈ clashS ys zs by rw [h]; exact List.mem_cons_self ..)
  obtain ⟨a, ha, pa⟩ := k1
  obtain ⟨b, hb, pb⟩ := k2
  by_cases ca : bareS a = bareS y
  · by_cases cb : bareS b = bareS y
    · have ea : a = y := inj_of_nodup by1 ha hy.1 ca
      have eb : b = oppS y := inj_of_nodup bz1 hb hy.2 (by rw [cb, bare_opp (ly y hy.1)])
      rw [ea] at pa
      rw [eb] at pb
      exact absurd pb (cons y pa)
    · exact ⟨b, List.mem_filter.mpr ⟨List.mem_append.mpr (.inr hb), by rw [decide_eq_false cb]; rfl⟩, pb⟩
  · exact ⟨a, List.mem_filter.mpr ⟨List.mem_append.mpr (.inl ha), by rw [decide_eq_false ca]; rfl⟩, pa⟩
end My
end

section
set_option Elab.async false
set_option linter.all false
set_option maxRecDepth 100000
set_option maxHeartbeats 4000000
namespace MyF
open PySem PySem.Spec PyProof.Rows L2
/-- a comprehension over a tuple at a, that changes nothing, its list at D -/
theorem tupD {K : PySem.W.Frag} {a D : Addr} {xs : List V} {g : TG} {tt : TT} {te : TE} {vs : List Nat} {σ : L2.St} {H : Hp} {Qd : Hp → Prop} (F : V → Option V) (hS : SqT K H a xs) (few : xs.length < sizeLine) (nD : H D = none)
    (turn : ∀ x H2 (Ψ : V → Hp → Prop) (Θ : Hp → Prop), x ∈ xs → Same H H2 → (∀ y H5, F x = some y → Same H2 H5 → Ψ y H5) → (∀ H5, F x = none → Same H2 H5 → Θ H5) →
      g x (wipe σ vs) H2 fun σ2 H2 => wipe σ2 vs = wipe σ vs ∧ tt σ2 H2 fun b H3 => if b = true then te σ2 H3 Ψ else Θ H3)
    (done : ∀ H2, Same H H2 → H2 D = some (.lst (xs.filterMap F)) → Qd H2) :
    ∃ W : Nat → Nat → Hp → Prop, (∃ m, W 0 m (upd H D (.lst []))) ∧ ∀ i m H, W i m H →
      ((Itt K a).stop i H ∧ Qd H) ∨ ((Itt K a).go i H ∧ ∃ Nx : Hp → Prop, (∀ H', Nx H' → ∃ m', m' < m ∧ W (i + 1) m' H') ∧ ∀ x H', (Itt K a).yld i H x H' → g x (wipe σ vs) H' fun σ2 H2 => wipe σ2 vs = wipe σ vs ∧ tt σ2 H2 fun b H3 =>
        if b = true then te σ2 H3 fun y H4 => ∃ acc, H4 D = some (.lst acc) ∧ acc.length < sizeLine ∧ Nx (upd H4 D (.lst (acc ++ [y]))) else Nx H3) :=
  fm_it (g := g) (tt := tt) (te := te) (vs := vs) (σ := σ) (Qd := Qd) walk_tup (fun i => (xs[i]?).bind F) nD few (fun H2 s2 => sqT_same hS s2)
      (fun i x H2 H3 Ψ Θ hi s2 y yes no => by
        obtain ⟨rfl, hx⟩ := y
        exact turn x H3 Ψ Θ (List.mem_of_getElem? hx) s2 (fun y H5 e s5 => yes y H5 (by rw [hx]; exact e) s5) fun H5 e s5 => no H5 (by rw [hx]; exact e) s5)
      fun H2 s2 h2 => done H2 s2 (by rw [h2, range_fm])
end MyF
end

section
set_option Elab.async false
set_option linter.all false
set_option maxRecDepth 100000
set_option maxHeartbeats 4000000
namespace My
local macro_rules | `(tactic| walk_at "go") => `(tactic| (repeat (first
  | (refine ⟨_, rfl, ?_⟩)
  | (refine ⟨_, _, rfl, rfl, ?_⟩)
  | (refine ⟨_, _, rfl, ?_⟩)
  | (refine ⟨rfl, ?_⟩)
  | (refine Or.inl ⟨_, rfl, ?_⟩)
  | (refine ⟨_, _, _, _, rfl, rfl, L2.SqL.of (by first | assumption | exact L2.upd_same), rfl, ?_⟩)
  | (refine ⟨_, _, _, _, rfl, rfl, (by first | assumption | exact L2.upd_same), rfl, ?_⟩)
  | (refine And.intro (by first | omega | decide | (unfold L2.CPow; decide) | (unfold L2.CMul; omega) | (unfold L2.CDiv; omega)) ?_))))
open PySem PySem.Spec PyProof.Rows L2 TL MyF MyS MyW MyT MyQ MyV RZ
structure Tts (mg : Str → Option Value) : Prop where
  sorted : mg "sorted" = none
  len : mg "len" = none
  all : mg "all" = none
theorem pwc {H : Hp} {a : Addr} {ys : List Str} {K : PySem.W.Frag} (h : ClAt K H a ys) : ys.Pairwise fun a b => ltS a b = true := by
  have e := h.2.1
  unfold clS at e
  rw [Bool.and_eq_true, Bool.and_eq_true] at e
  exact asc_pw e.1.2
theorem cases_em {ys zs cs : List Str} (pm : cs.Perm ((clashS ys zs).map bareS)) : (∃ y, clashS ys zs = [y] ∧ cs = [bareS y] ∧ meetV ys zs = .str (bareS y)) ∨ (meetV ys zs = .non ∧ cs.length ≠ 1) := by
  unfold meetV
  have hl := pm.length_eq
  rw [List.length_map] at hl
  generalize clashS ys zs = l at pm hl
  match l, pm, hl with
  | [], _, hl => exact .inr ⟨rfl, by rw [hl]; decide⟩
  | [y], pm, _ => exact .inl ⟨y, rfl, List.perm_singleton.mp pm, rfl⟩
  | _ :: _ :: _, _, hl => exact .inr ⟨rfl, by rw [hl, List.length_cons, List.length_cons]; omega⟩
theorem ex_strs {K : PySem.W.Frag} {H : Hp} {a b : Addr} {xs : List Str} (h1 : SqT K H a (xs.map V.str)) (h2 : SqT K H b (xs.map V.str)) (few : xs.length < 1000) : Ex K H 1 (.ref a) (.ref b) :=
  .inr (.inl ⟨a, b, _, _, rfl, rfl, .inr ⟨h1, h2⟩, rfl, by rw [List.length_map]; exact few, fun i u v hu hv => by
    rw [hu] at hv
    cases hv
    obtain ⟨z, _, rfl⟩ := List.mem_map.mp (List.mem_of_getElem? hu)
    exact Ex.leaf (.str z) 0⟩)
theorem ex_four {K : PySem.W.Frag} {H : Hp} {p q : Addr} {a b c d e f : V} (h1 : H p = some (.lst [a, b, c, c])) (h2 : H q = some (.lst [d, e, f, f])) (k1 : Ex K H 1 a d) (k2 : Ex K H 1 b e) (k3 : Ex K H 1 c f) : Ex K H 2 (.ref p) (.ref q) :=
  .inr (.inl ⟨p, q, _, _, rfl, rfl, .inl ⟨SqL.of h1, SqL.of h2⟩, rfl, by show 4 < 1000; decide, fun i u v hu hv => by
    rcases i with _ | _ | _ | _ | i
    · cases hu; cases hv; exact k1
    · cases hu; cases hv; exact k2
    · cases hu; cases hv; exact k3
    · cases hu; cases hv; exact k3
    · cases hu⟩)
theorem ex_two {K : PySem.W.Frag} {H : Hp} {p q : Addr} {a b c d : V} (h1 : H p = some (.lst [a, b])) (h2 : H q = some (.lst [c, d])) (k1 : Ex K H 1 a c) (k2 : Ex K H 1 b d) : Ex K H 2 (.ref p) (.ref q) :=
  .inr (.inl ⟨p, q, _, _, rfl, rfl, .inl ⟨SqL.of h1, SqL.of h2⟩, rfl, by show 2 < 1000; decide, fun i u v hu hv => by
    rcases i with _ | _ | i
    · cases hu; cases hv; exact k1
    · cases hu; cases hv; exact k2
    · cases hu⟩)
theorem ok_str {c : Str} (h : lowZ c = true) : PyData.strOk c = true := by
  unfold PyData.strOk
  rw [← Array.all_toList]
  refine List.all_eq_true.mpr fun x hx => decide_eq_true ?_
  have := ((low_parts h).2.2 x hx).2
  omega
theorem lay_strs : ∀ cs : List Str, (∀ c ∈ cs, lowZ c = true) → PyData.canLayAll0 (cs.map PyData.str) = true
  | [], _ => by simp [PyData.canLayAll0]
  | c :: cs, h => by simp [PyData.canLayAll0, PyData.canLay0, lay_strs cs (fun x hx => h x (List.mem_cons_of_mem _ hx)), ok_str (h c (List.mem_cons_self ..))]
theorem depth_strs : ∀ cs : List Str, PyData.depthAll (cs.map PyData.str) ≤ 1
  | [] => by simp [PyData.depthAll]
  | c :: cs => by
    have h := depth_strs cs
    simp only [List.map_cons, PyData.depthAll, PyData.depth]
    omega
theorem shaped_strs (cs : List Str) (h9 : ∀ c ∈ cs, lowZ c = true) : SeqAt.shaped (.list (cs.map PyData.str)) = true := by
  have h := depth_strs cs
  have h2 : PyData.depth (.list (cs.map PyData.str)) ≤ 64 := by
    simp only [PyData.depth]
    omega
  show (PyData.canLay0 (.list (cs.map PyData.str)) && decide (PyData.depth (.list (cs.map PyData.str)) ≤ 64)) = true
  rw [Bool.and_eq_true]
  exact ⟨by simp only [PyData.canLay0]; exact lay_strs cs h9, decide_eq_true h2⟩
theorem dp_strs {K : PySem.W.Frag} {H : Hp} : ∀ cs : List Str, DpAll K H (cs.map V.str) (cs.map PyData.str)
  | [] => .nil
  | c :: cs => .cons (.str c) (dp_strs cs)
theorem cl_has {K : PySem.W.Frag} {H : Hp} {a : Addr} {ys : List Str} (h : ClAt K H a ys) : hasS ys = false := by
  have e := h.2.1
  unfold clS at e
  rw [Bool.and_eq_true, Bool.not_eq_true'] at e
  exact e.2
theorem clash_nil {ys zs : List Str} (lz : ∀ z ∈ zs, litS z = true) (h : clashS ys zs = []) : clashS zs ys = [] := by
  refine List.eq_nil_iff_forall_not_mem.mpr fun z hz => ?_
  have hz2 := mem_clash.mp hz
  have m : oppS z ∈ clashS ys zs := mem_clash.mpr ⟨hz2.2, by rw [opp_opp (lz z hz2.1)]; exact hz2.1⟩
  rw [h] at m
  cases m
section
variable {P : Program} {w : World} {K : PySem.W.Frag} {mg : Str → Option Value} {base : Heap}
/-! ### _law_two_right -/
abbrev sTwo : Stmt := top 53
structure Cl2 (ys : List Str) : Prop where
  one : (ys.map bareS).Nodup
  lit : ∀ y ∈ ys, litS y = true
def spTwo (K : PySem.W.Frag) : Sp := fun vs H Q _ => ∃ (a b q : Addr) (ys zs : List Str) (ts : List Addr), vs = [.ref a, .ref b, .ref q] ∧ ClAt K H a ys ∧ ClAt K H b zs ∧ Cl2 ys ∧ Cl2 zs ∧ SqL K H q (ts.map V.ref) ∧ ts.length ≤ 1000 ∧
  (∀ t ∈ ts, ∃ ps : List Str, SqT K H t (ps.map V.str) ∧ ∀ x ∈ ps, oppS x ∉ ps) ∧ ∀ H', Same H H' → Q (.bl true) H'
theorem sc_two : FnScope ["_law_one", "_law_other", "_law_full", "_law_clash", "_law_told", "_law_place", "_law_made", "_law_part", "_law_literal"] ["_law_one", "_law_other", "_law_full"] (defScope sTwo) := ⟨rfl, rfl, rfl, by decide +kernel, rfl, by decide +kernel, by decide +kernel⟩
theorem ok_two {f fW fC fM fU fP fE fL fO fB fK : Addr} {fd fdW fdC fdM fdU fdP fdE fdL fdO fdB fdK : FuncData} (G : Fun K "_law_two_right" "_law_two_right" sTwo f fd) (T : Tts mg)
    (mW : mg "is_within" = some (.ref fW)) (kW : PySem.W.keepIn K (.ref fW) = true) (OW : FnOk P w K mg base CX0 7 fW fdW ["one", "other"] (spWithin K)) (bW : Binds K fdW ["one", "other"] []) (qW : KBinds K fdW ["one", "other"] ["other", "one"] gTwo gTwo)
    (mC : mg "common" = some (.ref fC)) (kC : PySem.W.keepIn K (.ref fC) = true) (OC : FnOk P w K mg base CX0 7 fC fdC ["one", "other"] (spCommon K)) (bC : Binds K fdC ["one", "other"] []) (qC : KBinds K fdC ["one", "other"] ["other", "one"] gTwo gTwo)
    (mM : mg "meeting" = some (.ref fM)) (kM : PySem.W.keepIn K (.ref fM) = true) (OM : FnOk P w K mg base CX0 7 fM fdM ["one", "other"] (spMeet K)) (bM : Binds K fdM ["one", "other"] []) (qM : KBinds K fdM ["one", "other"] ["other", "one"] gTwo gTwo)
    (mU : mg "united" = some (.ref fU)) (kU : PySem.W.keepIn K (.ref fU) = true) (OU : FnOk P w K mg base CX0 7 fU fdU ["one", "other"] (spUnited K)) (bU : Binds K fdU ["one", "other"] []) (qU : KBinds K fdU ["one", "other"] ["other", "one"] gTwo gTwo)
    (mP : mg "put_together" = some (.ref fP)) (kP : PySem.W.keepIn K (.ref fP) = true) (OP : FnOk P w K mg base CX0 8 fP fdP ["one", "other"] (spPut K)) (bP : Binds K fdP ["one", "other"] []) (qP : KBinds K fdP ["one", "other"] ["other", "one"] gTwo gTwo)
    (mE : mg "_law_exact" = some (.ref fE)) (kE : PySem.W.keepIn K (.ref fE) = true) (OE : FnOk P w K mg base CX0 3 fE fdE ["_law_mine", "_law_theirs"] (spExact K 2)) (bE : Binds K fdE ["_law_mine", "_law_theirs"] [])
    (mL : mg "_law_clause" = some (.ref fL)) (kL : PySem.W.keepIn K (.ref fL) = true) (OL : FnOk P w K mg base CX0 1 fL fdL ["_law_literals"] (spLCl K)) (bL : Binds K fdL ["_law_literals"] [])
    (mO : mg "_law_contrary" = some (.ref fO)) (kO : PySem.W.keepIn K (.ref fO) = true) (OO : FnOk P w K mg base CX0 1 fO fdO ["_law_literal"] (spLOne oppS)) (bO : Binds K fdO ["_law_literal"] [])
    (mB : mg "_law_bare" = some (.ref fB)) (kB : PySem.W.keepIn K (.ref fB) = true) (OB : FnOk P w K mg base CX0 1 fB fdB ["_law_literal"] (spLOne bareS)) (bB : Binds K fdB ["_law_literal"] [])
    (mK : mg "_law_kept_by" = some (.ref fK)) (kK : PySem.W.keepIn K (.ref fK) = true) (OK : FnOk P w K mg base CX0 1 fK fdK ["_law_part", "_law_clause_here"] (spLKept K)) (bK : Binds K fdK ["_law_part", "_law_clause_here"] []) : FnOk P w K mg base CX0 9 f fd ["_law_one", "_law_other", "_law_full"] (spTwo K) := by
  have sc := sc_two
  refine G.ok sc (fun vs H Q E h => ?_) (fun cdv A outer s H vs Q E hr h => ?_)
  · obtain ⟨_, _, _, _, _, _, rfl, _⟩ := h
    rfl
  · obtain ⟨a, b, q, ys, zs, ts, rfl, c1, c2, g1, g2, hq, lq, full, k⟩ := h
    have big : (100000 : Nat) < sizeLine := by decide
    have hr7 : Room 7 _ := hr.mono (by decide)
    have hr3 : Room 3 _ := hr.mono (by decide)
    have hr1 : Room 1 _ := hr.mono (by decide)
    refine ⟨_, pss_cons (ps_set (i := 3) sc.nd rfl (Or.inl rfl) (pe_callB cr_sortedS (by rfl) T.sorted (by decide +kernel) (pa_cons (pe_lc (own := [("_law_literal", 8)]) (g := gName 8) (tt := tTest (tOp (rIn K false) (tCall (spLOne oppS) [] E0 (tCons (tVar 8) tNil)) (tVar 1))) rfl sc.nd (pi_sq (pv 0)) (blkOk_by (N := ["_law_one", "_law_other", "_law_full", "_law_clash", "_law_told", "_law_place", "_law_made", "_law_part", "_law_literal"]) (sc := defScope sTwo) (by decide +kernel)) (fun _ _ _ _ _ => pg_name (i := 8) sc.nd rfl (Or.inl rfl)) (fun _ _ _ _ _ => pts_one (pt_cmpR op_in_seq (pe_call OO hr1 rfl mO kO bO .nil pass0 (pa_cons (pv 8) pa_nil)) (pv 1) (by rfl))) (fun _ _ _ _ _ => (pe_call OB hr1 rfl mB kB bB .nil pass0 (pa_cons (pv 8) pa_nil)))) pa_nil)))
      (pss_cons (ps_set (i := 4) sc.nd rfl (Or.inl rfl) (pe_lst (pa_cons (pe_callK0 OW hr7 (by rfl) mW kW qW pass0 (pk_cons (pv 1) (pk_cons (pv 0) pk_nil))) (pa_cons (pe_callK0 OC hr7 (by rfl) mC kC qC pass0 (pk_cons (pv 1) (pk_cons (pv 0) pk_nil))) (pa_cons (pe_callK0 OM hr7 (by rfl) mM kM qM pass0 (pk_cons (pv 1) (pk_cons (pv 0) pk_nil))) (pa_cons (pe_call OM hr7 rfl mM kM bM .nil pass0 (pa_cons (pv 1) (pa_cons (pv 0) pa_nil))) pa_nil))))))
      (pss_cons (ps_set (i := 5) sc.nd rfl (Or.inr rfl) (pe_ifExp (pt_cmpR op_eq (pe_callB call_len_seq (by rfl) T.len boot_len (pa_cons (pv 3) pa_nil)) pe_int (nomark _)) (pe_ix ix_list (pv 3) pe_int (fun _ _ => rfl)) pe_non))
      (pss_cons (ps_if (pt_not (pt_val (pe_call OE hr3 rfl mE kE bE .nil pass0 (pa_cons (pv 4) (pa_cons (pe_lst (pa_cons (pe_callB (cr_all rfl) (by rfl) T.all (by decide +kernel) (pa_cons (pe_lc (own := [("_law_literal", 8)]) (g := gName 8) (tt := tYes) (te := tOp (rIn K false) (tVar 8) (tVar 1)) rfl sc.nd (pi_sq (pv 0)) (blkOk_by (N := ["_law_one", "_law_other", "_law_full", "_law_clash", "_law_told", "_law_place", "_law_made", "_law_part", "_law_literal"]) (sc := defScope sTwo) (by decide +kernel)) (fun _ _ _ _ _ => pg_name (i := 8) sc.nd rfl (Or.inl rfl)) (fun _ _ _ _ _ => pts_nil) (fun _ _ _ _ _ => pe_cmpR op_in_seq (pv 8) (pv 1) (by rfl))) pa_nil)) (pa_cons (pe_call OL hr1 rfl mL kL bL .nil pass0 (pa_cons (pe_lc (own := [("_law_literal", 8)]) (g := gName 8) (tt := tTest (tOp (rIn K false) (tVar 8) (tVar 1))) rfl sc.nd (pi_sq (pv 0)) (blkOk_by (N := ["_law_one", "_law_other", "_law_full", "_law_clash", "_law_told", "_law_place", "_law_made", "_law_part", "_law_literal"]) (sc := defScope sTwo) (by decide +kernel)) (fun _ _ _ _ _ => pg_name (i := 8) sc.nd rfl (Or.inl rfl)) (fun _ _ _ _ _ => pts_one (pt_cmpR op_in_seq (pv 8) (pv 1) (by rfl))) (fun _ _ _ _ _ => pv 8)) pa_nil)) (pa_cons (pv 5) (pa_cons (pv 5) pa_nil))))) pa_nil))))) (pss_one (ps_ret pe_bl)) pss_nil)
      (pss_cons (ps_if (PW.pt (pw_and (pt_cmpR (op_eqD hr.units) (pv 3) (pe_lst pa_nil) (nomark _)) (pw_and1 (pt_not (pt_val (pe_call OE hr3 rfl mE kE bE .nil pass0 (pa_cons (pe_lst (pa_cons (pe_callK0 OU hr7 (by rfl) mU kU qU pass0 (pk_cons (pv 1) (pk_cons (pv 0) pk_nil))) (pa_cons (pe_call OU hr7 rfl mU kU bU .nil pass0 (pa_cons (pv 1) (pa_cons (pv 0) pa_nil))) pa_nil))) (pa_cons (pe_lst (pa_cons (pe_call OL hr1 rfl mL kL bL .nil pass0 (pa_cons (pe_op op_catA (pv 0) (pv 1)) pa_nil)) (pa_cons (pe_call OL hr1 rfl mL kL bL .nil pass0 (pa_cons (pe_op op_catA (pv 0) (pv 1)) pa_nil)) pa_nil))) pa_nil)))))))) (pss_one (ps_ret pe_bl)) pss_nil)
      (pss_cons (ps_if (pt_cmpR op_isN (pv 5) pe_non (nomark _)) (pss_one (ps_ret pe_bl)) pss_nil)
      (pss_cons (ps_set (i := 6) sc.nd rfl (Or.inl rfl) (pe_callK0 OP hr (by rfl) mP kP qP pass0 (pk_cons (pv 1) (pk_cons (pv 0) pk_nil))))
      (pss_cons (ps_if (pt_not (pt_val (pe_call OE hr3 rfl mE kE bE .nil pass0 (pa_cons (pe_lst (pa_cons (pv 6) (pa_cons (pe_call OP hr rfl mP kP bP .nil pass0 (pa_cons (pv 1) (pa_cons (pv 0) pa_nil))) pa_nil))) (pa_cons (pe_op op_rep (pe_lst (pa_cons (pe_call OL hr1 rfl mL kL bL .nil pass0 (pa_cons (pe_lc (own := [("_law_literal", 8)]) (g := gName 8) (tt := tTest (tOp rNe (tCall (spLOne bareS) [] E0 (tCons (tVar 8) tNil)) (tVar 5))) rfl sc.nd (pi_tup (pe_op op_catA (pv 0) (pv 1))) (blkOk_by (N := ["_law_one", "_law_other", "_law_full", "_law_clash", "_law_told", "_law_place", "_law_made", "_law_part", "_law_literal"]) (sc := defScope sTwo) (by decide +kernel)) (fun _ _ _ _ _ => pg_name (i := 8) sc.nd rfl (Or.inl rfl)) (fun _ _ _ _ _ => pts_one (pt_cmpR op_ne (pe_call OB hr1 rfl mB kB bB .nil pass0 (pa_cons (pv 8) pa_nil)) (pv 5) (nomark _))) (fun _ _ _ _ _ => pv 8)) pa_nil)) pa_nil)) pe_int) pa_nil))))) (pss_one (ps_ret pe_bl)) pss_nil)
      (pss_cons (ps_for PassesOwn.never rfl (pi_list (pv 2)) (pg_name (i := 7) sc.nd rfl (Or.inl rfl)) (pss_one (ps_if (PW.pt (pw_and (pt_val (pe_call OK hr1 rfl mK kK bK .nil pass0 (pa_cons (pv 7) (pa_cons (pv 0) pa_nil)))) (pw_and (pt_val (pe_call OK hr1 rfl mK kK bK .nil pass0 (pa_cons (pv 7) (pa_cons (pv 1) pa_nil)))) (pw_and1 (pt_not (pt_val (pe_call OK hr1 rfl mK kK bK .nil pass0 (pa_cons (pv 7) (pa_cons (pv 6) pa_nil))))))))) (pss_one (ps_ret pe_bl)) pss_nil)))
      (pss_one (ps_ret pe_bl)))))))))) , ?_⟩
    have l1 := c1.2.2
    have l2 := c2.2.2
    have nys : ys.Nodup := nodup_of_map bareS g1.one
    have nzs : zs.Nodup := nodup_of_map bareS g2.one
    dsimp only [tSeq, tAsg, tRet, tCB, tCons, tNil, tCall, tNext, tLst]
    refine seq_lc (fun x => if inV (match x with | .str z => .str (oppS z) | x => x) (zs.map V.str) = true then some (match x with | .str z => .str (bareS z) | x => x) else none) rfl (.inr c1.1) (by rw [List.length_map]; omega) (fun x H2 Ψ Θ hx s2 yes no => ?_) (fun H2 D s2 nD h2 => ?_)
    · obtain ⟨y, hy, rfl⟩ := List.mem_map.mp hx
      have p1 := lit_pos (g1.lit y hy)
      have p9 := lit_short (g1.lit y hy)
      walk_at "go"
      refine ⟨b, _, rfl, .inr (sqT_same c2.1 s2), rfl, flat_strs zs, ?_⟩
      refine ⟨_, rfl, ?_⟩
      by_cases c : inV (.str (oppS y)) (zs.map V.str) = true
      · simp only [Bool.false_eq_true, if_false]
        rw [if_pos c]
        exact ⟨_, rfl, y, rfl, p1, p9, yes _ H2 (if_pos c) (same_refl _)⟩
      · simp only [Bool.false_eq_true, if_false]
        rw [if_neg c]
        exact no H2 (if_neg c) (same_refl _)
    · have e : (ys.map V.str).filterMap (fun x => if inV (match x with | .str z => .str (oppS z) | x => x) (zs.map V.str) = true then some (match x with | .str z => .str (bareS z) | x => x) else none) = ((clashS ys zs).map bareS).map V.str := by
        unfold clashS
        rw [List.filterMap_map, List.map_map, ← filt_fm]
        refine fm_congr fun y _ => ?_
        show (if inV (.str (oppS y)) (zs.map V.str) = true then some (V.str (bareS y)) else none) = _
        rw [inV_strs]
        rfl
      rw [e] at h2
      have lc : (clashS ys zs).length ≤ ys.length := List.length_filter_le ..
      refine ⟨D, _, rfl, SqL.of h2, by rw [List.length_map]; omega, fun cs c pm so nc => ?_⟩
      have s3 := same_trans s2 (same_new (o := .lst (cs.map V.str)) nc)
      have hc : upd H2 c (.lst (cs.map V.str)) c = some (.lst (cs.map V.str)) := upd_same
      generalize upd H2 c (.lst (cs.map V.str)) = H3 at s3 hc
      refine ⟨_, rfl, _, rfl, a, b, ys, zs, rfl, c1.same s3, c2.same s3, fun H4 s4 => ?_⟩
      have s14 := same_trans s3 s4
      refine ⟨_, rfl, _, rfl, a, b, ys, zs, rfl, c1.same s14, c2.same s14, fun H5 t1 s5 n1 h1 => ?_⟩
      have s15 := same_trans s14 s5
      refine ⟨_, rfl, _, rfl, a, b, ys, zs, rfl, c1.same s15, c2.same s15, fun H6 s6 => ?_⟩
      have s16 := same_trans s15 s6
      refine ⟨_, rfl, _, rfl, b, a, zs, ys, rfl, c2.same s16, c1.same s16, fun H7 s7 => ?_⟩
      have s17 := same_trans s16 s7
      rw [meet_sym nys nzs g1.lit g2.lit]
      refine ⟨(by show 4 ≤ sizeLine; decide), fun told nt => ?_⟩
      have h1b := same_trans s6 s7 _ _ h1
      have hcb := same_trans s4 (same_trans s5 (same_trans s6 s7)) _ _ hc
      have s18 := same_trans s17 (same_new (o := .lst [.bl (ys.all fun y => decide (y ∈ zs)), .ref t1, meetV ys zs, meetV ys zs]) nt)
      have h1d := same_new (o := .lst [.bl (ys.all fun y => decide (y ∈ zs)), .ref t1, meetV ys zs, meetV ys zs]) nt _ _ h1b
      have hcd := same_new (o := .lst [.bl (ys.all fun y => decide (y ∈ zs)), .ref t1, meetV ys zs, meetV ys zs]) nt _ _ hcb
      have htold : upd H7 told (.lst [.bl (ys.all fun y => decide (y ∈ zs)), .ref t1, meetV ys zs, meetV ys zs]) told = some (.lst [.bl (ys.all fun y => decide (y ∈ zs)), .ref t1, meetV ys zs, meetV ys zs]) := upd_same
      generalize upd H7 told (.lst [.bl (ys.all fun y => decide (y ∈ zs)), .ref t1, meetV ys zs, meetV ys zs]) = H8 at s18 h1d hcd htold
      refine ⟨_, rfl, c, _, rfl, .inl (SqL.of hcd), ?_⟩
      refine ⟨rfl, _, rfl, ?_⟩
      have cs9 : ∀ c ∈ cs, lowZ c = true := fun x hx => by
        obtain ⟨y, hy, rfl⟩ := List.mem_map.mp (pm.mem_iff.mp hx)
        exact g1.lit y (mem_clash.mp hy).1
      rcases cases_em pm with ⟨y0, ec, rfl, em⟩ | ⟨em, nl⟩
      · rw [decide_eq_true (show V.int ((([bareS y0].map V.str).length : Nat) : Int) = V.int 1 from rfl)]
        refine iteT ?_
        refine ⟨_, rfl, c, _, 0, .str (bareS y0), rfl, rfl, SqL.of hcd, atI_nat (j := 0) rfl, ?_⟩
        refine ⟨_, rfl, ?_⟩
        dsimp only [tSeq, tAsg, tRet, tCB, tCons, tNil, tCall, tNext, tLst]
        refine seq_lc (fun x => some (.bl (inV x (zs.map V.str)))) rfl (.inr (sqT_same c1.1 s18)) (by rw [List.length_map]; omega) (fun x H2 Ψ Θ hx sX yes no => ?_) (fun H9 D9 s9 n9 h9 => ?_)
        · obtain ⟨y, hy, rfl⟩ := List.mem_map.mp hx
          walk_at "go"
          exact ⟨b, _, rfl, .inr (sqT_same c2.1 (same_trans s18 sX)), rfl, flat_strs zs, yes _ _ rfl (same_refl _)⟩
        · have s19 := same_trans s18 s9
          refine all_done (xs := ys) (b := fun y => decide (y ∈ zs)) (by
            rw [h9, fm_some, fm_some, List.map_map]
            congr 2
            exact List.map_congr_left fun y _ => by
              show V.bl (inV (.str y) (zs.map V.str)) = _
              rw [inV_strs]) ?_
          refine seq_lc (fun x => if inV x (zs.map V.str) = true then some x else none) rfl (.inr (sqT_same c1.1 s19)) (by rw [List.length_map]; omega) (fun x H2 Ψ Θ hx sX yes no => ?_) (fun H10 D10 s10 n10 h10 => ?_)
          · obtain ⟨y, hy, rfl⟩ := List.mem_map.mp hx
            walk_at "go"
            refine ⟨b, _, rfl, .inr (sqT_same c2.1 (same_trans s19 sX)), rfl, flat_strs zs, ?_⟩
            refine ⟨_, rfl, ?_⟩
            by_cases c : inV (.str y) (zs.map V.str) = true
            · simp only [Bool.false_eq_true, if_false]
              rw [if_pos c]
              exact ⟨_, rfl, yes _ _ (if_pos c) (same_refl _)⟩
            · simp only [Bool.false_eq_true, if_false]
              rw [if_neg c]
              exact no _ (if_neg c) (same_refl _)
          · have e : (ys.map V.str).filterMap (fun x => if inV x (zs.map V.str) = true then some x else none) = (ys.filter fun y => decide (y ∈ zs)).map V.str := by
              rw [List.filterMap_map, ← filt_fm]
              refine fm_congr fun y _ => ?_
              show (if inV (.str y) (zs.map V.str) = true then some (V.str y) else none) = _
              rw [inV_strs]
            rw [e] at h10
            have lf : (ys.filter fun y => decide (y ∈ zs)).length ≤ ys.length := List.length_filter_le ..
            have s20 := same_trans s19 s10
            refine ⟨D10, _, rfl, .inl (SqL.of h10), by omega, fun H11 t2 rs s11 n2 h2' io => ?_⟩
            have s21 := same_trans s20 s11
            have ers : rs = ys.filter fun y => decide (y ∈ zs) := pw_uniq io.pw ((pwc c1).sublist List.filter_sublist) io.mem
            subst ers
            refine ⟨_, rfl, _, rfl, ?_⟩
            refine ⟨(by show 4 ≤ sizeLine; decide), fun due nd => ?_⟩
            have sd := same_new (o := .lst [.bl (ys.all fun y => decide (y ∈ zs)), .ref t2, V.str (bareS y0), V.str (bareS y0)]) nd
            have s8d := same_trans s9 (same_trans s10 (same_trans s11 sd))
            have ex1 : Ex K (upd H11 due (.lst [.bl (ys.all fun y => decide (y ∈ zs)), .ref t2, V.str (bareS y0), V.str (bareS y0)])) 2 (.ref told) (.ref due) := ex_four (s8d _ _ htold) upd_same (Ex.leaf (.bl _) 1) (ex_strs (SqT.of (s8d _ _ h1d)) (SqT.of (sd _ _ h2')) (by omega)) (by rw [em]; exact Ex.leaf (.str (bareS y0)) 1)
            refine ⟨.ref told, .ref due, rfl, ex1, fun H12 s12 => ⟨_, rfl, iteF ?_⟩⟩
            have s22 := same_trans s21 (same_trans sd s12)
            have hcz := same_trans s8d s12 _ _ hcd
            refine ⟨_, rfl, Nat.zero_le _, fun e ne => ?_⟩
            have s23 := same_trans s22 (same_new (o := .lst []) ne)
            refine ⟨.list ([bareS y0].map PyData.str), .list [], .lst (SqL.of ((upd_ne (ne_of_none hcz ne)).trans hcz)) (dp_strs _), .lst (SqL.of upd_same) .nil, shaped_strs _ cs9, shaped_strs [] (fun _ h => by cases h), ?_⟩
            refine ⟨_, rfl, iteF ?_⟩
            refine ⟨_, rfl, rfl, _, rfl, iteF ?_⟩
            refine ⟨_, rfl, _, rfl, a, b, ys, zs, bareS y0, rfl, c1.same s23, c2.same s23, em, fun H13 pm1 rs1 s13 n13 h13 io1 => ?_⟩
            have s24 := same_trans s23 s13
            refine ⟨_, rfl, _, rfl, _, rfl, b, a, zs, ys, bareS y0, rfl, c2.same s24, c1.same s24, (meet_sym nys nzs g1.lit g2.lit).trans em, fun H14 pm2 rs2 s14 n14 h14 io2 => ?_⟩
            have s25 := same_trans s24 s14
            refine ⟨(by show 2 ≤ sizeLine; decide), fun l3 nl3 => ?_⟩
            have s26 := same_trans s25 (same_new (o := .lst [.ref pm1, .ref pm2]) nl3)
            have hl3 : upd H14 l3 (.lst [.ref pm1, .ref pm2]) l3 = some (.lst [.ref pm1, .ref pm2]) := upd_same
            have hp1 := (same_new (o := .lst [.ref pm1, .ref pm2]) nl3) _ _ (s14 _ _ h13)
            have hp2 := (same_new (o := .lst [.ref pm1, .ref pm2]) nl3) _ _ h14
            generalize upd H14 l3 (.lst [.ref pm1, .ref pm2]) = H15 at s26 hl3 hp1 hp2
            dsimp only [tSeq, tAsg, tRet, tCB, tCons, tNil, tCall, tNext, tLst, tOp]
            refine ⟨_, rfl, _, rfl, cat_any (sqT_same c1.1 s26) (sqT_same c2.1 s26) (by rw [List.length_map, List.length_map]; omega) fun H16 q1 s16 hq1 => ?_⟩
            rw [← List.map_append] at hq1
            have s27 := same_trans s26 s16
            refine ⟨q1, rfl, ⟨_, hq1⟩, fun D16 nD16 => ?_⟩
            refine tupD (fun x => if (match x with | .str z => !decide (bareS z = bareS y0) | _ => true) = true then some x else none) hq1 (by rw [List.length_map, List.length_append]; omega) nD16 (fun x H17 Ψ Θ hx s17 yes no => ?_) (fun H17 s17 h17 => ?_)
            · obtain ⟨y, hy, rfl⟩ := List.mem_map.mp hx
              have ly : litS y = true := (List.mem_append.mp hy).elim (g1.lit y) (g2.lit y)
              have p1 := lit_pos ly
              have p9 := lit_short ly
              walk_at "go"
              have e0 : decide (V.str (bareS y) = V.str (bareS y0)) = decide (bareS y = bareS y0) := by
                by_cases c : bareS y = bareS y0
                · rw [decide_eq_true c, c, decide_eq_true rfl]
                · rw [decide_eq_false c, decide_eq_false fun z => c (by injection z)]
              rw [e0]
              by_cases c : (!decide (bareS y = bareS y0)) = true
              · have q := yes (.str y) H17 (if_pos c) (same_refl _)
                rw [c]
                exact iteT ⟨_, rfl, q⟩
              · have q := no H17 (if_neg c) (same_refl _)
                rw [Bool.eq_false_iff.mpr c]
                exact iteF q
            · have e17 : ((ys ++ zs).map V.str).filterMap (fun x => if (match x with | .str z => !decide (bareS z = bareS y0) | _ => true) = true then some x else none) = ((ys ++ zs).filter fun y => !decide (bareS y = bareS y0)).map V.str := by
                rw [List.filterMap_map, ← filt_fm]
                rfl
              rw [e17] at h17
              have s28 := same_trans s27 s17
              refine ⟨D16, _, rfl, .inl (SqL.of h17), Nat.lt_of_le_of_lt (List.length_filter_le ..) (by rw [List.length_append]; omega), fun H18 m3 rs3 s18' n18 h18 io3 => ?_⟩
              refine ⟨(by show 1 ≤ sizeLine; decide), fun l4 nl4 => ?_⟩
              have sl4 := same_new (o := .lst [.ref m3]) nl4
              refine ⟨l4, 2, _, rfl, rfl, upd_same, by decide, by decide, (by show 1 * 2 ≤ sizeLine; decide), fun l5 nl5 => ?_⟩
              have sl5 := same_new (o := .lst ((List.replicate (2 : Int).toNat [V.ref m3]).flatten)) nl5
              have e31 : rs3 = rs1 := io3.uniq io1 fun _ => Iff.rfl
              have e32 : rs3 = rs2 := io3.uniq io2 fun y => by
                rw [List.mem_filter, List.mem_filter, List.mem_append, List.mem_append]
                exact and_congr_left fun _ => Or.comm
              have lr3 := io3.le
              have lf3 : ((ys ++ zs).filter fun y => !decide (bareS y = bareS y0)).length ≤ (ys ++ zs).length := List.length_filter_le ..
              rw [List.length_append] at lf3
              rw [← e31] at hp1
              rw [← e32] at hp2
              have s15z := same_trans s16 (same_trans s17 (same_trans s18' (same_trans sl4 sl5)))
              have hm3 := same_trans sl4 sl5 _ _ h18
              refine ⟨.ref l3, .ref l5, rfl, ex_two (s15z _ _ hl3) upd_same (ex_strs (SqT.of (s15z _ _ hp1)) (SqT.of hm3) (by omega)) (ex_strs (SqT.of (s15z _ _ hp2)) (SqT.of hm3) (by omega)), fun H20 s20' => ⟨_, rfl, iteF ?_⟩⟩
              have s29 := same_trans s28 (same_trans s18' (same_trans sl4 (same_trans sl5 s20')))
              have hmade : H20 pm1 = some (.tup (rs1.map V.str)) := by
                rw [← e31]
                exact same_trans s15z s20' _ _ hp1
              refine ⟨_, rfl, q, rfl, ⟨_, sqL_same hq s29⟩, ?_⟩
              have keep : ∀ ps : List Str, (∀ x ∈ ps, oppS x ∉ ps) → (ys.any fun y => decide (y ∈ ps)) = true → (zs.any fun y => decide (y ∈ ps)) = true → (rs1.any fun y => decide (y ∈ ps)) = true := fun ps cons k1 k2 => by
                obtain ⟨x1, m1, d1⟩ := List.any_eq_true.mp k1
                obtain ⟨x2, m2, d2⟩ := List.any_eq_true.mp k2
                obtain ⟨x, mx, px⟩ := kept_put g1.one g2.one g1.lit g2.lit cons ec ⟨x1, m1, of_decide_eq_true d1⟩ ⟨x2, m2, of_decide_eq_true d2⟩
                exact List.any_eq_true.mpr ⟨x, (io1.mem x).mpr mx, decide_eq_true px⟩
              have lr1 : rs1.length < 1000 := by
                rw [← e31]
                omega
              refine for_list (xs := ts.map V.ref) (fun i σ Hc => Same H20 Hc ∧ ∃ v : Option V, σ = [some (.ref a), some (.ref b), some (.ref q), some (.ref c), some (.ref told), some (.str (bareS y0)), some (.ref pm1), v, none]) ⟨same_refl _, none, rfl⟩ (fun i σ Hc hi h => sqL_same hq (same_trans s29 h.1)) ?_ ?_
              · rintro i x σ Hc hx ⟨sm, v, rfl⟩
                obtain ⟨t, ht, rfl⟩ := List.mem_map.mp (List.mem_of_getElem? hx)
                obtain ⟨ps, hps, cons⟩ := full t ht
                have sz := same_trans s29 sm
                refine ⟨_, rfl, _, rfl, t, a, ps, ys, rfl, .inr (sqT_same hps sz), .inr (sqT_same c1.1 sz), by omega, fun Ha sa => ⟨_, rfl, ?_⟩⟩
                by_cases k1 : (ys.any fun y => decide (y ∈ ps)) = true
                · rw [k1]
                  have sza := same_trans sz sa
                  refine iteT ⟨_, rfl, _, rfl, t, b, ps, zs, rfl, .inr (sqT_same hps sza), .inr (sqT_same c2.1 sza), by omega, fun Hb sb => ⟨_, rfl, ?_⟩⟩
                  by_cases k2 : (zs.any fun y => decide (y ∈ ps)) = true
                  · rw [k2]
                    have szb := same_trans sza sb
                    refine iteT ⟨_, rfl, _, rfl, t, pm1, ps, rs1, rfl, .inr (sqT_same hps szb), .inr (SqT.of (same_trans sm (same_trans sa sb) _ _ hmade)), by omega, fun Hd sd2 => ⟨_, rfl, ?_⟩⟩
                    rw [keep ps cons k1 k2]
                    exact iteF ⟨same_trans sm (same_trans sa (same_trans sb sd2)), _, rfl⟩
                  · rw [Bool.eq_false_iff.mpr k2]
                    exact iteF (iteF ⟨same_trans sm (same_trans sa sb), _, rfl⟩)
                · rw [Bool.eq_false_iff.mpr k1]
                  exact iteF (iteF ⟨same_trans sm sa, _, rfl⟩)
              · rintro σ Hc ⟨sm, v, rfl⟩
                exact k Hc (same_trans s29 sm)
      · rw [decide_eq_false (show ¬ V.int (((cs.map V.str).length : Nat) : Int) = V.int 1 from fun z => nl (by
          injection z with z
          rw [List.length_map] at z
          omega))]
        refine iteF ?_
        refine ⟨_, rfl, ?_⟩
        dsimp only [tSeq, tAsg, tRet, tCB, tCons, tNil, tCall, tNext, tLst]
        refine seq_lc (fun x => some (.bl (inV x (zs.map V.str)))) rfl (.inr (sqT_same c1.1 s18)) (by rw [List.length_map]; omega) (fun x H2 Ψ Θ hx sX yes no => ?_) (fun H9 D9 s9 n9 h9 => ?_)
        · obtain ⟨y, hy, rfl⟩ := List.mem_map.mp hx
          walk_at "go"
          exact ⟨b, _, rfl, .inr (sqT_same c2.1 (same_trans s18 sX)), rfl, flat_strs zs, yes _ _ rfl (same_refl _)⟩
        · have s19 := same_trans s18 s9
          refine all_done (xs := ys) (b := fun y => decide (y ∈ zs)) (by
            rw [h9, fm_some, fm_some, List.map_map]
            congr 2
            exact List.map_congr_left fun y _ => by
              show V.bl (inV (.str y) (zs.map V.str)) = _
              rw [inV_strs]) ?_
          refine seq_lc (fun x => if inV x (zs.map V.str) = true then some x else none) rfl (.inr (sqT_same c1.1 s19)) (by rw [List.length_map]; omega) (fun x H2 Ψ Θ hx sX yes no => ?_) (fun H10 D10 s10 n10 h10 => ?_)
          · obtain ⟨y, hy, rfl⟩ := List.mem_map.mp hx
            walk_at "go"
            refine ⟨b, _, rfl, .inr (sqT_same c2.1 (same_trans s19 sX)), rfl, flat_strs zs, ?_⟩
            refine ⟨_, rfl, ?_⟩
            by_cases c : inV (.str y) (zs.map V.str) = true
            · simp only [Bool.false_eq_true, if_false]
              rw [if_pos c]
              exact ⟨_, rfl, yes _ _ (if_pos c) (same_refl _)⟩
            · simp only [Bool.false_eq_true, if_false]
              rw [if_neg c]
              exact no _ (if_neg c) (same_refl _)
          · have e : (ys.map V.str).filterMap (fun x => if inV x (zs.map V.str) = true then some x else none) = (ys.filter fun y => decide (y ∈ zs)).map V.str := by
              rw [List.filterMap_map, ← filt_fm]
              refine fm_congr fun y _ => ?_
              show (if inV (.str y) (zs.map V.str) = true then some (V.str y) else none) = _
              rw [inV_strs]
            rw [e] at h10
            have lf : (ys.filter fun y => decide (y ∈ zs)).length ≤ ys.length := List.length_filter_le ..
            have s20 := same_trans s19 s10
            refine ⟨D10, _, rfl, .inl (SqL.of h10), by omega, fun H11 t2 rs s11 n2 h2' io => ?_⟩
            have s21 := same_trans s20 s11
            have ers : rs = ys.filter fun y => decide (y ∈ zs) := pw_uniq io.pw ((pwc c1).sublist List.filter_sublist) io.mem
            subst ers
            refine ⟨_, rfl, _, rfl, ?_⟩
            refine ⟨(by show 4 ≤ sizeLine; decide), fun due nd => ?_⟩
            have sd := same_new (o := .lst [.bl (ys.all fun y => decide (y ∈ zs)), .ref t2, V.non, V.non]) nd
            have s8d := same_trans s9 (same_trans s10 (same_trans s11 sd))
            have ex1 : Ex K (upd H11 due (.lst [.bl (ys.all fun y => decide (y ∈ zs)), .ref t2, V.non, V.non])) 2 (.ref told) (.ref due) := ex_four (s8d _ _ htold) upd_same (Ex.leaf (.bl _) 1) (ex_strs (SqT.of (s8d _ _ h1d)) (SqT.of (sd _ _ h2')) (by omega)) (by rw [em]; exact Ex.leaf .non 1)
            refine ⟨.ref told, .ref due, rfl, ex1, fun H12 s12 => ⟨_, rfl, iteF ?_⟩⟩
            have s22 := same_trans s21 (same_trans sd s12)
            have hcz := same_trans s8d s12 _ _ hcd
            refine ⟨_, rfl, Nat.zero_le _, fun e ne => ?_⟩
            have s23 := same_trans s22 (same_new (o := .lst []) ne)
            refine ⟨.list (cs.map PyData.str), .list [], .lst (SqL.of ((upd_ne (ne_of_none hcz ne)).trans hcz)) (dp_strs _), .lst (SqL.of upd_same) .nil, shaped_strs _ cs9, shaped_strs [] (fun _ h => by cases h), ?_⟩
            refine ⟨_, rfl, ?_⟩
            by_cases ecs : cs = []
            · subst ecs
              have ec : clashS ys zs = [] := by
                have := pm.length_eq
                rw [List.length_nil, List.length_map] at this
                exact List.eq_nil_of_length_eq_zero this.symm
              refine iteT ?_
              have hy0 : hasS ys = false := cl_has c1
              have hz0 : hasS zs = false := cl_has c2
              have ec2 : clashS zs ys = [] := clash_nil g2.lit ec
              refine ⟨_, rfl, _, rfl, a, b, ys, zs, rfl, c1.same s23, c2.same s23, has_both hy0 hz0 g1.lit g2.lit ec, fun H13 u1 rs1 s13 n13 h13 io1 => ?_⟩
              have s24 := same_trans s23 s13
              refine ⟨_, rfl, _, rfl, b, a, zs, ys, rfl, c2.same s24, c1.same s24, has_both hz0 hy0 g2.lit g1.lit ec2, fun H14 u2 rs2 s14 n14 h14 io2 => ?_⟩
              have s25 := same_trans s24 s14
              refine ⟨(by show 2 ≤ sizeLine; decide), fun l3 nl3 => ?_⟩
              have s26 := same_trans s25 (same_new (o := .lst [.ref u1, .ref u2]) nl3)
              have hl3 : upd H14 l3 (.lst [.ref u1, .ref u2]) l3 = some (.lst [.ref u1, .ref u2]) := upd_same
              have hu1 := (same_new (o := .lst [.ref u1, .ref u2]) nl3) _ _ (s14 _ _ h13)
              have hu2 := (same_new (o := .lst [.ref u1, .ref u2]) nl3) _ _ h14
              generalize upd H14 l3 (.lst [.ref u1, .ref u2]) = H15 at s26 hl3 hu1 hu2
              refine ⟨_, rfl, _, rfl, cat_any (sqT_same c1.1 s26) (sqT_same c2.1 s26) (by rw [List.length_map, List.length_map]; omega) fun H16 q1 s16 hq1 => ?_⟩
              refine ⟨q1, ys ++ zs, rfl, .inr (by rw [List.map_append]; exact hq1), by rw [List.length_append]; omega, fun H17 v1 rs3 s17 n17 h17 io3 => ?_⟩
              have s27 := same_trans s26 (same_trans s16 s17)
              refine ⟨_, rfl, _, rfl, cat_any (sqT_same c1.1 s27) (sqT_same c2.1 s27) (by rw [List.length_map, List.length_map]; omega) fun H18 q2 s18' hq2 => ?_⟩
              refine ⟨q2, ys ++ zs, rfl, .inr (by rw [List.map_append]; exact hq2), by rw [List.length_append]; omega, fun H19 v2 rs4 s19' n19 h19 io4 => ?_⟩
              have s28 := same_trans s27 (same_trans s18' s19')
              refine ⟨(by show 2 ≤ sizeLine; decide), fun l4 nl4 => ?_⟩
              have sl4 := same_new (o := .lst [.ref v1, .ref v2]) nl4
              have s15z := same_trans s16 (same_trans s17 (same_trans s18' (same_trans s19' sl4)))
              have e31 : rs3 = rs1 := io3.uniq io1 fun _ => Iff.rfl
              have e41 : rs4 = rs2 := io4.uniq io2 fun y => by rw [List.mem_append, List.mem_append]; exact Or.comm
              subst e31
              subst e41
              have lr1 := io1.le
              have lr2 := io2.le
              rw [List.length_append] at lr1 lr2
              refine ⟨.ref l3, .ref l4, rfl, ex_two (s15z _ _ hl3) upd_same (ex_strs (SqT.of (s15z _ _ hu1)) (SqT.of (same_trans s18' (same_trans s19' sl4) _ _ h17)) (by omega)) (ex_strs (SqT.of (s15z _ _ hu2)) (SqT.of (sl4 _ _ h19)) (by omega)), fun H20 s20' => ⟨_, rfl, iteF ?_⟩⟩
              exact ⟨_, rfl, rfl, _, rfl, iteT (k H20 (same_trans s28 (same_trans sl4 s20')))⟩
            · cases cs with
              | nil => exact absurd rfl ecs
              | cons x r =>
                refine iteF ?_
                exact ⟨_, rfl, rfl, _, rfl, iteT (k _ s23)⟩
end
end My
end

section
set_option Elab.async false
set_option linter.all false
set_option maxRecDepth 100000
set_option maxHeartbeats 4000000
namespace My
local macro_rules | `(tactic| walk_at "go") => `(tactic| (repeat (first
  | (refine ⟨_, rfl, ?_⟩)
  | (refine ⟨_, _, rfl, rfl, ?_⟩)
  | (refine ⟨_, _, rfl, ?_⟩)
  | (refine ⟨rfl, ?_⟩)
  | (refine Or.inl ⟨_, rfl, ?_⟩)
  | (refine ⟨_, _, _, _, rfl, rfl, L2.SqL.of (by first | assumption | exact L2.upd_same), rfl, ?_⟩)
  | (refine ⟨_, _, _, _, rfl, rfl, (by first | assumption | exact L2.upd_same), rfl, ?_⟩)
  | (refine And.intro (by first | omega | decide | (unfold L2.CPow; decide) | (unfold L2.CMul; omega) | (unfold L2.CDiv; omega)) ?_))))
open PySem PySem.Spec PyProof.Rows L2 TL MyF MyS MyW MyT MyQ MyV RZ
theorem perm_strs {ys : List V} {ns : List Str} (pm : ys.Perm (ns.map V.str)) : ∃ zs : List Str, ys = zs.map V.str ∧ zs.Perm ns := by
  have go : ∀ l : List V, (∀ x ∈ l, ∃ z, x = V.str z) → l = (strsV l).map V.str := by
    intro l
    induction l with
    | nil => intro _; rfl
    | cons x l ih =>
      intro h
      obtain ⟨z, rfl⟩ := h x (List.mem_cons_self ..)
      have e := ih fun y hy => h y (List.mem_cons_of_mem _ hy)
      show V.str z :: l = V.str z :: (strsV l).map V.str
      rw [← e]
  have e := go ys fun x hx => by
    obtain ⟨z, _, e⟩ := List.mem_map.mp (pm.mem_iff.mp hx)
    exact ⟨z, e.symm⟩
  refine ⟨strsV ys, e, ?_⟩
  have q : (strsV ys).Perm (strsV (ns.map V.str)) := pm.filterMap _
  rw [strsV_map] at q
  exact q
theorem has_mem {xs ys : List Str} (m : ∀ y, y ∈ xs ↔ y ∈ ys) (h : hasS ys = false) : hasS xs = false :=
  List.any_eq_false.mpr fun y hy e => List.any_eq_false.mp h y ((m y).mp hy) (decide_eq_true ((m _).mp (of_decide_eq_true e)))
theorem sgs_has {cs ss : List Str} (sg : Sgs cs ss) (nd : ss.Nodup) (low : ∀ s ∈ ss, lowZ s = true) : hasS cs = false := by
  have eb := sg.bare low
  have nb : (cs.map bareS).Nodup := by rw [eb]; exact nd
  refine List.any_eq_false.mpr fun y hy z => ?_
  obtain ⟨s, hs, k⟩ := sg.lit y hy
  obtain ⟨so, ne⟩ := k.opp (low s hs)
  exact ne (inj_of_nodup nb (of_decide_eq_true z) hy (by rw [so.bare (low s hs), k.bare (low s hs)]))
theorem asc_rev {rs : List Str} (p : rs.Pairwise fun a b => ltS a b = true) (h : 2 ≤ rs.length) : ascS rs.reverse = false := by
  cases e : ascS rs.reverse with
  | false => rfl
  | true =>
    have q := List.pairwise_reverse.mp (asc_pw e)
    match rs, p, q, h with
    | a :: b :: r, p, q, _ =>
      have h1 := List.rel_of_pairwise_cons p (List.mem_cons_self ..)
      have h2 := List.rel_of_pairwise_cons q (List.mem_cons_self ..)
      have := ltS_trans h1 h2
      rw [ltS_irrefl] at this
      cases this
theorem cl_rev {rs : List Str} (c : clS rs = true) (p : rs.Pairwise fun a b => ltS a b = true) : clS rs.reverse = decide (rs.length < 2) := by
  rcases Nat.lt_or_ge rs.length 2 with h | h
  · rw [decide_eq_true h]
    have e : rs.reverse = rs := by
      match rs, h with
      | [], _ => rfl
      | [a], _ => rfl
    rw [e]
    exact c
  · rw [decide_eq_false (by omega)]
    unfold clS
    rw [asc_rev p h, Bool.and_false, Bool.false_and]
theorem ex_strsL {K : PySem.W.Frag} {H : Hp} {a b : Addr} {xs : List Str} (h1 : SqL K H a (xs.map V.str)) (h2 : SqL K H b (xs.map V.str)) (few : xs.length < 1000) (d : Nat) : Ex K H (d + 1) (.ref a) (.ref b) :=
  .inr (.inl ⟨a, b, _, _, rfl, rfl, .inl ⟨h1, h2⟩, rfl, by rw [List.length_map]; exact few, fun i u v hu hv => by
    rw [hu] at hv
    cases hv
    obtain ⟨z, _, rfl⟩ := List.mem_map.mp (List.mem_of_getElem? hu)
    exact Ex.leaf (.str z) d⟩)
theorem ex_three {K : PySem.W.Frag} {H : Hp} {p q : Addr} {a b c d e f : V} (h1 : H p = some (.lst [a, b, c])) (h2 : H q = some (.lst [d, e, f])) (k1 : Ex K H 1 a d) (k2 : Ex K H 1 b e) (k3 : Ex K H 1 c f) : Ex K H 2 (.ref p) (.ref q) :=
  .inr (.inl ⟨p, q, _, _, rfl, rfl, .inl ⟨SqL.of h1, SqL.of h2⟩, rfl, by show 3 < 1000; decide, fun i u v hu hv => by
    rcases i with _ | _ | _ | i
    · cases hu; cases hv; exact k1
    · cases hu; cases hv; exact k2
    · cases hu; cases hv; exact k3
    · cases hu⟩)
structure Rts (mg : Str → Option Value) : Prop where
  sorted : mg "sorted" = none
  len : mg "len" = none
  list : mg "list" = none
section
variable {P : Program} {w : World} {K : PySem.W.Frag} {mg : Str → Option Value} {base : Heap}
/-! ### _law_lists_right -/
abbrev sLR : Stmt := top 52
def spLR (K : PySem.W.Frag) : Sp := fun vs H Q _ => ∃ (p q : Addr) (n : Int) (l : List V) (ns : List Str), vs = [.ref p, .ref q] ∧ H p = some (.lst l) ∧ PurseL n l ∧ n ≤ 700000 ∧ SqL K H q (ns.map V.str) ∧ q ≠ p ∧ ns.Nodup ∧ ns.all lowZ = true ∧ ns.length ≤ 6 ∧
  ∀ (H' : Hp) (l' : List V), But p H H' → H' p = some (.lst l') → PurseL (n + 60) l' → Q (.bl true) H'
theorem sc_lr : FnScope ["_law_purse_here", "_law_names", "_law_literals", "_law_handed", "_law_held", "_law_due", "_law_literal", "_law_told", "_law_name"] ["_law_purse_here", "_law_names"] (defScope sLR) := ⟨rfl, rfl, rfl, by decide +kernel, rfl, by decide +kernel, by decide +kernel⟩
theorem ok_lr {f fD fS fL fE fC fO fV fI fA fB fR fJ : Addr} {fd fdD fdS fdL fdE fdC fdO fdV fdI fdA fdB fdR fdJ : FuncData} (G : Fun K "_law_lists_right" "_law_lists_right" sLR f fd) (T : Rts mg)
    (mD : mg "_law_draw" = some (.ref fD)) (kD : PySem.W.keepIn K (.ref fD) = true) (OD : FnOk P w K mg base CX0 2 fD fdD ["_law_purse_here", "_law_many"] (spDraw)) (bD : Binds K fdD ["_law_purse_here", "_law_many"] [])
    (mS : mg "_law_shuffled" = some (.ref fS)) (kS : PySem.W.keepIn K (.ref fS) = true) (OS : FnOk P w K mg base CX0 3 fS fdS ["_law_purse_here", "_law_some"] (spShuf K)) (bS : Binds K fdS ["_law_purse_here", "_law_some"] [])
    (mL : mg "_law_clause" = some (.ref fL)) (kL : PySem.W.keepIn K (.ref fL) = true) (OL : FnOk P w K mg base CX0 1 fL fdL ["_law_literals"] (spLCl K)) (bL : Binds K fdL ["_law_literals"] [])
    (mE : mg "_law_exact" = some (.ref fE)) (kE : PySem.W.keepIn K (.ref fE) = true) (OE : FnOk P w K mg base CX0 3 fE fdE ["_law_mine", "_law_theirs"] (spExact K 2)) (bE : Binds K fdE ["_law_mine", "_law_theirs"] [])
    (mC : mg "clause_of" = some (.ref fC)) (kC : PySem.W.keepIn K (.ref fC) = true) (OC : FnOk P w K mg base CX0 4 fC fdC ["literals"] (spClOf K)) (bC : Binds K fdC ["literals"] []) (qC : KBinds K fdC ["literals"] ["literals"] gOne gOne)
    (mO : mg "contrary" = some (.ref fO)) (kO : PySem.W.keepIn K (.ref fO) = true) (OO : FnOk P w K mg base CX0 4 fO fdO ["literal"] (spOneL oppS)) (bO : Binds K fdO ["literal"] []) (qO : KBinds K fdO ["literal"] ["literal"] gOne gOne)
    (mV : mg "variable_of" = some (.ref fV)) (kV : PySem.W.keepIn K (.ref fV) = true) (OV : FnOk P w K mg base CX0 4 fV fdV ["literal"] (spOneL bareS)) (bV : Binds K fdV ["literal"] []) (qV : KBinds K fdV ["literal"] ["literal"] gOne gOne)
    (mI : mg "is_literal" = some (.ref fI)) (kI : PySem.W.keepIn K (.ref fI) = true) (OI : FnOk P w K mg base CX0 2 fI fdI ["value"] (spIsLit K)) (bI : Binds K fdI ["value"] [])
    (mA : mg "_law_contrary" = some (.ref fA)) (kA : PySem.W.keepIn K (.ref fA) = true) (OA : FnOk P w K mg base CX0 1 fA fdA ["_law_literal"] (spLOne oppS)) (bA : Binds K fdA ["_law_literal"] [])
    (mB : mg "_law_bare" = some (.ref fB)) (kB : PySem.W.keepIn K (.ref fB) = true) (OB : FnOk P w K mg base CX0 1 fB fdB ["_law_literal"] (spLOne bareS)) (bB : Binds K fdB ["_law_literal"] [])
    (mR : mg "variables_in" = some (.ref fR)) (kR : PySem.W.keepIn K (.ref fR) = true) (OR : FnOk P w K mg base CX0 6 fR fdR ["clause"] (spVarsIn K)) (bR : Binds K fdR ["clause"] []) (qR : KBinds K fdR ["clause"] ["clause"] gOne gOne)
    (mJ : mg "is_clause" = some (.ref fJ)) (kJ : PySem.W.keepIn K (.ref fJ) = true) (OJ : FnOk P w K mg base CX0 4 fJ fdJ ["value"] (spIsCl K)) (bJ : Binds K fdJ ["value"] []) : FnOk P w K mg base CX0 7 f fd ["_law_purse_here", "_law_names"] (spLR K) := by
  have sc := sc_lr
  refine G.ok sc (fun vs H Q E h => ?_) (fun cdv A outer s H vs Q E hr h => ?_)
  · obtain ⟨_, _, _, _, _, rfl, _⟩ := h
    rfl
  · obtain ⟨p, q, n, l, ns, rfl, hp, hl, hn, hS, nqp, nd, lo, h6, k⟩ := h
    have big : (100000 : Nat) < sizeLine := by decide
    have hr4 : Room 4 _ := hr.mono (by decide)
    have hr3 : Room 3 _ := hr.mono (by decide)
    have hr2 : Room 2 _ := hr.mono (by decide)
    have hr1 : Room 1 _ := hr.mono (by decide)
    refine ⟨_, pss_cons (ps_setLc (i := 2) (own := [("_law_name", 8)]) (g := gName 8) (tt := tYes) rfl sc.nd rfl rfl (sw_true rfl rfl rfl (by decide +kernel)) (pi_list (pe_slice sl_list (pe_call OS hr3 rfl mS kS bS .nil pass0 (pa_cons (pv 0) (pa_cons (pv 1) pa_nil))) po_none (po_some (pe_call OD hr2 rfl mD kD bD .nil pass0 (pa_cons (pv 0) (pa_cons (pe_op op_add (pe_callB call_len_seq (by rfl) T.len boot_len (pa_cons (pv 1) pa_nil)) pe_int) pa_nil)))))) (blkOk_by (N := ["_law_purse_here", "_law_names", "_law_literals", "_law_handed", "_law_held", "_law_due", "_law_literal", "_law_told", "_law_name"]) (sc := defScope sLR) (by decide +kernel)) (fun _ _ _ _ _ => pg_name (i := 8) sc.nd rfl (Or.inl rfl)) (fun _ _ _ _ _ => pts_nil) (fun _ _ _ _ _ => pe_ifExp (pt_cmpR op_eq (pe_call OD hr2 rfl mD kD bD .nil pass0 (pa_cons (pv 0) (pa_cons pe_int pa_nil))) pe_int (nomark _)) (pv 8) (pe_op op_add_str pe_str (pv 8))))
      (pss_cons (ps_set (i := 3) sc.nd rfl (Or.inl rfl) (pe_call OS hr3 rfl mS kS bS .nil pass0 (pa_cons (pv 0) (pa_cons (pe_op op_cat (pv 2) (pe_slice sl_list (pv 2) po_none (po_some pe_int))) pa_nil))))
      (pss_cons (ps_par (i := 4) (j := 5) (by rfl) sc.nd rfl rfl (by decide) rfl rfl (pa_cons (pe_callTy call_list_of (by rfl) T.list boot_list (pa_cons (pv 3) pa_nil)) (pa_cons (pe_call OL hr1 rfl mL kL bL .nil pass0 (pa_cons (pv 2) pa_nil)) pa_nil)) (by rfl))
      (pss_cons (ps_if (pt_not (pt_val (pe_call OE hr3 rfl mE kE bE .nil pass0 (pa_cons (pe_lst (pa_cons (pe_callK0 OC hr4 (by rfl) mC kC qC pass0 (pk_cons (pv 3) pk_nil)) (pa_cons (pv 3) pa_nil))) (pa_cons (pe_lst (pa_cons (pv 5) (pa_cons (pv 4) pa_nil))) pa_nil))))) (pss_one (ps_ret pe_bl)) pss_nil)
      (pss_cons (ps_for PassesOwn.never rfl (pi_list (pe_op op_cat (pe_lc (own := [("_law_name", 8)]) (g := gName 8) (tt := tYes) rfl sc.nd (pi_list (pv 1)) (blkOk_by (N := ["_law_purse_here", "_law_names", "_law_literals", "_law_handed", "_law_held", "_law_due", "_law_literal", "_law_told", "_law_name"]) (sc := defScope sLR) (by decide +kernel)) (fun _ _ _ _ _ => pg_name (i := 8) sc.nd rfl (Or.inl rfl)) (fun _ _ _ _ _ => pts_nil) (fun _ _ _ _ _ => pv 8)) (pe_lc (own := [("_law_name", 8)]) (g := gName 8) (tt := tYes) rfl sc.nd (pi_list (pv 1)) (blkOk_by (N := ["_law_purse_here", "_law_names", "_law_literals", "_law_handed", "_law_held", "_law_due", "_law_literal", "_law_told", "_law_name"]) (sc := defScope sLR) (by decide +kernel)) (fun _ _ _ _ _ => pg_name (i := 8) sc.nd rfl (Or.inl rfl)) (fun _ _ _ _ _ => pts_nil) (fun _ _ _ _ _ => pe_op op_add_str pe_str (pv 8))))) (pg_name (i := 6) sc.nd rfl (Or.inl rfl)) (pss_one (ps_if (pt_not (pt_val (pe_call OE hr3 rfl mE kE bE .nil pass0 (pa_cons (pe_lst (pa_cons (pe_callK0 OO hr4 (by rfl) mO kO qO pass0 (pk_cons (pv 6) pk_nil)) (pa_cons (pe_callK0 OV hr4 (by rfl) mV kV qV pass0 (pk_cons (pv 6) pk_nil)) (pa_cons (pe_call OI hr2 rfl mI kI bI .nil pass0 (pa_cons (pv 6) pa_nil)) pa_nil)))) (pa_cons (pe_lst (pa_cons (pe_call OA hr1 rfl mA kA bA .nil pass0 (pa_cons (pv 6) pa_nil)) (pa_cons (pe_call OB hr1 rfl mB kB bB .nil pass0 (pa_cons (pv 6) pa_nil)) (pa_cons pe_bl pa_nil)))) pa_nil))))) (pss_one (ps_ret pe_bl)) pss_nil)))
      (pss_cons (ps_set (i := 7) sc.nd rfl (Or.inl rfl) (pe_callK0 OR hr (by rfl) mR kR qR pass0 (pk_cons (pv 5) pk_nil)))
      (pss_cons (ps_if (pt_not (pt_val (pe_call OE hr3 rfl mE kE bE .nil pass0 (pa_cons (pv 7) (pa_cons (pe_callB cr_sortedS (by rfl) T.sorted (by decide +kernel) (pa_cons (pe_lc (own := [("_law_literal", 6)]) (g := gName 6) (tt := tYes) rfl sc.nd (pi_sq (pv 5)) (blkOk_by (N := ["_law_purse_here", "_law_names", "_law_literals", "_law_handed", "_law_held", "_law_due", "_law_literal", "_law_told", "_law_name"]) (sc := defScope sLR) (by decide +kernel)) (fun _ _ _ _ _ => pg_name (i := 6) sc.nd rfl (Or.inl rfl)) (fun _ _ _ _ _ => pts_nil) (fun _ _ _ _ _ => pe_call OB hr1 rfl mB kB bB .nil pass0 (pa_cons (pv 6) pa_nil))) pa_nil)) pa_nil))))) (pss_one (ps_ret pe_bl)) pss_nil)
      (pss_cons (ps_expr (pe_bm PySem.F.plainAttrs_list PySem.F.slot_list_append PySem.F.type_list_append mt_append (pv 7) (pa_cons pe_str pa_nil)))
      (pss_one (ps_ret (pe_call OE hr3 rfl mE kE bE .nil pass0 (pa_cons (pe_lst (pa_cons (pe_call OR hr rfl mR kR bR .nil pass0 (pa_cons (pv 5) pa_nil)) (pa_cons (pe_call OJ hr4 rfl mJ kJ bJ .nil pass0 (pa_cons (pv 5) pa_nil)) (pa_cons (pe_call OJ hr4 rfl mJ kJ bJ .nil pass0 (pa_cons (pe_revT (pv 5)) pa_nil)) pa_nil)))) (pa_cons (pe_lst (pa_cons (pe_callB cr_sortedS (by rfl) T.sorted (by decide +kernel) (pa_cons (pe_lc (own := [("_law_literal", 6)]) (g := gName 6) (tt := tYes) rfl sc.nd (pi_sq (pv 5)) (blkOk_by (N := ["_law_purse_here", "_law_names", "_law_literals", "_law_handed", "_law_held", "_law_due", "_law_literal", "_law_told", "_law_name"]) (sc := defScope sLR) (by decide +kernel)) (fun _ _ _ _ _ => pg_name (i := 6) sc.nd rfl (Or.inl rfl)) (fun _ _ _ _ _ => pts_nil) (fun _ _ _ _ _ => pe_call OB hr1 rfl mB kB bB .nil pass0 (pa_cons (pv 6) pa_nil))) pa_nil)) (pa_cons pe_bl (pa_cons (pe_cmpR op_lt (pe_callB call_len_seq (by rfl) T.len boot_len (pa_cons (pv 5) pa_nil)) pe_int (nomark _)) pa_nil)))) pa_nil)))))))))))), ?_⟩
    refine ⟨_, rfl, _, rfl, p, q, n, l, ns.map V.str, rfl, hp, hl, by omega, hS, nqp, by rw [List.length_map]; omega, fun H1 r l1 ys bu1 hp1 hl1 nr hys pm => ?_⟩
    have nrp : r ≠ p := fun z => by
      rw [z, hp] at nr
      cases nr
    rw [List.length_map] at hl1
    refine ⟨_, rfl, _, rfl, q, _, rfl, .inl (bu1.sqL hS nqp), ?_⟩
    refine ⟨_, _, rfl, rfl, ?_⟩
    rw [List.length_map]
    refine ⟨p, _, _, l1, rfl, hp1, hl1, by omega, by omega, by omega, fun l2 d hl2 d0 d1 => ?_⟩
    refine ⟨_, rfl, r, _, rfl, SqL.of ((upd_ne nrp).trans hys), fun c nc => ?_⟩
    rw [cutV_take _ _ d0]
    obtain ⟨zs, rfl, pz⟩ := perm_strs pm
    rw [← List.map_take]
    have lz : zs.length = ns.length := pz.length_eq
    have ls : (zs.take d.toNat).length ≤ 6 := by
      rw [List.length_take, lz]
      omega
    have nds : (zs.take d.toNat).Nodup := ((pz.nodup_iff).mpr nd).sublist (List.take_sublist ..)
    have subs : ∀ s ∈ zs.take d.toNat, s ∈ ns := fun s hs => pz.mem_iff.mp (List.mem_of_mem_take hs)
    generalize zs.take d.toNat = ss at ls nds subs
    have ncp : c ≠ p := fun z => by
      rw [z, upd_same] at nc
      cases nc
    have nc1 : H1 c = none := by
      rw [upd_ne ncp] at nc
      exact nc
    have bu2 : But p H (upd (upd H1 p (.lst l2)) c (.lst (ss.map V.str))) := fun b o e ne => by
      have e1 := bu1 b o e ne
      rw [upd_ne (ne_of_none e1 nc1), upd_ne ne]
      exact e1
    have hp2 : upd (upd H1 p (.lst l2)) c (.lst (ss.map V.str)) p = some (.lst l2) := (upd_ne (Ne.symm ncp)).trans upd_same
    have hc0 : upd (upd H1 p (.lst l2)) c (.lst (ss.map V.str)) c = some (.lst (ss.map V.str)) := upd_same
    refine ⟨c, rfl, ⟨_, SqL.of upd_same⟩, fun D nD => ?_⟩
    have nDp : D ≠ p := fun z => by
      rw [z, hp2] at nD
      cases nD
    generalize upd (upd H1 p (.lst l2)) c (.lst (ss.map V.str)) = Hb at bu2 hp2 nD hc0
    refine lc_list (K := K) (a := c) (xs := ss.map V.str) (fun i Hc => i ≤ ss.length ∧ ∃ (l3 : List V) (cs : List Str), But p Hb Hc ∧ Hc p = some (.lst l3) ∧ PurseL (n + ns.length + 1 + (i : Int)) l3 ∧ Hc D = some (.lst (cs.map V.str)) ∧ Sgs cs (ss.take i)) ?_ ?_ ?_ ?_
    · exact ⟨Nat.zero_le _, l2, [], .of (same_new nD), (upd_ne (Ne.symm nDp)).trans hp2, by simpa using hl2, upd_same, .nil⟩
    · rintro i Hc hi ⟨_, l3, cs, bu3, _⟩
      exact SqL.of (bu3 _ _ hc0 ncp)
    · rintro i x Hc hx ⟨hi, l3, cs, bu3, hp3, hl3, hD, sg⟩
      have hi2 : i < ss.length := by
        have := (List.getElem?_eq_some_iff.mp hx).1
        rw [List.length_map] at this
        exact this
      rw [List.getElem?_map, List.getElem?_eq_getElem hi2] at hx
      cases hx
      have lcs : cs.length = i := by
        rw [sg.len, List.length_take]
        omega
      have lows : lowZ ss[i] = true := List.all_eq_true.mp lo _ (subs _ (List.getElem_mem hi2))
      have next : ∀ (l4 : List V) (cc : Str), PurseL (n + ns.length + 1 + (i : Int) + 1) l4 → Sg cc ss[i] → ∃ acc, upd Hc p (.lst l4) D = some (.lst acc) ∧ acc.length < sizeLine ∧ (i + 1 ≤ ss.length ∧ ∃ (l3 : List V) (cs : List Str), But p Hb (upd (upd Hc p (.lst l4)) D (.lst (acc ++ [V.str cc]))) ∧
          upd (upd Hc p (.lst l4)) D (.lst (acc ++ [V.str cc])) p = some (.lst l3) ∧ PurseL (n + ns.length + 1 + ((i + 1 : Nat) : Int)) l3 ∧ upd (upd Hc p (.lst l4)) D (.lst (acc ++ [V.str cc])) D = some (.lst (cs.map V.str)) ∧ Sgs cs (ss.take (i + 1))) := fun l4 cc h4 hs => by
        refine ⟨cs.map V.str, (upd_ne nDp).trans hD, by rw [List.length_map]; omega, hi2, l4, cs ++ [cc], fun b o e ne => ?_, (upd_ne (Ne.symm nDp)).trans upd_same, ?_, by rw [upd_same, List.map_append]; rfl, ?_⟩
        · rw [upd_ne (ne_of_none e nD), upd_ne ne]
          exact bu3 b o e ne
        · have e : n + ns.length + 1 + ((i + 1 : Nat) : Int) = n + ns.length + 1 + (i : Int) + 1 := by omega
          rw [e]
          exact h4
        · rw [List.take_add_one, List.getElem?_eq_getElem hi2]
          exact sg.snoc hs
      walk_at "go"
      refine ⟨p, 2, _, l3, rfl, hp3, hl3, by omega, by decide, by decide, fun l4 r4 h4 r0 r1 => ?_⟩
      refine ⟨rfl, _, rfl, ?_⟩
      refine ite2 (fun z => ?_) (fun z => ?_)
      · exact ⟨_, rfl, next l4 _ h4 (.inl rfl)⟩
      · refine ⟨_, rfl, dash, ss[i], rfl, rfl, ?_, next l4 _ h4 (.inr rfl)⟩
        have := (low_parts lows).2.1
        show 1 + ss[i].length ≤ sizeLine
        omega
    · rintro Hc ⟨_, l3, cs, bu3, hp3, hl3, hD, sg⟩
      rw [List.length_map, List.take_length] at sg
      rw [List.length_map] at hl3
      have low : ∀ s ∈ ss, lowZ s = true := fun s hs => List.all_eq_true.mp lo s (subs s hs)
      have lcs : cs.length ≤ 6 := by
        rw [sg.len]
        exact ls
      have bu4 : But p H Hc := bu2.trans bu3
      have hasc := sgs_has sg nds low
      have lits : ∀ y ∈ cs, litS y = true := fun y hy => by
        obtain ⟨s, hs, k9⟩ := sg.lit y hy
        exact k9.lit (low s hs)
      refine ⟨_, rfl, _, rfl, _, rfl, _, rfl, D, _, rfl, SqL.of hD, fun t2 n2 => ?_⟩
      rw [cutV_take _ _ (by decide), ← List.map_take]
      have st2 := same_new (o := .lst ((cs.take (2 : Int).toNat).map V.str)) n2
      refine ⟨D, t2, _, _, rfl, rfl, st2 _ _ hD, upd_same, by rw [List.length_map, List.length_map, List.length_take]; omega, fun t3 n3 => ?_⟩
      rw [← List.map_append]
      have st3 := same_trans st2 (same_new (o := .lst ((cs ++ cs.take (2 : Int).toNat).map V.str)) n3)
      have ht3 : upd (upd Hc t2 (.lst ((cs.take (2 : Int).toNat).map V.str))) t3 (.lst ((cs ++ cs.take (2 : Int).toNat).map V.str)) t3 = some (.lst ((cs ++ cs.take (2 : Int).toNat).map V.str)) := upd_same
      generalize upd (upd Hc t2 (.lst ((cs.take (2 : Int).toNat).map V.str))) t3 (.lst ((cs ++ cs.take (2 : Int).toNat).map V.str)) = H4 at st3 ht3
      have l8 : (cs ++ cs.take (2 : Int).toNat).length ≤ 8 := by
        rw [List.length_append, List.length_take]
        have : (2 : Int).toNat = 2 := rfl
        omega
      have t3p : t3 ≠ p := fun z => by
        have := st3 _ _ hp3
        rw [← z, ht3] at this
        have nn := same_free st2 n3
        rw [z, hp3] at nn
        cases nn
      refine ⟨p, t3, _, l3, _, rfl, st3 _ _ hp3, hl3, by omega, SqL.of ht3, t3p, by rw [List.length_map]; omega, fun H5 hd l5 hs0 bu5 hp5 hl5 nhd hhd pm5 => ?_⟩
      obtain ⟨hs, rfl, pmh⟩ := perm_strs pm5
      rw [List.length_map] at hl5
      have memh : ∀ y, y ∈ hs ↔ y ∈ cs := fun y => by
        rw [pmh.mem_iff, List.mem_append]
        exact ⟨fun z => z.elim id List.mem_of_mem_take, .inl⟩
      have lh : hs.length ≤ 8 := by
        rw [pmh.length_eq]
        exact l8
      have bu6 : But p H H5 := fun b o e ne => bu5 b o (st3 b o (bu4 b o e ne)) ne
      have hD5 := bu5 D _ (st3 _ _ hD) nDp
      refine ⟨_, rfl, hd, _, rfl, .inl (SqL.of hhd), fun held nheld => ?_⟩
      have sh := same_new (o := .lst (hs.map V.str)) nheld
      refine ⟨_, rfl, D, cs, rfl, .inl (SqL.of (sh _ _ hD5)), by omega, fun H7 due rs s7 ndue hdue io => ?_⟩
      refine ⟨_, _, rfl, ?_⟩
      have s57 := same_trans sh s7
      have hhd7 := s57 _ _ hhd
      have hheld7 := s7 _ _ (upd_same (H := H5) (a := held) (o := .lst (hs.map V.str)))
      have hp7 := s57 _ _ hp5
      have bu7 : But p H H7 := bu6.trans (.of s57)
      have lrs := io.le
      have hash : hasS hs = false := has_mem memh hasc
      have lith : hs.all litS = true := List.all_eq_true.mpr fun y hy => lits y ((memh y).mp hy)
      refine ⟨_, rfl, hd, hs, rfl, SqL.of hhd7, lith, hash, by omega, fun H8 m1 rs2 s8 nm1 hm1 io2 => ?_⟩
      have ers : rs2 = rs := io2.uniq io fun y => memh y
      subst ers
      refine ⟨_, rfl, (by show 2 ≤ sizeLine; decide), fun l8' nl8 => ?_⟩
      have sl8 := same_new (o := .lst [.ref m1, .ref hd]) nl8
      refine ⟨_, rfl, _, rfl, (by show 2 ≤ sizeLine; decide), fun l9 nl9 => ?_⟩
      have sl9 := same_new (o := .lst [.ref due, .ref held]) nl9
      have s89 := same_trans s8 (same_trans sl8 sl9)
      refine ⟨.ref l8', .ref l9, rfl, ex_two (sl9 _ _ upd_same) upd_same (ex_strs (SqT.of (same_trans sl8 sl9 _ _ hm1)) (SqT.of (s89 _ _ hdue)) (by omega)) (ex_strsL (SqL.of (s89 _ _ hhd7)) (SqL.of (s89 _ _ hheld7)) (by omega) 0), fun H10 s10 => ⟨_, rfl, iteF ?_⟩⟩
      have s7z := same_trans s89 s10
      have hdue10 := s7z _ _ hdue
      have hp10 := s7z _ _ hp7
      have bu10 : But p H H10 := bu7.trans (.of s7z)
      have hq10 := bu10.sqL hS nqp
      have bigns : (ns.map V.str).length < sizeLine := by
        rw [List.length_map]
        omega
      refine ⟨_, rfl, q, rfl, ⟨_, hq10⟩, fun D1 nD1 => ?_⟩
      refine lstD (fun x => some x) hq10 bigns nD1 (fun x H2 Ψ Θ hx sX yes no => ⟨rfl, _, rfl, yes _ H2 rfl (same_refl _)⟩) (fun H11 s11 h11 => ?_)
      have hq11 := sqL_same hq10 s11
      refine ⟨_, rfl, q, rfl, ⟨_, hq11⟩, fun D2 nD2 => ?_⟩
      refine lstD (fun | .str z => some (.str (dash ++ z)) | x => some x) hq11 bigns nD2 (fun x H2 Ψ Θ hx sX yes no => ?_) (fun H12 s12 h12 => ?_)
      · obtain ⟨y, hy, rfl⟩ := List.mem_map.mp hx
        have ly := (low_parts (List.all_eq_true.mp lo y hy)).2.1
        walk_at "go"
        refine ⟨?_, yes _ H2 rfl (same_refl _)⟩
        show 1 + y.length ≤ sizeLine
        omega
      have e11 : (ns.map V.str).filterMap (fun x => some x) = ns.map V.str := List.filterMap_some ..
      have e12 : (ns.map V.str).filterMap (fun | .str z => some (V.str (dash ++ z)) | x => some x) = (ns.map fun z => dash ++ z).map V.str := by
        rw [List.filterMap_map, List.map_map]
        exact fm_some (fun z => V.str (dash ++ z)) ns
      rw [e11] at h11
      rw [e12] at h12
      refine ⟨D1, D2, _, _, rfl, rfl, s12 _ _ h11, h12, by rw [List.length_map, List.length_map, List.length_map]; omega, fun c3 nc3 => ?_⟩
      rw [← List.map_append]
      have s13 := same_trans s11 (same_trans s12 (same_new (o := .lst ((ns ++ ns.map fun z => dash ++ z).map V.str)) nc3))
      have hc3 : upd H12 c3 (.lst ((ns ++ ns.map fun z => dash ++ z).map V.str)) c3 = some (.lst ((ns ++ ns.map fun z => dash ++ z).map V.str)) := upd_same
      generalize upd H12 c3 (.lst ((ns ++ ns.map fun z => dash ++ z).map V.str)) = H13 at s13 hc3
      refine ⟨c3, rfl, ⟨_, SqL.of hc3⟩, ?_⟩
      refine for_list (xs := (ns ++ ns.map fun z => dash ++ z).map V.str) (fun i σ Hz => Same H13 Hz ∧ ∃ v : Option V, σ = [some (.ref p), some (.ref q), some (.ref D), some (.ref hd), some (.ref held), some (.ref due), v, none, none]) ⟨same_refl _, none, rfl⟩ (fun i σ Hz hi h => SqL.of (h.1 _ _ hc3)) ?_ ?_
      · rintro i x σ Hz hx ⟨sm, v, rfl⟩
        obtain ⟨z, hz, rfl⟩ := List.mem_map.mp (List.mem_of_getElem? hx)
        obtain ⟨sn, hsn, sgz⟩ : ∃ s ∈ ns, Sg z s := by
          rcases List.mem_append.mp hz with h | h
          · exact ⟨z, h, .inl rfl⟩
          · obtain ⟨y, hy, e⟩ := List.mem_map.mp h
            exact ⟨y, hy, .inr e.symm⟩
        have lz9 : litS z = true := sgz.lit (List.all_eq_true.mp lo sn hsn)
        have p1 := lit_pos lz9
        have p9 := lit_short lz9
        refine ⟨_, rfl, z, rfl, lz9, fun Ha sa => ?_⟩
        refine ⟨_, rfl, z, rfl, lz9, fun Hb sb => ?_⟩
        refine ⟨_, rfl, .str z, rfl, .inl ⟨z, rfl, by omega⟩, fun Hc' sc' => ?_⟩
        refine ⟨(by show 3 ≤ sizeLine; decide), fun la nla => ?_⟩
        have sla := same_new (o := .lst [.str (oppS z), .str (bareS z), .bl (litV (.str z))]) nla
        refine ⟨_, rfl, z, rfl, p1, p9, _, rfl, z, rfl, p1, p9, (by show 3 ≤ sizeLine; decide), fun lb nlb => ?_⟩
        have slb := same_new (o := .lst [.str (oppS z), .str (bareS z), .bl true]) nlb
        have e9 : litV (.str z) = true := lz9
        refine ⟨.ref la, .ref lb, rfl, ex_three (slb _ _ upd_same) upd_same (Ex.leaf (.str _) 1) (Ex.leaf (.str _) 1) (by rw [e9]; exact Ex.leaf (.bl _) 1), fun Hd sd => ⟨_, rfl, iteF ?_⟩⟩
        exact ⟨same_trans sm (same_trans sa (same_trans sb (same_trans sc' (same_trans sla (same_trans slb sd))))), _, rfl⟩
      · rintro σ Hz ⟨sm, v, rfl⟩
        have s10z := same_trans s13 sm
        have hduez := s10z _ _ hdue10
        have hpz := s10z _ _ hp10
        have buz : But p H Hz := bu10.trans (.of s10z)
        obtain ⟨good, len⟩ := good_of sg nds subs lo io
        have cld : ∀ Hq, Same Hz Hq → ClAt K Hq due rs2 := fun Hq s => ⟨SqT.of (s _ _ hduez), good.cl lo, by omega⟩
        have ndb : (rs2.map bareS).Nodup := good.one
        refine ⟨_, rfl, due, rs2, rfl, cld _ (same_refl _), fun H14 told vs s14 ntold htold pmv sov => ?_⟩
        have lvs : vs.length ≤ 6 := by
          rw [pmv.length_eq, List.length_map]
          omega
        refine ⟨_, rfl, ?_⟩
        dsimp only [tSeq, tAsg, tRet, tCB, tCons, tNil, tCall, tNext, tLst]
        refine seq_lc (fun | .str z => some (.str (bareS z)) | x => some x) rfl (.inr (cld _ s14).1) (by rw [List.length_map]; omega) (fun x H2 Ψ Θ hx sX yes no => ?_) (fun HA DA sA nA hA => ?_)
        · obtain ⟨y, hy, rfl⟩ := List.mem_map.mp hx
          have ly : litS y = true := good.lits lo y hy
          have p1 := lit_pos ly
          have p9 := lit_short ly
          walk_at "go"
          exact yes _ H2 rfl (same_refl _)
        have eA : (rs2.map V.str).filterMap (fun | .str z => some (V.str (bareS z)) | x => some x) = (rs2.map bareS).map V.str := by
          rw [List.filterMap_map, List.map_map]
          exact fm_some (fun y => V.str (bareS y)) rs2
        rw [eA] at hA
        refine ⟨DA, rs2.map bareS, rfl, SqL.of hA, by rw [List.length_map]; omega, fun ws CX pmws sows nCX => ?_⟩
        have eqws : vs = ws := Eq.symm <| pw_uniq (asc_pw (asc_of_sorted sows (pmws.nodup_iff.mpr ndb))) (asc_pw (asc_of_sorted sov (pmv.nodup_iff.mpr ndb))) fun y => pmws.mem_iff.trans pmv.mem_iff.symm
        subst eqws
        have sCX := same_trans sA (same_new (o := .lst (vs.map V.str)) nCX)
        refine ⟨.ref told, .ref CX, rfl, ex_strsL (SqL.of (sCX _ _ htold)) (SqL.of upd_same) (by omega) 1, fun H16 s16 => ⟨_, rfl, iteF ?_⟩⟩
        have s14z := same_trans s14 (same_trans sCX s16)
        have htold16 := same_trans sCX s16 _ _ htold
        refine ⟨_, rfl, .inl ⟨rfl, _, SqL.of htold16⟩, ?_⟩
        refine ⟨told, _, _, rfl, rfl, htold16, by rw [List.length_map]; omega, ?_⟩
        have ntp : told ≠ p := fun z => by rw [z, hpz] at ntold; cases ntold
        have ntd : told ≠ due := fun z => by rw [z, hduez] at ntold; cases ntold
        have hdue17 : upd H16 told (.lst (vs.map V.str ++ [V.str "more"])) due = some (.tup (rs2.map V.str)) := (upd_ne (Ne.symm ntd)).trans (s14z _ _ hduez)
        have hp17 : upd H16 told (.lst (vs.map V.str ++ [V.str "more"])) p = some (.lst l5) := (upd_ne (Ne.symm ntp)).trans (s14z _ _ hpz)
        have bu17 : But p H (upd H16 told (.lst (vs.map V.str ++ [V.str "more"]))) := fun b o e ne => by
          have e1 := buz b o e ne
          rw [upd_ne (ne_of_none e1 ntold)]
          exact s14z b o e1
        generalize upd H16 told (.lst (vs.map V.str ++ [V.str "more"])) = H17 at hdue17 hp17 bu17
        have cl17 : ∀ Hq, Same H17 Hq → ClAt K Hq due rs2 := fun Hq s => ⟨SqT.of (s _ _ hdue17), good.cl lo, by omega⟩
        have lit2 : rs2.all litS = true := List.all_eq_true.mpr (good.lits lo)
        refine ⟨_, rfl, due, rs2, rfl, cl17 _ (same_refl _), fun H18 tb vb s18 ntb htb pmb sob => ?_⟩
        have eqvb : vs = vb := Eq.symm <| pw_uniq (asc_pw (asc_of_sorted sob (pmb.nodup_iff.mpr ndb))) (asc_pw (asc_of_sorted sov (pmv.nodup_iff.mpr ndb))) fun y => pmb.mem_iff.trans pmv.mem_iff.symm
        subst eqvb
        refine ⟨_, rfl, .ref due, rfl, .inl ⟨due, _, rfl, (cl17 _ s18).1, by rw [List.length_map]; omega, lit_known lit2, fun H19 s19 => ?_⟩⟩
        have s189 := same_trans s18 s19
        refine ⟨_, rfl, due, _, rfl, (cl17 _ s189).1, fun rv nrv => ?_⟩
        have srv := same_new (o := .tup (rs2.map V.str).reverse) nrv
        refine ⟨.ref rv, rfl, .inl ⟨rv, _, rfl, SqT.of upd_same, by rw [List.length_reverse, List.length_map]; omega, fun x hx => lit_known lit2 x (List.mem_reverse.mp hx), fun H20 s20 => ?_⟩⟩
        have s1820 := same_trans s189 (same_trans srv s20)
        rw [clV_strs, good.cl lo, ← List.map_reverse, clV_strs, cl_rev (good.cl lo) io.pw]
        refine ⟨(by show 3 ≤ sizeLine; decide), fun la nla => ?_⟩
        have sla := same_new (o := .lst [.ref tb, .bl true, .bl (decide (rs2.length < 2))]) nla
        have hla : upd H20 la (.lst [.ref tb, .bl true, .bl (decide (rs2.length < 2))]) la = some (.lst [.ref tb, .bl true, .bl (decide (rs2.length < 2))]) := upd_same
        have htbl := same_trans s19 (same_trans srv (same_trans s20 sla)) _ _ htb
        have s21 := same_trans s1820 sla
        generalize upd H20 la (.lst [.ref tb, .bl true, .bl (decide (rs2.length < 2))]) = H21 at s21 hla htbl
        dsimp only [tSeq, tAsg, tRet, tCB, tCons, tNil, tCall, tNext, tLst]
        refine seq_lc (fun | .str z => some (.str (bareS z)) | x => some x) rfl (.inr (cl17 _ s21).1) (by rw [List.length_map]; omega) (fun x H2 Ψ Θ hx sX yes no => ?_) (fun HB DB sB nB hB => ?_)
        · obtain ⟨y, hy, rfl⟩ := List.mem_map.mp hx
          have ly : litS y = true := good.lits lo y hy
          have p1 := lit_pos ly
          have p9 := lit_short ly
          walk_at "go"
          exact yes _ H2 rfl (same_refl _)
        rw [eA] at hB
        refine ⟨DB, rs2.map bareS, rfl, SqL.of hB, by rw [List.length_map]; omega, fun w2 C2 pmw2 sow2 nC2 => ?_⟩
        have eqw2 : vs = w2 := Eq.symm <| pw_uniq (asc_pw (asc_of_sorted sow2 (pmw2.nodup_iff.mpr ndb))) (asc_pw (asc_of_sorted sov (pmv.nodup_iff.mpr ndb))) fun y => pmw2.mem_iff.trans pmv.mem_iff.symm
        subst eqw2
        have sC2 := same_trans sB (same_new (o := .lst (vs.map V.str)) nC2)
        have s22 := same_trans s21 sC2
        refine ⟨_, rfl, due, _, rfl, .inr (cl17 _ s22).1, _, _, rfl, rfl, ?_⟩
        refine ⟨(by show 3 ≤ sizeLine; decide), fun lb nlb => ?_⟩
        have elen : decide ((((rs2.map V.str).length : Nat) : Int) < 2) = decide (rs2.length < 2) := by
          rw [List.length_map]
          exact decide_eq_decide.mpr (by omega)
        have slb := same_new (o := .lst [.ref C2, .bl true, .bl (decide ((((rs2.map V.str).length : Nat) : Int) < 2))]) nlb
        refine ⟨.ref la, .ref lb, rfl, ex_three (same_trans sC2 slb _ _ hla) upd_same (ex_strsL (SqL.of (same_trans sC2 slb _ _ htbl)) (SqL.of (slb _ _ upd_same)) (by omega) 0) (Ex.leaf (.bl true) 1) (by dsimp only; rw [elen]; exact Ex.leaf (.bl _) 1), fun H23 s23 => ?_⟩
        have sf := same_trans s22 (same_trans slb s23)
        exact k H23 l5 (bu17.trans (.of sf)) (sf _ _ hp17) (hl5.mono (by omega))
end
end My
end

section
set_option Elab.async false
set_option linter.all false
set_option maxRecDepth 100000
set_option maxHeartbeats 4000000
namespace My
local macro_rules | `(tactic| walk_at "go") => `(tactic| (repeat (first
  | (refine ⟨_, rfl, ?_⟩)
  | (refine ⟨_, _, rfl, rfl, ?_⟩)
  | (refine ⟨_, _, rfl, ?_⟩)
  | (refine ⟨rfl, ?_⟩)
  | (refine Or.inl ⟨_, rfl, ?_⟩)
  | (refine ⟨_, _, _, _, rfl, rfl, L2.SqL.of (by first | assumption | exact L2.upd_same), rfl, ?_⟩)
  | (refine ⟨_, _, _, _, rfl, rfl, (by first | assumption | exact L2.upd_same), rfl, ?_⟩)
  | (refine And.intro (by first | omega | decide | (unfold L2.CPow; decide) | (unfold L2.CMul; omega) | (unfold L2.CDiv; omega)) ?_))))
open PySem PySem.Spec PyProof.Rows L2 TL MyF MyS MyW MyT MyQ MyV RZ
/-! ### clauses made of a clause -/
theorem sorted_of_pw {l : List Str} (p : l.Pairwise fun a b => ltS a b = true) : sortedS l = true := by
  refine PyProof.Rows.sortedS_of_pairwise l (p.imp fun {a b} h => ?_)
  rw [ltCps_eq]
  refine decide_eq_false fun z => ?_
  have h2 : ltS b a = true := decide_eq_true z
  have := ltS_trans h h2
  rw [ltS_irrefl] at this
  cases this
theorem Good.pw {ns rs : List Str} (h : Good ns rs) : rs.Pairwise fun a b => ltS a b = true := asc_pw (asc_of_sorted h.up (nodup_of_map bareS h.one))
/-- a part of a clause is one -/
theorem Good.sub {ns rs qs : List Str} (h : Good ns rs) (s : qs.Sublist rs) : Good ns qs :=
  ⟨fun y hy => h.lit y (s.subset hy), h.one.sublist (s.map bareS), sorted_of_pw (h.pw.sublist s)⟩
theorem good_nil (ns : List Str) : Good ns [] := ⟨fun _ h => (by cases h), List.nodup_nil, rfl⟩
theorem Good.cl2 {ns rs : List Str} (h : Good ns rs) (lo : ns.all lowZ = true) : Cl2 rs := ⟨h.one, h.lits lo⟩
/-- some signs of a clause turned, put in order -/
theorem Good.turn {ns rs cs out : List Str} (h : Good ns rs) (lo : ns.all lowZ = true) (p : Paired (fun c y => c = y ∨ c = oppS y) cs rs) (io : InOrd out cs) : Good ns out ∧ out.length = rs.length := by
  have low : ∀ s ∈ ns, lowZ s = true := fun s hs => List.all_eq_true.mp lo s hs
  have go : ∀ {cs rs : List Str}, Paired (fun c y => c = y ∨ c = oppS y) cs rs → (∀ y ∈ rs, ∃ s ∈ ns, Sg y s) → Sgs cs (rs.map bareS) := fun {cs rs} p => by
    induction p with
    | nil => intro _; exact .nil
    | @cons c y cs rs r t ih =>
      intro hl
      obtain ⟨s, hs, sg⟩ := hl y (List.mem_cons_self ..)
      refine .cons ?_ (ih fun x hx => hl x (List.mem_cons_of_mem _ hx))
      rw [sg.bare (low s hs)]
      rcases r with rfl | rfl
      · exact sg
      · exact (sg.opp (low s hs)).1
  have sg := go p h.lit
  have sub : ∀ s ∈ rs.map bareS, s ∈ ns := fun s hs => by
    obtain ⟨y, hy, rfl⟩ := List.mem_map.mp hs
    obtain ⟨s, hs, k⟩ := h.lit y hy
    rw [k.bare (low s hs)]
    exact hs
  obtain ⟨g, e⟩ := good_of sg h.one sub lo io
  exact ⟨g, by rw [e, List.length_map]⟩
end My
end

section
set_option Elab.async false
set_option linter.all false
set_option maxRecDepth 100000
set_option maxHeartbeats 4000000
namespace MyZ
open PySem PySem.Spec PyProof.Rows PySem.W PySem.SeqAt PySem.Calls
/-- v is a tuple of texts in the heap -/
def TupS (h : Heap) (v : Value) : Prop := ∃ a xs, v = .ref a ∧ IsTup h a xs ∧ ∀ x ∈ xs.toList, ∃ z t, x = Value.str z t
theorem TupS.keeps {h h' : Heap} {v : Value} (x : TupS h v) (k : ∀ b o, h.get? b = some o → o.cls = .type "tuple" → h'.get? b = some o) : TupS h' v := by
  obtain ⟨a, xs, e, ⟨o, ho, hc, r⟩, q⟩ := x
  exact ⟨a, xs, e, ⟨o, k _ _ ho hc, hc, r⟩, q⟩
section
variable {prog : Program} {w : World} {A : Around} {E : Value → Shared → Prop} {s : Shared}
theorem call_tuple_lt {Q : Value → Shared → Prop} {l b : Addr} {items items2 : Array Value} {e r : Nat → Bool} (hl : IsTup s.heap l items) (hb : IsTup s.heap b items2)
    (he : ∀ j (h1 : j < items.size) (h2 : j < items2.size), EqAt A.in1 s items[j] items2[j] (e j)) (hr : ∀ j (h1 : j < items.size) (h2 : j < items2.size), e j = false → RcLt A.in1 s items[j] items2[j] (r j))
    (h : Q (.bool (firstLt e r (decide (items.size < items2.size)) (List.range (min items.size items2.size)))) s) : wpAny (model prog w) A (call (.builtin "tuple.__lt__") [.ref l, .ref b]) Q E s := by
  obtain ⟨⟨cls, dd, data, sl⟩, ho, hc, n, hd⟩ := id hl
  obtain ⟨⟨cls2, dd2, data2, sl2⟩, ho2, hc2, n2, hd2⟩ := id hb
  simp only at hc hd hc2 hd2
  subst hc hd hc2 hd2
  exact call_meets PySem.F.slot_tuple_lt ⟨_, ho, rfl⟩ PySem.F.entry_tuple_lt (PySem.F.args_tuple_lt_2 _ _) (tuple_ltAt l b items items2 n n2 dd dd2 sl sl2 e r) ⟨ho, ho2, he, hr, h⟩
theorem rcLt_str (A : Around) (s : Shared) (x : Str) (t : Tok) (y : Str) (u : Tok) : RcLt A s (.str x t) (.str y u) (decide (x.cps.toList < y.cps.toList)) := fun prog w E Q h =>
  (PyProof.Rows.lt_str h : wpAny (model prog w) A (compareOp .Lt (.str x t) (.str y u)) Q E s)
def eqS (a b : Option Value) : Bool := match a, b with
  | some (.str x _), some (.str y _) => x == y
  | _, _ => false
def ltSS (a b : Option Value) : Bool := match a, b with
  | some (.str x _), some (.str y _) => decide (x.cps.toList < y.cps.toList)
  | _, _ => false
theorem tups_tot {vs : List Value} (hu : A.units + 1 < cLine) (hp : ∀ v ∈ vs, TupS s.heap v) : Srt.Tot prog w A s oneType' (fun p => p.1 ∈ vs) := by
  intro p q hm hm'
  obtain ⟨a, xs, ea, ha, sa⟩ := hp _ hm
  obtain ⟨b, ys, eb, hb, sb⟩ := hp _ hm'
  rw [ea, eb]
  have at1 : ∀ j (h1 : j < xs.size), ∃ z t, xs[j] = Value.str z t := fun j h1 => sa _ (Array.mem_toList_iff.mpr (Array.getElem_mem h1))
  have at2 : ∀ j (h1 : j < ys.size), ∃ z t, ys[j] = Value.str z t := fun j h1 => sb _ (Array.mem_toList_iff.mpr (Array.getElem_mem h1))
  refine ⟨firstLt (fun j => eqS xs[j]? ys[j]?) (fun j => ltSS xs[j]? ys[j]?) (decide (xs.size < ys.size)) (List.range (min xs.size ys.size)), ?_⟩
  rw [keyLt'_oneType, oneLt'_eq]
  simp only [if_true]
  refine wpAny_bind (wpAny_cRoomFor (by omega) ?_)
  refine wpAny_bind (wpAny_callSpecialIfBound?_slot (T := "tuple") ha.typeIs PySem.F.slot_tuple_lt (call_tuple_lt (e := fun j => eqS xs[j]? ys[j]?) (r := fun j => ltSS xs[j]? ys[j]?) ha hb (fun j j1 j2 => ?_) (fun j j1 j2 hj => ?_) ?_))
  · obtain ⟨x, t, e1⟩ := at1 j j1
    obtain ⟨y, u, e2⟩ := at2 j j2
    rw [e1, e2]
    have e3 : eqS xs[j]? ys[j]? = (x == y) := by
      rw [Array.getElem?_eq_getElem j1, Array.getElem?_eq_getElem j2, e1, e2]
      rfl
    show EqAt _ _ _ _ (eqS xs[j]? ys[j]?)
    rw [e3]
    exact EqAt.str_str x t y u
  · obtain ⟨x, t, e1⟩ := at1 j j1
    obtain ⟨y, u, e2⟩ := at2 j j2
    rw [e1, e2]
    have e3 : ltSS xs[j]? ys[j]? = decide (x.cps.toList < y.cps.toList) := by
      rw [Array.getElem?_eq_getElem j1, Array.getElem?_eq_getElem j2, e1, e2]
      rfl
    show RcLt _ _ _ _ (ltSS xs[j]? ys[j]?)
    rw [e3]
    exact rcLt_str _ _ x t y u
  · exact wpAny_truthy_bool ⟨rfl, rfl⟩
theorem firsts_some : ∀ (vs : List Value) {Q : List (Option Value) → Shared → Prop}, (∀ v ∈ vs, TupS s.heap v) → (∀ fs, Q fs s) → wpAny (model prog w) A (vs.mapM firstOfTuple') Q E s
  | [], Q, _, h => by
    rw [List.mapM_nil]
    exact wpAny_pure (h [])
  | v :: vs, Q, hp, h => by
    obtain ⟨a, xs, rfl, ⟨o, ho, hc, n, hd⟩, _⟩ := hp v (List.mem_cons_self ..)
    rw [List.mapM_cons]
    refine wpAny_bind ?_
    rw [kas_first_eq]
    refine wpAny_bind (Looks.here (show Looks (model prog w) s.heap (typeOf (.ref a)) o.cls from (Looks.ld ho).andThen .now) ?_)
    rw [hc, if_neg (by first | decide | simp)]
    refine wpAny_bind (listItems_at ho hd (wpAny_pure ?_))
    exact wpAny_bind (firsts_some vs (fun v hv => hp v (List.mem_cons_of_mem _ hv)) fun fs => wpAny_pure (h _))
/-- the kind of keys: tuples, the first one empty -/
theorem kind_empty {a : Addr} {vs : List Value} {Q : SortKind → Shared → Prop} (ha : IsTup s.heap a #[]) (hp : ∀ v ∈ vs, TupS s.heap v) (h : Q oneType' s) : wpAny (model prog w) A (keyKind' (Value.ref a :: vs).toArray) Q E s := by
  obtain ⟨o, ho, hc, n, hd⟩ := ha
  rw [kat_kind_eq, List.mapM_toArray, map_eq_pure_bind]
  refine wpAny_bind (wpAny_bind ?_)
  rw [List.mapM_cons]
  refine wpAny_bind ?_
  rw [kas_first_eq]
  refine wpAny_bind (Looks.here (show Looks (model prog w) s.heap (typeOf (.ref a)) o.cls from (Looks.ld ho).andThen .now) ?_)
  rw [hc, if_neg (by first | decide | simp)]
  refine wpAny_bind (listItems_at ho hd (wpAny_pure ?_))
  refine wpAny_bind (firsts_some vs hp fun fs => wpAny_pure (wpAny_pure ?_))
  have e0 : (#[] : Array Value)[0]? = none := rfl
  rw [e0, if_neg (by simp), if_neg (by simp)]
  rw [oneTypeOnly'_eq, List.mapM_toArray, map_eq_pure_bind]
  have hT : ∀ v ∈ Value.ref a :: vs, Looks (model prog w) s.heap (typeOf v) (Value.type "tuple") := fun v hv => by
    rcases List.mem_cons.mp hv with rfl | hv
    · have q : Looks (model prog w) s.heap (typeOf (.ref a)) o.cls := (Looks.ld ho).andThen .now
      rw [hc] at q
      exact q
    · obtain ⟨b, xs, rfl, ⟨ob, hob, hcb, _⟩, _⟩ := hp v hv
      have q : Looks (model prog w) s.heap (typeOf (.ref b)) ob.cls := (Looks.ld hob).andThen .now
      rw [hcb] at q
      exact q
  refine wpAny_bind (wpAny_bind (wpAny_bind (kas_mapM (r := Value.type "tuple") _ (fun v hv Q' hq => (hT v hv).here hq) (wpAny_pure ?_))))
  have hall : ((List.map (fun _ => Value.type "tuple") (Value.ref a :: vs)).toArray.all fun x => x == Value.type "tuple") = true := by
    simp only [List.all_toArray, List.all_map, List.all_eq_true]
    intro _ _
    rfl
  have h0 : (List.map (fun _ => Value.type "tuple") (Value.ref a :: vs)).toArray[0]? = some (Value.type "tuple") := by simp
  rw [h0]
  simp only [hall, if_true]
  exact wpAny_pure (wpAny_pure h)
theorem tups_sortable {a t : Addr} {vs : List Value} (hu : A.units + 1 < cLine) (h0 : IsTup s.heap t #[]) (hp : ∀ v ∈ vs, TupS s.heap v) (ha : ∀ o, s.heap.get? a = some o → o.cls ≠ .type "tuple") : Srt.Sortable prog w A s a (Value.ref t :: vs) := by
  intro h' keep
  have kt : ∀ b o, s.heap.get? b = some o → o.cls = .type "tuple" → h'.get? b = some o := fun b o e c => keep b o (fun z => by subst z; exact ha o e c) e
  have hp' : ∀ v ∈ vs, TupS h' v := fun v hm => (hp v hm).keeps kt
  have h0' : IsTup h' t #[] := by
    obtain ⟨o, ho, hc, r⟩ := h0
    exact ⟨o, kt _ _ ho hc, hc, r⟩
  refine ⟨oneType', fun Q E hq => kind_empty (s := { s with heap := h' }) h0' hp' hq, tups_tot (s := { s with heap := h' }) hu fun v hv => ?_⟩
  rcases List.mem_cons.mp hv with rfl | hv
  · exact ⟨t, #[], rfl, h0', fun x hx => by simp at hx⟩
  · exact hp' v hv
theorem sorted_tups {l t : Addr} {vs : List Value} {Q : Value → Shared → Prop} (hu : A.units + 3 < cLine) (hl : s.heap.IsList l (Value.ref t :: vs).toArray) (hz : (Value.ref t :: vs).length ≤ sizeLine) (h0 : IsTup s.heap t #[]) (hp : ∀ v ∈ vs, TupS s.heap v)
    (h : ∀ (h' : Heap) (d : Addr) (out : List Value), out.Perm (Value.ref t :: vs) → (∀ b o, s.heap.get? b = some o → h'.get? b = some o) → s.heap.objs.size ≤ d → (∃ n, h'.get? d = some (seqObj "list" out.toArray n)) → Q (.ref d) { s with heap := h' }) :
    wpAny (model prog w) A (call (.builtin "sorted") [.ref l]) Q E s := by
  refine Srt.sorted_any hl hz (fun h2 h₁ a ha k => ?_) fun out ho => ?_
  · refine tups_sortable (s := { s with heap := h₁ }) (by show A.units + 1 + 1 + 1 < cLine; omega) ?_ (fun v hm => (hp v hm).keeps fun b o e _ => (k b o e).2) fun o e => ?_
    · obtain ⟨o, ho, hc, r⟩ := h0
      exact ⟨o, (k _ _ ho).2, hc, r⟩
    · have e' : some o = some (seqObj "list" (Value.ref t :: vs).toArray 0) := e.symm.trans ha
      cases e'
      intro c
      exact absurd (Value.type.inj c) (by decide)
  · exact h _ _ out ho (fun b o e => sortedAll_old e) (Nat.le_succ _) (sortedAll_at s.heap (Value.ref t :: vs) out.toArray)
end
end MyZ
namespace MyZ
open PySem PySem.Spec PyProof.Rows L2
section
variable {X : Cx}
/-- sorted(xs), xs a list of tuples of texts, the first one empty: a new list of the same, in some order -/
def rSortedTT (K : PySem.W.Frag) : List V → Hp → VK → Prop := fun vs H Q => ∃ (a t : Addr) (xs : List V), vs = [V.ref a] ∧ SqL K H a (.ref t :: xs) ∧ H t = some (.tup []) ∧ (∀ x ∈ xs, ∃ (t : Addr) (zs : List Str), x = V.ref t ∧ H t = some (.tup (zs.map V.str))) ∧
  ∀ ys p, ys.Perm (.ref t :: xs) → H p = none → Q (.ref p) (upd H p (.lst ys))
theorem cr_sortedTT (hu : X.A.units + 3 < cLine) : CallR X (.builtin "sorted") (rSortedTT X.K) := by
  intro pins s σ H vs us Q I r h
  obtain ⟨a, t0, xs, rfl, hs, ht0, hx, q⟩ := h
  obtain ⟨its, rv, hl, hz⟩ := I.list hs
  obtain ⟨u, rfl, ru⟩ := vals1 r
  obtain rfl : u = Value.ref a := ru
  obtain ⟨e1, e2⟩ := refs_back rv fun x m => by
    rcases List.mem_cons.mp m with rfl | m
    · exact ⟨_, rfl⟩
    · obtain ⟨t, _, e, _⟩ := hx x m
      exact ⟨t, e⟩
  cases its with
  | nil => cases rv
  | cons i0 its =>
    have ei : i0 = Value.ref t0 := by
      cases rv with
      | cons r0 _ => exact r0
    subst ei
    refine sorted_tups (t := t0) (vs := its) hu hl.isList (by rw [← rv.length]; exact hz) ?_ (fun v hv => ?_) fun h' d out hp k hd hn => ?_
    · obtain ⟨_, its2, r2, o, ho, hc, n, hd⟩ := I.hok _ _ ht0
      cases r2
      exact ⟨o, ho, hc, n, hd⟩
    · obtain ⟨t, rfl⟩ := e2 v (List.mem_cons_of_mem _ hv)
      have hm : V.ref t ∈ xs := by
        have e3 : xs = its.map backV := by
          rw [List.map_cons] at e1
          injection e1
        rw [e3]
        exact List.mem_map.mpr ⟨_, hv, rfl⟩
      obtain ⟨t', zs, e, ht⟩ := hx _ hm
      cases e
      obtain ⟨_, its2, r2, o, ho, hc, n, hd⟩ := I.hok _ _ ht
      refine ⟨t, its2.toArray, rfl, ⟨o, ho, hc, n, hd⟩, fun x hx2 => ?_⟩
      have go : ∀ {zs : List Str} {us : List Value}, Vals (zs.map V.str) us → ∀ x ∈ us, ∃ z t, x = Value.str z t := by
        intro zs
        induction zs with
        | nil =>
          intro us r x hx
          cases r
          cases hx
        | cons z zs ih =>
          intro us r x hx
          cases r with
          | cons r1 r2 =>
            rcases List.mem_cons.mp hx with rfl | hx
            · obtain ⟨t, e⟩ := r1
              exact ⟨z, t, e⟩
            · exact ih r2 x hx
      exact go r2 x (by simpa using hx2)
    · have h3 : ∀ u ∈ out, ∃ a, u = Value.ref a := fun u hu => e2 u (hp.mem_iff.mp hu)
      obtain ⟨n, hn⟩ := hn
      refine ⟨.ref d, upd H d (.lst (out.map backV)), I.laid (t' := s.toks) k hd ⟨?_, out, n, vals_back h3, hn⟩, rfl, q _ d ?_ (I.hok.fresh hd)⟩
      · rw [List.length_map, hp.length_eq, ← rv.length]; exact hz
      · rw [e1]; exact hp.map backV
end
end MyZ

/-! ### sorted(t), t a tuple of texts -/
namespace MyZ
open PySem PySem.Spec PyProof.Rows PySem.W PySem.SeqAt PySem.Calls
section
variable {prog : Program} {w : World} {A : Around} {E : Value → Shared → Prop} {s : Shared}
theorem collect_tup {l : Addr} {vs : List Value} {Q : List Value → Shared → Prop} (hl : IsTup s.heap l vs.toArray)
    (h : Q vs { s with heap := (s.heap.push (seqObj "list" #[] 0)).update s.heap.objs.size (Obj.mapSeq (· ++ vs.toArray)) }) (hsz : vs.length ≤ sizeLine) :
    wpAny (model prog w) A (collect (.ref l)) Q E s := by
  obtain ⟨o, ho, hc, n, hd⟩ := id hl
  unfold collect
  refine wpAny_bind (wpAny_runValue (codeAny_builtin entry_proto_collect' ?_))
  show wpAny _ _ (do again (.builtin "list.__iadd__" ⟨[← newList [], .ref l], []⟩)) _ _ s
  refine wpAny_bind (wpAny_newList (wpAny_pure ⟨Code.quiet_builtin _ (by decide +kernel), codeAny_builtin entry_list_iadd' ?_⟩))
  show wpAny _ _ (Builtin.List.listExtendWith (.ref s.heap.objs.size) (.ref l) (.ref s.heap.objs.size)) _ _ { s with heap := s.heap.push (seqObj "list" #[] 0) }
  unfold Builtin.List.listExtendWith
  have ho' : (s.heap.push (seqObj "list" #[] 0)).get? l = some o := Heap.get?_push_of_some _ ho
  refine wpAny_bind (wpAny_typeOf (T := "tuple") ⟨o, ho', hc⟩ ?_)
  have ht : (Value.type "tuple" == Value.type "tuple") = true := by rfl
  rw [if_pos (by rw [ht]; simp)]
  refine wpAny_bind (listItems_at ho' hd ?_)
  refine wpAny_bind (listItems_at (xs := #[]) (n := 0) (Heap.get?_push_size _ rfl) rfl ?_)
  rw [if_neg (by simp)]
  refine wpAny_bind (listUpdate_at (xs := #[]) (n := 0) (Heap.get?_push_size _ rfl) rfl ?_ (Nat.zero_le _) (by show (#[] ++ vs.toArray).size ≤ sizeLine + 1; simp only [Array.size_append, List.size_toArray, List.length_nil]; omega))
  refine wpAny_pure ?_
  show wpAny (model prog w) A (do
      let o ← load s.heap.objs.size
      match o.data with
      | .seq xs _ => pure xs.toList
      | _ => unsupported "internal:collect") Q E { s with heap := (s.heap.push (seqObj "list" #[] 0)).update s.heap.objs.size (Obj.mapSeq (· ++ vs.toArray)) }
  refine wpAny_bind (wpAny_load (get?_update_seq (Heap.get?_push_size _ rfl) _) ?_)
  show wpAny _ _ (pure ((#[] : Array Value) ++ vs.toArray).toList) Q E _
  rw [show ((#[] : Array Value) ++ vs.toArray).toList = vs by simp]
  exact wpAny_pure h
theorem sorted_anyT {l : Addr} {vs : List Value} {Q : Value → Shared → Prop} (hl : IsTup s.heap l vs.toArray) (hz : vs.length ≤ sizeLine)
    (hS : 2 ≤ vs.length → ∀ (h₁ : Heap) (a : Addr), h₁.get? a = some (seqObj "list" vs.toArray 0) → (∀ b o, s.heap.get? b = some o → b ≠ a ∧ h₁.get? b = some o) → Srt.Sortable prog w A.in1.in1 { s with heap := h₁ } a vs)
    (h : ∀ out : List Value, out.Perm vs → Q (.ref (s.heap.objs.size + 1)) { s with heap := sortedAll s.heap vs out.toArray }) :
    wpAny (model prog w) A (call (.builtin "sorted") [.ref l]) Q E s := by
  refine Calls.call_function_entry kind_sorted plain_sorted entry_sorted (args_sorted1 _) ?_
  unfold Builtin.«sorted»
  refine wpAny_bind (m := checkCount "sorted" 1 1 _) (wpAny_pure ?_)
  refine wpAny_bind (collect_tup hl ?_ hz)
  refine wpAny_bind (wpAny_newList ?_ hz)
  have hsz : ((s.heap.push (seqObj "list" #[] 0)).update s.heap.objs.size (Obj.mapSeq (· ++ vs.toArray))).objs.size = s.heap.objs.size + 1 := by
    rw [Heap.size_update, size_push']
  have hoL : (((s.heap.push (seqObj "list" #[] 0)).update s.heap.objs.size (Obj.mapSeq (· ++ vs.toArray))).push (seqObj "list" vs.toArray 0)).get? (s.heap.objs.size + 1) = some (seqObj "list" vs.toArray 0) := by
    rw [← hsz]; exact Heap.get?_push_size _ rfl
  have keep : ∀ b o, s.heap.get? b = some o → b ≠ s.heap.objs.size + 1 ∧ (((s.heap.push (seqObj "list" #[] 0)).update s.heap.objs.size (Obj.mapSeq (· ++ vs.toArray))).push (seqObj "list" vs.toArray 0)).get? b = some o := fun b o q => by
    have hlt : b < s.heap.objs.size := Heap.lt_size q
    refine ⟨Nat.ne_of_lt (Nat.lt_succ_of_lt hlt), Heap.get?_push_of_some _ ?_⟩
    rw [Heap.get?_update_ne _ _ _ _ (Nat.ne_of_lt hlt)]
    exact Heap.get?_push_of_some _ q
  show wpAny _ _ _ _ _ { s with heap := ((s.heap.push (seqObj "list" #[] 0)).update s.heap.objs.size (Obj.mapSeq (· ++ vs.toArray))).push (seqObj "list" vs.toArray 0) }
  rw [hsz]
  refine wpAny_bind (wpAny_holding (wpAny_call_entry slot_list_sort ⟨_, hoL, rfl⟩ entry_list_sort (Srt.list_sort_any hoL hz (fun h2 => hS h2 _ _ hoL keep) fun out hp => ⟨_, rfl, ?_⟩) (args_list_sort _)))
  exact wpAny_pure ⟨_, rfl, h out hp⟩
theorem strs_sortable {a : Addr} {vs : List Value} {zs : List Str} (h2 : 2 ≤ vs.length) (hS : StrsAre vs zs) (hall : ∀ v ∈ vs, ∃ z t, v = Value.str z t) : Srt.Sortable prog w A s a vs := by
  intro h' keep
  refine ⟨oneType', fun Q E hq => ?_, fun p q hp hq => ?_⟩
  · match vs, h2, hS with
    | v₁ :: v₂ :: rest, _, hS =>
      rw [keyKind_strs hS]
      exact wpAny_pure hq
  · obtain ⟨x, t, e1⟩ := hall _ hp
    obtain ⟨y, u, e2⟩ := hall _ hq
    rw [e1, e2]
    refine ⟨decide (x.cps.toList < y.cps.toList), ?_⟩
    rw [keyLt'_oneType]
    exact oneLt_str ⟨rfl, rfl⟩
end
def strOf : Value → Str
  | .str z _ => z
  | _ => Str.empty
theorem strs_of_vals : ∀ {zs : List Str} {us : List Value}, L2.Vals (zs.map L2.V.str) us → us.map strOf = zs ∧ ∀ u ∈ us, ∃ z t, u = Value.str z t
  | [], us, r => by
    cases r
    exact ⟨rfl, fun u hu => by cases hu⟩
  | z :: zs, us, r => by
    cases r with
    | cons r1 r2 =>
      obtain ⟨t, rfl⟩ := r1
      obtain ⟨e, h⟩ := strs_of_vals r2
      refine ⟨by rw [List.map_cons, e]; rfl, fun u hu => ?_⟩
      rcases List.mem_cons.mp hu with rfl | hu
      · exact ⟨z, t, rfl⟩
      · exact h u hu
theorem vals_strOf : ∀ {us : List Value}, (∀ u ∈ us, ∃ z t, u = Value.str z t) → L2.Vals ((us.map strOf).map L2.V.str) us
  | [], _ => .nil
  | u :: us, h => by
    obtain ⟨z, t, rfl⟩ := h u (List.mem_cons_self ..)
    exact .cons ⟨t, rfl⟩ (vals_strOf fun v hv => h v (List.mem_cons_of_mem _ hv))
end MyZ
namespace MyZ
open PySem PySem.Spec PyProof.Rows L2
section
variable {X : Cx}
/-- sorted(t), t a tuple of texts: a new list of the same, in some order -/
def rSortedTup (K : PySem.W.Frag) : List V → Hp → VK → Prop := fun vs H Q => ∃ (a : Addr) (zs : List Str), vs = [V.ref a] ∧ SqT K H a (zs.map V.str) ∧
  ∀ (ys : List Str) p, ys.Perm zs → H p = none → Q (.ref p) (upd H p (.lst (ys.map V.str)))
theorem cr_sortedTup : CallR X (.builtin "sorted") (rSortedTup X.K) := by
  intro pins s σ H vs us Q I r h
  obtain ⟨a, zs, rfl, hs, q⟩ := h
  obtain ⟨its, rv, hl, hz⟩ := I.tuple hs
  obtain ⟨u, rfl, ru⟩ := vals1 r
  obtain rfl : u = Value.ref a := ru
  obtain ⟨e1, e2⟩ := strs_of_vals rv
  have hz2 : its.length ≤ sizeLine := by rw [← rv.length]; exact hz
  refine sorted_anyT hl hz2 (fun h2 h₁ b hb k => strs_sortable h2 rv.strs e2) fun out hp => ?_
  obtain ⟨n, hn⟩ := sortedAll_at s.heap its out.toArray
  have h3 : ∀ u ∈ out, ∃ z t, u = Value.str z t := fun u hu => e2 u (hp.mem_iff.mp hu)
  refine ⟨.ref (s.heap.objs.size + 1), upd H (s.heap.objs.size + 1) (.lst ((out.map strOf).map V.str)), I.laid (t' := s.toks) (fun _ _ => sortedAll_old) (Nat.le_succ _) ⟨?_, out, n, vals_strOf h3, hn⟩, rfl, q _ _ ?_ (I.hok.fresh (Nat.le_succ _))⟩
  · rw [List.length_map, List.length_map, hp.length_eq]; exact hz2
  · rw [← e1]; exact hp.map strOf
end
end MyZ
end

section
set_option Elab.async false
set_option linter.all false
set_option maxRecDepth 100000
set_option maxHeartbeats 4000000
namespace My
local macro_rules | `(tactic| walk_at "go") => `(tactic| (repeat (first
  | (refine ⟨_, rfl, ?_⟩)
  | (refine ⟨_, _, rfl, rfl, ?_⟩)
  | (refine ⟨_, _, rfl, ?_⟩)
  | (refine ⟨rfl, ?_⟩)
  | (refine Or.inl ⟨_, rfl, ?_⟩)
  | (refine ⟨_, _, _, _, rfl, rfl, L2.SqL.of (by first | assumption | exact L2.upd_same), rfl, ?_⟩)
  | (refine ⟨_, _, _, _, rfl, rfl, (by first | assumption | exact L2.upd_same), rfl, ?_⟩)
  | (refine And.intro (by first | omega | decide | (unfold L2.CPow; decide) | (unfold L2.CMul; omega) | (unfold L2.CDiv; omega)) ?_))))
open PySem PySem.Spec PyProof.Rows L2 TL MyF MyS MyW MyT MyQ MyV MyZ RZ
theorem pr_imp {α β : Type} {F G : α → β → Prop} : ∀ {as : List α} {bs : List β}, (∀ a b, F a b → G a b) → Paired F as bs → Paired G as bs
  | _, _, _, .nil => .nil
  | _, _, h, .cons r t => .cons (h _ _ r) (pr_imp h t)
theorem pr_mem {α β : Type} {F : α → β → Prop} : ∀ {as : List α} {bs : List β}, Paired F as bs → ∀ a ∈ as, ∃ b ∈ bs, F a b
  | _, _, .nil, a, h => by cases h
  | _, _, .cons (a := x) (b := y) r t, a, h => by
    rcases List.mem_cons.mp h with rfl | h
    · exact ⟨y, List.mem_cons_self .., r⟩
    · obtain ⟨b, hb, k⟩ := pr_mem t a h
      exact ⟨b, List.mem_cons_of_mem _ hb, k⟩
/-- t holds a tuple that x may give -/
def TupR (R : V → List V → Prop) (H : Hp) (t : Addr) (x : V) : Prop := ∃ zs, R x zs ∧ H t = some (.tup zs)
theorem tupsR_it {J : It} {xs : List V} {G : Hp → Prop} (w : Walk J xs.length G (YAt xs)) {g : TG} {tt : TT} {te : TE} {vs : List Nat} {σ : L2.St} {H1 : Hp} {D : Addr} {Qd : Hp → Prop} (R : V → List V → Prop) (nD : H1 D = none) (few : xs.length < sizeLine)
    (hG : ∀ H, Same H1 H → G H)
    (turn : ∀ x H2 (Ψ : V → Hp → Prop) (Θ : Hp → Prop), x ∈ xs → Same H1 H2 → (∀ t zs H5, Same H2 H5 → H5 t = some (.tup zs) → R x zs → Ψ (.ref t) H5) →
      g x (wipe σ vs) H2 fun σ2 H2 => wipe σ2 vs = wipe σ vs ∧ tt σ2 H2 fun b H3 => if b = true then te σ2 H3 Ψ else Θ H3)
    (done : ∀ H2 ts, Same H1 H2 → H2 D = some (.lst (ts.map V.ref)) → Paired (TupR R H2) ts xs → Qd H2) :
    ∃ W : Nat → Nat → Hp → Prop, (∃ m, W 0 m (upd H1 D (.lst []))) ∧ ∀ i m H, W i m H →
      (J.stop i H ∧ Qd H) ∨ (J.go i H ∧ ∃ Nx : Hp → Prop, (∀ H', Nx H' → ∃ m', m' < m ∧ W (i + 1) m' H') ∧ ∀ x H', J.yld i H x H' → g x (wipe σ vs) H' fun σ2 H2 => wipe σ2 vs = wipe σ vs ∧ tt σ2 H2 fun b H3 =>
        if b = true then te σ2 H3 fun y H4 => ∃ acc, H4 D = some (.lst acc) ∧ acc.length < sizeLine ∧ Nx (upd H4 D (.lst (acc ++ [y]))) else Nx H3) := by
  refine lc_it w (fun i H => Same H1 H ∧ i ≤ xs.length ∧ ∃ ts : List Addr, H D = some (.lst (ts.map V.ref)) ∧ Paired (TupR R H) ts (xs.take i)) ⟨same_new nD, Nat.zero_le _, [], upd_same, .nil⟩ (fun i H _ h => hG H h.1) ?_
    (fun H h => by
      obtain ⟨s, _, ts, hd, tp⟩ := h
      rw [List.take_length] at tp
      exact done H ts s hd tp)
  rintro i x H H' hi ⟨s, hi2, ts, hd, tp⟩ ⟨rfl, hx⟩
  refine turn x H' _ _ (List.mem_of_getElem? hx) s fun t zs H5 s5 ht hR => ?_
  have hd5 := s5 D _ hd
  have nt : t ≠ D := by
    rintro rfl
    rw [ht] at hd5
    cases hd5
  have keep : ∀ b o, H5 b = some o → b ≠ D → upd H5 D (.lst (ts.map V.ref ++ [V.ref t])) b = some o := fun b o e ne => by rw [upd_ne ne]; exact e
  have s6 : Same H1 (upd H5 D (.lst (ts.map V.ref ++ [V.ref t]))) := fun b o e => keep b o (s5 b o (s b o e)) (ne_of_none e nD)
  refine ⟨_, hd5, ?_, s6, hi, ts ++ [t], by rw [upd_same, List.map_append]; rfl, ?_⟩
  · rw [List.length_map, tp.length, List.length_take]
    omega
  · rw [List.take_add_one, hx]
    refine paired_snoc (pr_imp (fun a b q => ?_) tp) ⟨zs, hR, keep t _ ht nt⟩
    obtain ⟨ys, hy, e⟩ := q
    refine ⟨ys, hy, keep a _ (s5 _ _ e) fun z => ?_⟩
    rw [z, hd] at e
    cases e
theorem tupsR_seq {K : PySem.W.Frag} {a : Addr} {xs : List V} {i : Nat} {g : TG} {tt : TT} {te : TE} {vs : List Nat} {σ : L2.St} {H : Hp} {Q : V → Hp → Prop} (R : V → List V → Prop) (hσ : σ[i]? = some (some (.ref a))) (hS : Sq K H a xs) (few : xs.length < sizeLine)
    (turn : ∀ x H2 (Ψ : V → Hp → Prop) (Θ : Hp → Prop), x ∈ xs → Same H H2 → (∀ t zs H5, Same H2 H5 → H5 t = some (.tup zs) → R x zs → Ψ (.ref t) H5) →
      g x (wipe σ vs) H2 fun σ2 H2 => wipe σ2 vs = wipe σ vs ∧ tt σ2 H2 fun b H3 => if b = true then te σ2 H3 Ψ else Θ H3)
    (done : ∀ H2 D ts, Same H H2 → H D = none → H2 D = some (.lst (ts.map V.ref)) → Paired (TupR R H2) ts xs → Q (.ref D) H2) : tLc (iSq K i) g tt te vs σ H Q := by
  rcases hS with hS | hS
  · exact .inl ⟨_, hσ, a, rfl, ⟨xs, hS⟩, fun D nD => tupsR_it (Qd := fun H2 => Q (.ref D) H2) walk_list R nD few (fun H2 s2 => sqL_same hS s2) turn fun H2 ts s2 h2 tp => done H2 D ts s2 nD h2 tp⟩
  · exact .inr ⟨_, hσ, a, rfl, ⟨xs, hS⟩, fun D nD => tupsR_it (Qd := fun H2 => Q (.ref D) H2) walk_tup R nD few (fun H2 s2 => sqT_same hS s2) turn fun H2 ts s2 h2 tp => done H2 D ts s2 nD h2 tp⟩
theorem cat_snoc {K : PySem.W.Frag} {H : Hp} {a b : Addr} {xs : List V} {y : V} {Q : V → Hp → Prop} (h1 : SqT K H a xs) (h2 : H b = some (.tup [y])) (few : xs.length + 1 ≤ sizeLine) (k : ∀ H' p, Same H H' → H' p = some (.tup (xs ++ [y])) → Q (.ref p) H') :
    rCatA K (.ref a) (.ref b) H Q :=
  ⟨a, b, xs, [y], rfl, rfl, h1, SqT.of h2, few, fun e => k H b (same_refl H) (by rw [e]; exact h2), fun _ e => absurd e (by simp), fun _ _ p np => k _ p (same_new np) upd_same⟩
theorem perm_refs {ys : List V} {ts : List Addr} (pm : ys.Perm (ts.map V.ref)) : ∃ us : List Addr, ys = us.map V.ref ∧ us.Perm ts := by
  have go : ∀ l : List V, (∀ x ∈ l, ∃ z, x = V.ref z) → l = (l.filterMap fun | .ref z => some z | _ => none).map V.ref := by
    intro l
    induction l with
    | nil => intro _; rfl
    | cons x l ih =>
      intro h
      obtain ⟨z, rfl⟩ := h x (List.mem_cons_self ..)
      have e := ih fun y hy => h y (List.mem_cons_of_mem _ hy)
      show V.ref z :: l = V.ref z :: (l.filterMap fun | .ref z => some z | _ => none).map V.ref
      rw [← e]
  refine ⟨_, go ys fun x hx => ?_, ?_⟩
  · obtain ⟨z, _, e⟩ := List.mem_map.mp (pm.mem_iff.mp hx)
    exact ⟨z, e.symm⟩
  · have q := pm.filterMap (fun | V.ref z => some z | _ => none)
    have e : (ts.map V.ref).filterMap (fun | V.ref z => some z | _ => none) = ts := by
      rw [List.filterMap_map]
      exact List.filterMap_some
    rw [e] at q
    exact q
theorem strs_inj : ∀ {a b : List Str}, a.map V.str = b.map V.str → a = b
  | [], [], _ => rfl
  | [], _ :: _, h => by cases h
  | _ :: _, [], h => by cases h
  | x :: a, y :: b, h => by
    rw [List.map_cons, List.map_cons] at h
    injection h with h1 h2
    injection h1 with h1
    rw [h1, strs_inj h2]
theorem pow3 {i : Nat} (h : i ≤ 6) : 3 ^ i ≤ 729 := Nat.le_trans (Nat.pow_le_pow_right (by decide) h) (by decide)
/-- signed parts of the names -/
def PartAt (H : Hp) (ns : List Str) (t : Addr) : Prop := ∃ ps ss : List Str, H t = some (.tup (ps.map V.str)) ∧ Sgs ps ss ∧ ss.Sublist ns
def itemsAt (H : Hp) : V → List V
  | .ref t => match H t with
    | some (.tup xs) => xs
    | _ => []
  | _ => []
theorem itemsAt_of {H : Hp} {t : Addr} {xs : List V} (h : H t = some (.tup xs)) : itemsAt H (.ref t) = xs := by
  show (match H t with | some (.tup xs) => xs | _ => []) = xs
  rw [h]
section
variable {P : Program} {w : World} {K : PySem.W.Frag} {mg : Str → Option Value} {base : Heap}
/-! ### _law_parts -/
def rAddS : V → V → Hp → VK → Prop := fun x y H Q => ∃ i j, x = .str i ∧ y = .str j ∧ i.length + j.length ≤ sizeLine ∧ Q (.str (i ++ j)) H
def rTupOf (K : PySem.W.Frag) : List V → Hp → VK → Prop := fun xs H Q => ∃ p ys, xs = [.ref p] ∧ ((SqL K H p ys ∧ ∀ l, H l = none → Q (.ref l) (upd H l (.tup ys))) ∨ (SqT K H p ys ∧ Q (.ref p) H))
theorem cr_tupOf {X : Cx} : CallR X (.type "tuple") (rTupOf X.K) := call_tuple_of
abbrev sParts : Stmt := top 48
def spParts (K : PySem.W.Frag) : Sp := fun vs H Q _ => ∃ (q : Addr) (ns : List Str), vs = [.ref q] ∧ SqL K H q (ns.map V.str) ∧ ns.length ≤ 6 ∧ ns.Nodup ∧ ns.all lowZ = true ∧
  ∀ (H' : Hp) (r : Addr) (ts : List Addr), Same H H' → H r = none → H' r = some (.lst (ts.map V.ref)) → ts.length ≤ 729 → (∀ t ∈ ts, ∃ ps : List Str, H' t = some (.tup (ps.map V.str)) ∧ ∀ x ∈ ps, oppS x ∉ ps) → Q (.ref r) H'
theorem sc_parts : FnScope ["_law_names", "_law_found", "_law_name", "_law_part"] ["_law_names"] (defScope sParts) := ⟨rfl, rfl, rfl, by decide +kernel, rfl, by decide +kernel, by decide +kernel⟩
theorem ok_parts {f : Addr} {fd : FuncData} (G : Fun K "_law_parts" "_law_parts" sParts f fd) (hsorted : mg "sorted" = none) (htuple : mg "tuple" = none) : FnOk P w K mg base CX0 1 f fd ["_law_names"] (spParts K) := by
  have sc := sc_parts
  refine G.ok sc (fun vs H Q E h => ?_) (fun cdv A outer s H vs Q E hr h => ?_)
  · obtain ⟨_, _, rfl, _⟩ := h
    rfl
  · obtain ⟨q, ns, rfl, hS, h6, nd, lo, k⟩ := h
    have big : (100000 : Nat) < sizeLine := by decide
    have hu := hu_of hr
    refine ⟨_, pss_cons (ps_set (i := 1) sc.nd rfl (Or.inl rfl) (pe_lst (pa_cons (pe_tup pa_nil) pa_nil)))
      (pss_cons (ps_for PassesOwn.never rfl (pi_list (pv 0)) (pg_name (i := 2) sc.nd rfl (Or.inr rfl))
        (pss_one (ps_set (i := 1) sc.nd rfl (Or.inl rfl) (pe_op op_cat (pe_op op_cat (pv 1)
          (pe_lc (own := [("_law_part", 3)]) (g := gName 3) (tt := tYes) (te := tOp (rCatA K) (tVar 3) (tTup (tCons (tVar 2) tNil))) rfl sc.nd (pi_sq (pv 1)) (blkOk_by (N := ["_law_names", "_law_found", "_law_name", "_law_part"]) (sc := defScope sParts) (by decide +kernel)) (fun _ _ _ _ _ => pg_name (i := 3) sc.nd rfl (Or.inl rfl)) (fun _ _ _ _ _ => pts_nil)
            (fun _ _ _ _ _ => pe_op op_catA (pv 3) (pe_tup (pa_cons (pv 2) pa_nil)))))
          (pe_lc (own := [("_law_part", 3)]) (g := gName 3) (tt := tYes) (te := tOp (rCatA K) (tVar 3) (tTup (tCons (tOp rAddS (tC (.str dash)) (tVar 2)) tNil))) rfl sc.nd (pi_sq (pv 1)) (blkOk_by (N := ["_law_names", "_law_found", "_law_name", "_law_part"]) (sc := defScope sParts) (by decide +kernel)) (fun _ _ _ _ _ => pg_name (i := 3) sc.nd rfl (Or.inl rfl)) (fun _ _ _ _ _ => pts_nil)
            (fun _ _ _ _ _ => pe_op op_catA (pv 3) (pe_tup (pa_cons (pe_op op_add_str pe_str (pv 2)) pa_nil))))))))
      (pss_one (ps_ret (pe_callB (cr_sortedTT (Nat.lt_of_le_of_lt (Nat.add_le_add_left (by decide : 3 ≤ 64) _) hr.units)) (by rfl) hsorted boot_sorted (pa_cons
          (pe_lc (own := [("_law_part", 3)]) (g := gName 3) (tt := tYes) (te := tCB (rTupOf K) (tCons (tCB (rSortedTup K) (tCons (tVar 3) tNil)) tNil)) rfl sc.nd (pi_sq (pv 1)) (blkOk_by (N := ["_law_names", "_law_found", "_law_name", "_law_part"]) (sc := defScope sParts) (by decide +kernel)) (fun _ _ _ _ _ => pg_name (i := 3) sc.nd rfl (Or.inl rfl)) (fun _ _ _ _ _ => pts_nil)
            (fun _ _ _ _ _ => pe_callTy cr_tupOf (by rfl) htuple boot_tuple (pa_cons (pe_callB cr_sortedTup (by rfl) hsorted boot_sorted (pa_cons (pv 3) pa_nil)) pa_nil))) pa_nil))))), ?_⟩
    refine ⟨(by show 0 ≤ sizeLine; omega), fun t0 n0 => ?_⟩
    refine ⟨(by show 1 ≤ sizeLine; omega), fun F nF => ?_⟩
    have s0 := same_trans (same_new (o := .tup []) n0) (same_new (o := .lst [.ref t0]) nF)
    have ht0 := (same_new (o := .lst [.ref t0]) nF) _ _ (upd_same (H := H) (a := t0) (o := .tup []))
    refine ⟨_, rfl, q, rfl, ⟨_, sqL_same hS s0⟩, ?_⟩
    refine for_list (xs := ns.map V.str) (fun i σ Hc => i ≤ ns.length ∧ ∃ (F t0 : Addr) (r : List Addr) (v : Option V), σ = [some (.ref q), some (.ref F), v, none] ∧ Same H Hc ∧ H F = none ∧ Hc F = some (.lst ((t0 :: r).map V.ref)) ∧ (t0 :: r).length = 3 ^ i ∧ Hc t0 = some (.tup []) ∧ ∀ t ∈ t0 :: r, PartAt Hc (ns.take i) t) ?_ ?_ ?_ ?_
    · refine ⟨Nat.zero_le _, F, t0, [], none, rfl, s0, same_free (same_new n0) nF, upd_same, rfl, ht0, fun t ht => ?_⟩
      rw [List.mem_singleton.mp ht]
      exact ⟨[], [], ht0, .nil, List.nil_sublist _⟩
    · rintro i σ Hc hi ⟨_, F, t0, r, v, rfl, sm, _⟩
      exact sqL_same hS sm
    · rintro i x σ Hc hx ⟨hi, F, t0, r, v, rfl, sm, nF, hF, l3, ht0, parts⟩
      have hi2 : i < ns.length := by
        have := (List.getElem?_eq_some_iff.mp hx).1
        rw [List.length_map] at this
        exact this
      rw [List.getElem?_map, List.getElem?_eq_getElem hi2] at hx
      cases hx
      have lown : lowZ ns[i] = true := List.all_eq_true.mp lo _ (List.getElem_mem hi2)
      have ln := low_parts lown
      have l729 : (t0 :: r).length ≤ 729 := by
        rw [l3]
        exact pow3 (by omega)
      have l243 : (t0 :: r).length * 3 ≤ 729 := by
        rw [l3, ← Nat.pow_succ]
        exact pow3 (by omega)
      have got : ∀ (y : Str) (Ha Hb : Hp) (ts : List Addr), Sg y ns[i] → Same Hc Ha → Same Ha Hb → Paired (TupR (fun x zs => zs = itemsAt Hc x ++ [.str y]) Hb) ts ((t0 :: r).map V.ref) → ts.length = (t0 :: r).length ∧ ∀ t ∈ ts, PartAt Hb (ns.take (i + 1)) t := fun y Ha Hb ts sg sa sb pr => by
        refine ⟨by rw [pr.length, List.length_map], fun t ht => ?_⟩
        obtain ⟨x, hx, zs, e, hz⟩ := pr_mem pr t ht
        obtain ⟨u, hu, rfl⟩ := List.mem_map.mp hx
        obtain ⟨ps, ss, hp, sgs, sub⟩ := parts u hu
        rw [itemsAt_of hp] at e
        refine ⟨ps ++ [y], ss ++ [ns[i]], by rw [hz, e, List.map_append]; rfl, sgs.snoc sg, ?_⟩
        rw [List.take_add_one, List.getElem?_eq_getElem hi2]
        exact sub.append (List.Sublist.refl _)
      refine ⟨_, rfl, ?_⟩
      dsimp only [tSeq, tAsg, tRet, tCB, tCons, tNil, tCall, tNext]
      refine tupsR_seq (fun x zs => zs = itemsAt Hc x ++ [.str ns[i]]) rfl (.inl (SqL.of hF)) (by rw [List.length_map]; omega) (fun x H2 Ψ Θ hx s2 yes => ?_) (fun H2 D1 ts1 s2 nD1 h2 pr1 => ?_)
      · obtain ⟨u, hu, rfl⟩ := List.mem_map.mp hx
        obtain ⟨ps, ss, hp, sgs, sub⟩ := parts u hu
        have lps : ps.length ≤ 6 := by
          have := sub.length_le
          rw [List.length_take] at this
          have := sgs.len
          omega
        walk_at "go"
        refine ⟨(by show 1 ≤ sizeLine; omega), fun b nb => ?_⟩
        refine cat_snoc (SqT.of ((same_new nb) _ _ (s2 _ _ hp))) upd_same (by rw [List.length_map]; omega) fun H5 p s5 hp5 => ?_
        exact yes p _ H5 (same_trans (same_new nb) s5) hp5 (by rw [itemsAt_of hp])
      · obtain ⟨l1, parts1⟩ := got _ _ _ ts1 (.inl rfl) (same_refl _) s2 pr1
        refine ⟨F, D1, _, _, rfl, rfl, s2 _ _ hF, h2, by rw [List.length_map, List.length_map]; omega, fun D2 nD2 => ?_⟩
        have s3 := same_trans s2 (same_new (o := .lst ((t0 :: r).map V.ref ++ ts1.map V.ref)) nD2)
        have hD2 : upd H2 D2 (.lst ((t0 :: r).map V.ref ++ ts1.map V.ref)) D2 = some (.lst ((t0 :: r).map V.ref ++ ts1.map V.ref)) := upd_same
        have sp3 := same_new (o := .lst ((t0 :: r).map V.ref ++ ts1.map V.ref)) nD2
        generalize upd H2 D2 (.lst ((t0 :: r).map V.ref ++ ts1.map V.ref)) = H3 at s3 hD2 sp3
        refine tupsR_seq (fun x zs => zs = itemsAt Hc x ++ [.str (dash ++ ns[i])]) rfl (.inl (SqL.of (s3 _ _ hF))) (by rw [List.length_map]; omega) (fun x H4 Ψ Θ hx s4 yes => ?_) (fun H4 D3 ts2 s4 nD3 h4 pr2 => ?_)
        · obtain ⟨u, hu, rfl⟩ := List.mem_map.mp hx
          obtain ⟨ps, ss, hp, sgs, sub⟩ := parts u hu
          have lps : ps.length ≤ 6 := by
            have := sub.length_le
            rw [List.length_take] at this
            have := sgs.len
            omega
          walk_at "go"
          refine ⟨?_, (by show 1 ≤ sizeLine; omega), fun b nb => ?_⟩
          · show 1 + ns[i].length ≤ sizeLine
            have := ln.2.1
            omega
          refine cat_snoc (SqT.of ((same_new nb) _ _ (s4 _ _ (s3 _ _ hp)))) upd_same (by rw [List.length_map]; omega) fun H5 p s5 hp5 => ?_
          exact yes p _ H5 (same_trans (same_new nb) s5) hp5 (by rw [itemsAt_of hp])
        · obtain ⟨l2, parts2⟩ := got _ _ _ ts2 (.inr rfl) s3 s4 pr2
          refine ⟨D2, D3, _, _, rfl, rfl, s4 _ _ hD2, h4, by rw [List.length_append, List.length_map, List.length_map, List.length_map]; omega, fun D4 nD4 => ?_⟩
          have sp5 := same_new (o := .lst ((t0 :: r).map V.ref ++ ts1.map V.ref ++ ts2.map V.ref)) nD4
          have sA := same_trans s4 sp5
          have sB := same_trans sp3 sA
          refine ⟨hi2, D4, t0, r ++ ts1 ++ ts2, _, rfl, same_trans sm (same_trans s3 sA), same_free sm (same_free s3 (same_free s4 nD4)), ?_, ?_, sA _ _ (s3 _ _ ht0), fun t ht => ?_⟩
          · rw [upd_same]
            simp
          · rw [Nat.pow_succ, ← l3, List.length_cons, List.length_append, List.length_append, l1, l2, List.length_cons]
            omega
          · have keepP : ∀ {Ha Hb : Hp} {ms ms' : List Str} {t : Addr}, PartAt Ha ms t → Same Ha Hb → ms.Sublist ms' → PartAt Hb ms' t := fun {Ha Hb ms ms' t} pa sab sub => by
              obtain ⟨ps, ss, hp, sgs, su⟩ := pa
              exact ⟨ps, ss, sab _ _ hp, sgs, su.trans sub⟩
            rcases List.mem_cons.mp ht with rfl | ht
            · exact keepP (parts _ (List.mem_cons_self ..)) (same_trans s3 sA) (by rw [List.take_add_one]; exact List.sublist_append_left ..)
            · rcases List.mem_append.mp ht with ht | ht
              · rcases List.mem_append.mp ht with ht | ht
                · exact keepP (parts _ (List.mem_cons_of_mem _ ht)) (same_trans s3 sA) (by rw [List.take_add_one]; exact List.sublist_append_left ..)
                · exact keepP (parts1 t ht) sB (List.Sublist.refl _)
              · exact keepP (parts2 t ht) sp5 (List.Sublist.refl _)
    · rintro σ Hc ⟨_, F, t0, r, v, rfl, sm, nF, hF, l3, ht0, parts⟩
      rw [List.length_map] at l3 parts
      rw [List.take_length] at parts
      have l729 : (t0 :: r).length ≤ 729 := by
        rw [l3]
        exact pow3 h6
      dsimp only [tSeq, tAsg, tRet, tCB, tCons, tNil, tCall, tNext]
      refine tupsR_seq (fun x zs => ∃ ys : List Str, zs = ys.map V.str ∧ (∀ ps : List Str, itemsAt Hc x = ps.map V.str → ys.Perm ps)) rfl (.inl (SqL.of hF)) (by rw [List.length_map]; omega) (fun x H2 Ψ Θ hx s2 yes => ?_) (fun H2 D1 ts1 s2 nD1 h2 pr1 => ?_)
      · obtain ⟨u, hu, rfl⟩ := List.mem_map.mp hx
        obtain ⟨ps, ss, hp, sgs, sub⟩ := parts u hu
        walk_at "go"
        refine ⟨u, ps, rfl, SqT.of (s2 _ _ hp), fun ys a pm na => ?_⟩
        refine ⟨a, _, rfl, .inl ⟨SqL.of upd_same, fun l nl => ?_⟩⟩
        refine yes l _ _ (same_trans (same_new na) (same_new nl)) upd_same ⟨ys, rfl, fun ps2 e => ?_⟩
        rw [itemsAt_of hp] at e
        rw [← strs_inj e]
        exact pm
      · have l1 : ts1.length = (t0 :: r).length := by rw [pr1.length, List.length_map]
        have each : ∀ t ∈ ts1, ∃ ps : List Str, H2 t = some (.tup (ps.map V.str)) ∧ ∀ x ∈ ps, oppS x ∉ ps := fun t ht => by
          obtain ⟨x, hx, zs, ⟨ys, rfl, pm⟩, hz⟩ := pr_mem pr1 t ht
          obtain ⟨u, hu, rfl⟩ := List.mem_map.mp hx
          obtain ⟨ps, ss, hp, sgs, sub⟩ := parts u hu
          have pm2 := pm ps (itemsAt_of hp)
          have low : ∀ s ∈ ss, lowZ s = true := fun s hs => List.all_eq_true.mp lo s (sub.subset hs)
          have hs := sgs_has sgs (nd.sublist sub) low
          refine ⟨ys, hz, fun x hx ho => List.any_eq_false.mp hs x (pm2.mem_iff.mp hx) (decide_eq_true (pm2.mem_iff.mp ho))⟩
        cases pr1 with
        | @cons t1 x1 ts1 xs1 r1 rt =>
          obtain ⟨zs, ⟨ys, rfl, pm⟩, hz⟩ := r1
          have ey : ys = [] := List.Perm.eq_nil (pm [] (itemsAt_of ht0))
          subst ey
          refine ⟨D1, t1, ts1.map V.ref, rfl, SqL.of h2, hz, fun x hx => ?_, fun ys p pm2 np => ?_⟩
          · obtain ⟨t, ht, rfl⟩ := List.mem_map.mp hx
            obtain ⟨ps, e, _⟩ := each t (List.mem_cons_of_mem _ ht)
            exact ⟨t, ps, rfl, e⟩
          · obtain ⟨us, rfl, pu⟩ := perm_refs (ts := t1 :: ts1) pm2
            have s3 := same_new (o := .lst (us.map V.ref)) np
            refine k _ p us (same_trans sm (same_trans s2 s3)) (same_free sm (same_free s2 np)) upd_same ?_ fun t ht => ?_
            · rw [pu.length_eq, l1]
              exact l729
            · obtain ⟨ps, e, q⟩ := each t (pu.mem_iff.mp ht)
              exact ⟨ps, s3 _ _ e, q⟩
end
end My
end

section
set_option Elab.async false
set_option linter.all false
set_option maxRecDepth 100000
set_option maxHeartbeats 4000000
namespace My
local macro_rules | `(tactic| walk_at "go") => `(tactic| (repeat (first
  | (refine ⟨_, rfl, ?_⟩)
  | (refine ⟨_, _, rfl, rfl, ?_⟩)
  | (refine ⟨_, _, rfl, ?_⟩)
  | (refine ⟨rfl, ?_⟩)
  | (refine Or.inl ⟨_, rfl, ?_⟩)
  | (refine ⟨_, _, _, _, rfl, rfl, L2.SqL.of (by first | assumption | exact L2.upd_same), rfl, ?_⟩)
  | (refine ⟨_, _, _, _, rfl, rfl, (by first | assumption | exact L2.upd_same), rfl, ?_⟩)
  | (refine And.intro (by first | omega | decide | (unfold L2.CPow; decide) | (unfold L2.CMul; omega) | (unfold L2.CDiv; omega)) ?_))))
open PySem PySem.Spec PyProof.Rows L2 TL MyF MyS MyW MyT MyQ MyV MyZ RZ
/-! ### turning and sending: the mathematics -/
theorem Good.ord {ns ys : List Str} (h : Good ns ys) : InOrd ys ys := ⟨nodup_of_map bareS h.one, h.up, fun _ => Iff.rfl, Nat.le_refl _⟩
theorem turn_turn {fs : List Str} {y : Str} (l : litS y = true) : turnS fs (turnS fs y) = y := by
  unfold turnS
  by_cases c : bareS y ∈ fs
  · rw [if_pos c, if_pos (by rw [bare_opp l]; exact c), opp_opp l]
  · rw [if_neg c, if_neg c]
theorem turn_nil (y : Str) : turnS [] y = y := if_neg (by simp)
theorem turn_one {fs : List Str} {y : Str} : turnS fs y = y ∨ turnS fs y = oppS y := by
  unfold turnS
  by_cases c : bareS y ∈ fs
  · exact .inr (if_pos c)
  · exact .inl (if_neg c)
theorem turn_paired (fs : List Str) : ∀ ys : List Str, Paired (fun c y => c = y ∨ c = oppS y) (ys.map (turnS fs)) ys
  | [] => .nil
  | y :: ys => .cons turn_one (turn_paired fs ys)
theorem turn_back {fs ys rs : List Str} (ly : ∀ y ∈ ys, litS y = true) (io : InOrd rs (ys.map (turnS fs))) (y : Str) : y ∈ rs.map (turnS fs) ↔ y ∈ ys := by
  constructor
  · intro h
    obtain ⟨z, hz, rfl⟩ := List.mem_map.mp h
    obtain ⟨x, hx, rfl⟩ := List.mem_map.mp ((io.mem z).mp hz)
    rw [turn_turn (ly x hx)]
    exact hx
  · intro h
    exact List.mem_map.mpr ⟨turnS fs y, (io.mem _).mpr (List.mem_map.mpr ⟨y, h, rfl⟩), turn_turn (ly y h)⟩
theorem merge_dm : ∀ (ps qs : List (Str × Str)), ((qs ++ ps).map (·.1)).Nodup → mergeK (dm qs) (dm ps) = dm (qs ++ ps)
  | [], qs, _ => by
    rw [List.append_nil]
    rfl
  | p :: ps, qs, h => by
    have nq : ¬ ((dm qs).any fun kv => decide (kv.1 = Sum.inr p.1)) = true := by
      intro z
      obtain ⟨kv, hk, e⟩ := List.any_eq_true.mp z
      obtain ⟨q, hq, rfl⟩ := List.mem_map.mp hk
      have e2 := of_decide_eq_true e
      injection e2 with e3
      rw [List.map_append, List.map_cons] at h
      exact (List.nodup_append.mp h).2.2 _ (List.mem_map.mpr ⟨q, hq, rfl⟩) _ (List.mem_cons_self ..) e3
    have e : putK (dm qs) (Sum.inr p.1) (.str p.2) = dm (qs ++ [p]) := by
      unfold putK
      rw [if_neg nq]
      unfold dm
      rw [List.map_append]
      rfl
    show mergeK (putK (dm qs) (Sum.inr p.1) (.str p.2)) (dm ps) = _
    rw [e, merge_dm ps (qs ++ [p]) (by rw [List.append_assoc]; exact h), List.append_assoc]
    rfl
theorem merge_dm0 {ps : List (Str × Str)} (h : (ps.map (·.1)).Nodup) : mergeK [] (dm ps) = dm ps := merge_dm ps [] h
/-- the word that s is sent to -/
def rnOf (ps : List (Str × Str)) (s : Str) : Str := match valV (dm ps) (Sum.inr s) with
  | some (.str x) => x
  | _ => Str.empty
theorem rnOf_eq {ps : List (Str × Str)} (n : (ps.map (·.1)).Nodup) {p : Str × Str} (h : p ∈ ps) : rnOf ps p.1 = p.2 := by
  unfold rnOf
  rw [valV_dm n h]
theorem rnOf_val {ps : List (Str × Str)} (n : (ps.map (·.1)).Nodup) {p : Str × Str} (h : p ∈ ps) : valV (dm ps) (Sum.inr p.1) = some (.str (rnOf ps p.1)) := by
  rw [rnOf_eq n h]
  exact valV_dm n h
structure Sent (ns : List Str) (ps : List (Str × Str)) : Prop where
  kn : (ps.map (·.1)).Nodup
  vn : (ps.map (·.2)).Nodup
  low : ∀ p ∈ ps, lowZ p.1 = true ∧ lowZ p.2 = true
  mem : ∀ s ∈ ns, ∃ p ∈ ps, p.1 = s
  few : ps.length ≤ 6
def swapP (p : Str × Str) : Str × Str := (p.2, p.1)
theorem swap_fst (ps : List (Str × Str)) : (ps.map swapP).map (·.1) = ps.map (·.2) := by
  rw [List.map_map]
  rfl
theorem swap_snd (ps : List (Str × Str)) : (ps.map swapP).map (·.2) = ps.map (·.1) := by
  rw [List.map_map]
  rfl
theorem Sent.val {ns : List Str} {ps : List (Str × Str)} (S : Sent ns ps) {s : Str} (h : s ∈ ns) : valV (dm ps) (Sum.inr s) = some (.str (rnOf ps s)) ∧ lowZ (rnOf ps s) = true ∧ rnOf ps s ∈ ps.map (·.2) := by
  obtain ⟨p, hp, rfl⟩ := S.mem s h
  rw [rnOf_val S.kn hp, rnOf_eq S.kn hp]
  exact ⟨rfl, (S.low p hp).2, List.mem_map.mpr ⟨p, hp, rfl⟩⟩
theorem Sent.inj {ns : List Str} {ps : List (Str × Str)} (S : Sent ns ps) {s t : Str} (h : s ∈ ns) (k : t ∈ ns) (e : rnOf ps s = rnOf ps t) : s = t := by
  obtain ⟨p, hp, rfl⟩ := S.mem s h
  obtain ⟨q, hq, rfl⟩ := S.mem t k
  rw [rnOf_eq S.kn hp, rnOf_eq S.kn hq] at e
  rw [inj_of_nodup S.vn hp hq e]
theorem Sent.back {ns : List Str} {ps : List (Str × Str)} (S : Sent ns ps) {s : Str} (h : s ∈ ns) : valV (dm (ps.map swapP)) (Sum.inr (rnOf ps s)) = some (.str s) ∧ rnOf (ps.map swapP) (rnOf ps s) = s := by
  obtain ⟨p, hp, rfl⟩ := S.mem s h
  have n2 : ((ps.map swapP).map (·.1)).Nodup := by rw [swap_fst]; exact S.vn
  have h2 : swapP p ∈ ps.map swapP := List.mem_map.mpr ⟨p, hp, rfl⟩
  rw [rnOf_eq S.kn hp]
  exact ⟨valV_dm n2 h2, rnOf_eq n2 h2⟩
theorem Good.names {ns ys : List Str} (g : Good ns ys) (lo : ns.all lowZ = true) {y : Str} (h : y ∈ ys) : bareS y ∈ ns := by
  obtain ⟨s, hs, k⟩ := g.lit y h
  rw [k.bare (List.all_eq_true.mp lo s hs)]
  exact hs
def sendY (ps : List (Str × Str)) (y : Str) : Str := sendS (rnOf ps (bareS y)) y
theorem send_sg (x z : Str) : Sg (sendS x z) x := by
  unfold sendS
  by_cases n : negS z = true
  · rw [if_pos n]
    exact .inr rfl
  · rw [if_neg n]
    exact .inl rfl
theorem send_sgs (f : Str → Str) : ∀ ys : List Str, Sgs (ys.map fun y => sendS (f y) y) (ys.map f)
  | [] => .nil
  | y :: ys => .cons (send_sg _ _) (send_sgs f ys)
theorem nodup_map_on {α β : Type} {f : α → β} : ∀ {l : List α}, l.Nodup → (∀ x ∈ l, ∀ y ∈ l, f x = f y → x = y) → (l.map f).Nodup
  | [], _, _ => List.nodup_nil
  | a :: l, n, h => by
    obtain ⟨n1, n2⟩ := List.nodup_cons.mp n
    rw [List.map_cons]
    refine List.nodup_cons.mpr ⟨fun z => ?_, nodup_map_on n2 fun x hx y hy => h x (List.mem_cons_of_mem _ hx) y (List.mem_cons_of_mem _ hy)⟩
    obtain ⟨b, hb, e⟩ := List.mem_map.mp z
    have := h b (List.mem_cons_of_mem _ hb) a (List.mem_cons_self ..) e
    exact n1 (this ▸ hb)
theorem Sent.good {ns ys rs : List Str} {ps : List (Str × Str)} (S : Sent ns ps) (g : Good ns ys) (lo : ns.all lowZ = true) (io : InOrd rs (ys.map (sendY ps))) : Good (ps.map (·.2)) rs ∧ rs.length = ys.length := by
  have sg : Sgs (ys.map (sendY ps)) (ys.map fun y => rnOf ps (bareS y)) := send_sgs (fun y => rnOf ps (bareS y)) ys
  have nd : (ys.map fun y => rnOf ps (bareS y)).Nodup := nodup_map_on (nodup_of_map bareS g.one) fun x hx y hy e => inj_of_nodup g.one hx hy (S.inj (g.names lo hx) (g.names lo hy) e)
  obtain ⟨a, b⟩ := good_of (ns := ps.map (·.2)) sg nd (fun s hs => by
    obtain ⟨y, hy, rfl⟩ := List.mem_map.mp hs
    exact (S.val (g.names lo hy)).2.2) (List.all_eq_true.mpr fun s hs => by
    obtain ⟨p, hp, rfl⟩ := List.mem_map.mp hs
    exact (S.low p hp).2) io
  exact ⟨a, by rw [b, List.length_map]⟩
theorem send_back {x y : Str} (lx : lowZ x = true) : sendS (bareS y) (sendS x y) = y := by
  by_cases n : negS y = true
  · have e : sendS x y = dash ++ x := if_pos n
    rw [e]
    have e2 : sendS (bareS y) (dash ++ x) = dash ++ bareS y := if_pos (neg_dash x)
    rw [e2, dash_bare n]
  · have e : sendS x y = x := if_neg n
    rw [e]
    have e2 : sendS (bareS y) x = bareS y := if_neg (low_neg lx)
    rw [e2, bare_of_pos n]
theorem Sent.there {ns ys rs : List Str} {ps : List (Str × Str)} (S : Sent ns ps) (g : Good ns ys) (lo : ns.all lowZ = true) (io : InOrd rs (ys.map (sendY ps))) {z : Str} (h : z ∈ rs) :
    ∃ y ∈ ys, z = sendY ps y ∧ valV (dm (ps.map swapP)) (Sum.inr (bareS z)) = some (.str (rnOf (ps.map swapP) (bareS z))) ∧ (rnOf (ps.map swapP) (bareS z)).length ≤ 8 ∧ sendS (rnOf (ps.map swapP) (bareS z)) z = y := by
  obtain ⟨y, hy, rfl⟩ := List.mem_map.mp ((io.mem z).mp h)
  have hn := g.names lo hy
  obtain ⟨v1, v2, v3⟩ := S.val hn
  obtain ⟨b1, b2⟩ := S.back hn
  have eb : bareS (sendY ps y) = rnOf ps (bareS y) := (send_sg _ _).bare v2
  refine ⟨y, hy, rfl, ?_, ?_, ?_⟩
  · rw [eb, b1, b2]
  · rw [eb, b2]
    exact (low_parts (List.all_eq_true.mp lo _ hn)).2.1
  · rw [eb, b2]
    exact send_back v2
theorem Sent.back_mem {ns ys rs : List Str} {ps : List (Str × Str)} (S : Sent ns ps) (g : Good ns ys) (lo : ns.all lowZ = true) (io : InOrd rs (ys.map (sendY ps))) (y : Str) : y ∈ rs.map (sendY (ps.map swapP)) ↔ y ∈ ys := by
  constructor
  · intro h
    obtain ⟨z, hz, rfl⟩ := List.mem_map.mp h
    obtain ⟨y, hy, _, _, _, e⟩ := S.there g lo io hz
    show sendS (rnOf (ps.map swapP) (bareS z)) z ∈ ys
    rw [e]
    exact hy
  · intro h
    have hz : sendY ps y ∈ rs := (io.mem _).mpr (List.mem_map.mpr ⟨y, h, rfl⟩)
    have hn := g.names lo h
    obtain ⟨v1, v2, v3⟩ := S.val hn
    obtain ⟨b1, b2⟩ := S.back hn
    refine List.mem_map.mpr ⟨_, hz, ?_⟩
    show sendS (rnOf (ps.map swapP) (bareS (sendY ps y))) (sendY ps y) = y
    have eb : bareS (sendY ps y) = rnOf ps (bareS y) := (send_sg _ _).bare v2
    rw [eb, b2]
    exact send_back v2
/-- the few that a clause needs -/
def fewP (ps : List (Str × Str)) (ys : List Str) : List (Str × Str) := ys.map fun y => (bareS y, rnOf ps (bareS y))
theorem few_fst (ps : List (Str × Str)) (ys : List Str) : (fewP ps ys).map (·.1) = ys.map bareS := by
  unfold fewP
  rw [List.map_map]
  rfl
theorem Sent.fewOk {ns ys : List Str} {ps : List (Str × Str)} (S : Sent ns ps) (g : Good ns ys) (lo : ns.all lowZ = true) : ((fewP ps ys).map (·.1)).Nodup ∧ ((fewP ps ys).map (·.2)).Nodup ∧ (∀ p ∈ fewP ps ys, lowZ p.1 = true ∧ lowZ p.2 = true) ∧
    ∀ y ∈ ys, valV (dm (fewP ps ys)) (Sum.inr (bareS y)) = some (.str (rnOf ps (bareS y))) := by
  have n1 : ((fewP ps ys).map (·.1)).Nodup := by rw [few_fst]; exact g.one
  refine ⟨n1, ?_, fun p hp => ?_, fun y hy => valV_dm (p := (bareS y, rnOf ps (bareS y))) n1 (List.mem_map.mpr ⟨y, hy, rfl⟩)⟩
  · have e : (fewP ps ys).map (·.2) = ys.map fun y => rnOf ps (bareS y) := by
      unfold fewP
      rw [List.map_map]
      rfl
    rw [e]
    exact nodup_map_on (nodup_of_map bareS g.one) fun x hx y hy e => inj_of_nodup g.one hx hy (S.inj (g.names lo hx) (g.names lo hy) e)
  · obtain ⟨y, hy, rfl⟩ := List.mem_map.mp hp
    exact ⟨List.all_eq_true.mp lo _ (g.names lo hy), (S.val (g.names lo hy)).2.1⟩
theorem words_ok {ns ws : List Str} (nd : ns.Nodup) (lo : ns.all lowZ = true) (pm : ws.Perm (ns ++ (spareS ns).take 2)) : ws.Nodup ∧ ws.all lowZ = true ∧ ns.length ≤ ws.length := by
  have n2 : ((spareS ns).take 2).Nodup := (oct_nodup.sublist List.filter_sublist).sublist (List.take_sublist ..)
  refine ⟨pm.nodup_iff.mpr (List.nodup_append.mpr ⟨nd, n2, fun a ha b hb e => ?_⟩), List.all_eq_true.mpr fun w hw => ?_, by rw [pm.length_eq, List.length_append]; omega⟩
  · have h := (List.mem_filter.mp (List.mem_of_mem_take hb)).2
    rw [← e, decide_eq_true ha] at h
    cases h
  · rcases List.mem_append.mp (pm.mem_iff.mp hw) with h | h
    · exact List.all_eq_true.mp lo w h
    · obtain ⟨c, hc, rfl⟩ := List.mem_map.mp (List.mem_filter.mp (List.mem_of_mem_take h)).1
      exact oct_low c hc
theorem sent_of {ns ws : List Str} {ps : List (Str × Str)} (nd : ns.Nodup) (lo : ns.all lowZ = true) (few : ns.length ≤ 6) (nw : ws.Nodup) (lw : ws.all lowZ = true) (le : ns.length ≤ ws.length) (pm : ps.Perm (ns.zip ws)) : Sent ns ps := by
  have e1 : (ns.zip ws).map (·.1) = ns := List.map_fst_zip le
  have e2 : ((ns.zip ws).map (·.2)).Sublist ws := by
    have go : ∀ (ns ws : List Str), ((ns.zip ws).map (·.2)).Sublist ws := by
      intro ns
      induction ns with
      | nil => intro ws; exact List.nil_sublist _
      | cons n ns ih =>
        intro ws
        cases ws with
        | nil => exact List.nil_sublist _
        | cons w ws => exact (ih ws).cons₂ w
    exact go ns ws
  have p1 := pm.map (·.1)
  have p2 := pm.map (·.2)
  rw [e1] at p1
  refine ⟨p1.nodup_iff.mpr nd, p2.nodup_iff.mpr (nw.sublist e2), fun p hp => ?_, fun s hs => ?_, ?_⟩
  · have h1 : p.1 ∈ ns := p1.mem_iff.mp (List.mem_map.mpr ⟨p, hp, rfl⟩)
    have h2 : p.2 ∈ ws := e2.subset (p2.mem_iff.mp (List.mem_map.mpr ⟨p, hp, rfl⟩))
    exact ⟨List.all_eq_true.mp lo _ h1, List.all_eq_true.mp lw _ h2⟩
  · obtain ⟨p, hp, e⟩ := List.mem_map.mp (p1.mem_iff.mpr hs)
    exact ⟨p, hp, e⟩
  · have := p1.length_eq
    rw [List.length_map] at this
    omega
end My
end

section
set_option Elab.async false
set_option linter.all false
set_option maxRecDepth 100000
set_option maxHeartbeats 4000000
namespace MyL
open PySem PySem.W PySem.Calls PyProof.Rows PyProof.V PySem.Spec
theorem nolen_zip : typeLookup (.type "zip") "__len__" = pure none := by rw [typeLookup_type, builtinLookup_eq_fast]; kernel_rfl
theorem nohint_zip : typeLookup (.type "zip") "__length_hint__" = pure none := by rw [typeLookup_type, builtinLookup_eq_fast]; kernel_rfl
/-- the addresses as hold the pairs, in order -/
structure ZG (xs ys : Array Value) (lo : Addr) (h : Heap) (as : List Addr) : Prop where
  rise : as.Pairwise (· < ·)
  above : ∀ a ∈ as, lo < a
  pairs : ∀ (j : Nat) (a : Addr), as[j]? = some a → ∃ x y, xs[j]? = some x ∧ ys[j]? = some y ∧ IsPair h a x y
theorem ZG.there {xs ys : Array Value} {lo : Addr} {h : Heap} {as : List Addr} (g : ZG xs ys lo h as) {a : Addr} (ha : a ∈ as) : a < h.objs.size := by
  obtain ⟨j, hj⟩ := List.mem_iff_getElem?.mp ha
  obtain ⟨_, _, _, _, e⟩ := g.pairs j a hj
  exact Heap.lt_size e
/-- the zip of l1 and l2, made at n, ahead of its turn i; what it gave last stands behind S -/
structure ZSt (h : Heap) (n : Nat) (l1 l2 S : Nat) (xs ys : Array Value) (i : Nat) : Prop where
  ti : IsPair h (n + 2) (.ref n) (.ref (n + 1))
  j1 : h.IsListIter n l1 i
  j2 : h.IsListIter (n + 1) l2 i
  p1 : h.IsList l1 xs
  p2 : h.IsList l2 ys
  st : (IsZip h (n + 4) (n + 2) (n + 3) .none ∧ ∃ a b, IsPair h (n + 3) a b) ∨ ∃ (T : Nat) (f : Bool) (oT : Obj), IsZipHeld h (n + 4) (n + 2) (n + 3) T f ∧ h.get? T = some oT ∧ S < T
theorem ZSt.keep {h h' : Heap} {n : Nat} {l1 l2 S : Nat} {xs ys : Array Value} {i : Nat} (z : ZSt h n l1 l2 S xs ys i) (h1 : l1 < n) (h2 : l2 < n) (hS : n + 5 ≤ S) (k : ∀ b o, b ≠ S → h.get? b = some o → h'.get? b = some o) : ZSt h' n l1 l2 S xs ys i := by
  have ne : ∀ b : Nat, b < n + 5 → b ≠ S := fun b hb => Nat.ne_of_lt (Nat.lt_of_lt_of_le hb hS)
  obtain ⟨ti, ⟨o1, e1, r1⟩, ⟨o2, e2, r2⟩, ⟨o3, e3, r3⟩, ⟨o4, e4, r4⟩, st⟩ := z
  refine ⟨k _ _ (ne _ (by omega)) ti, ⟨o1, k _ _ (ne _ (by omega)) e1, r1⟩, ⟨o2, k _ _ (ne _ (by omega)) e2, r2⟩, ⟨o3, k _ _ (ne _ (by omega)) e3, r3⟩, ⟨o4, k _ _ (ne _ (by omega)) e4, r4⟩, ?_⟩
  rcases st with ⟨z, a, b, p⟩ | ⟨T, f, oT, z, t, l⟩
  · exact .inl ⟨k _ _ (ne _ (by omega)) z, a, b, k _ _ (ne _ (by omega)) p⟩
  · exact .inr ⟨T, f, oT, k _ _ (ne _ (by omega)) z, k _ _ (Nat.ne_of_gt l) t, l⟩
section
variable {prog : Program} {w : World} {A : Around} {E : Value → Shared → Prop} {s : Shared} {n : Nat} {l1 l2 S : Nat} {xs ys : Array Value} {i : Nat}
theorem z_item {x y : Value} {Q : Option Value → Shared → Prop} (hl1 : l1 < n) (hl2 : l2 < n) (hS : n + 5 ≤ S) (hz : S < s.heap.objs.size) (z : ZSt s.heap n l1 l2 S xs ys i) (hx : xs[i]? = some x) (hy : ys[i]? = some y)
    (hQ : ∀ h', ZSt h' n l1 l2 S xs ys (i + 1) → IsPair h' s.heap.objs.size x y → h'.objs.size = s.heap.objs.size + 1 → (∀ (c : Nat) (o : Obj), (c < n ∨ S ≤ c) → s.heap.get? c = some o → h'.get? c = some o) → Q (some (.ref s.heap.objs.size)) { s with heap := h' }) :
    wpAny (model prog w) A (pyNext (.ref (n + 4))) Q E s := by
  have D : ZipApart (n + 4) (n + 2) (n + 3) n (n + 1) l1 l2 := PySem.W.ktu_apart n l1 l2 hl1 hl2
  obtain ⟨ti, j1, j2, p1, p2, st⟩ := z
  rcases st with ⟨z, a, b, p⟩ | ⟨T, f, oT, z, t, l⟩
  · refine wpAny_pyNext_zip_item D z ti p j1 j2 p1 p2 hx hy fun h' hz' hTO' h1' h2' hp hsz hk => hQ h' ⟨hk _ _ D.TIz D.TITO D.TIi1 D.TIi2 ti, h1', h2', ?_, ?_, .inr ⟨s.heap.objs.size, false, _, hz', hp, hz⟩⟩ hp hsz fun c o hc => ?_
    · obtain ⟨o, ho, r⟩ := p1
      exact ⟨o, hk _ _ (by show (l1 : Nat) ≠ _; omega) (by show (l1 : Nat) ≠ _; omega) (by show (l1 : Nat) ≠ _; omega) (by show (l1 : Nat) ≠ _; omega) ho, r⟩
    · obtain ⟨o, ho, r⟩ := p2
      exact ⟨o, hk _ _ (by show (l2 : Nat) ≠ _; omega) (by show (l2 : Nat) ≠ _; omega) (by show (l2 : Nat) ≠ _; omega) (by show (l2 : Nat) ≠ _; omega) ho, r⟩
    · exact hk c o (by show (c : Nat) ≠ _; omega) (by show (c : Nat) ≠ _; omega) (by show (c : Nat) ≠ _; omega) (by show (c : Nat) ≠ _; omega)
  · refine wpAny_pyNext_zip_item_held D z t ti j1 j2 p1 p2 hx hy fun h' hz' h1' h2' hp hsz hk => hQ h' ⟨hk _ _ D.TIz D.TIi1 D.TIi2 ti, h1', h2', ?_, ?_, .inr ⟨T, true, oT, hz', hk _ _ (by show (T : Nat) ≠ _; omega) (by show (T : Nat) ≠ _; omega) (by show (T : Nat) ≠ _; omega) t, l⟩⟩ hp hsz fun c o hc => ?_
    · obtain ⟨o, ho, r⟩ := p1
      exact ⟨o, hk _ _ (by show (l1 : Nat) ≠ _; omega) (by show (l1 : Nat) ≠ _; omega) (by show (l1 : Nat) ≠ _; omega) ho, r⟩
    · obtain ⟨o, ho, r⟩ := p2
      exact ⟨o, hk _ _ (by show (l2 : Nat) ≠ _; omega) (by show (l2 : Nat) ≠ _; omega) (by show (l2 : Nat) ≠ _; omega) ho, r⟩
    · exact hk c o (by show (c : Nat) ≠ _; omega) (by show (c : Nat) ≠ _; omega) (by show (c : Nat) ≠ _; omega)
theorem z_done {Q : Option Value → Shared → Prop} (hh : A.handled = none) (hl1 : l1 < n) (hl2 : l2 < n) (hS : n + 5 ≤ S) (z : ZSt s.heap n l1 l2 S xs ys i) (hend : xs[i]? = none ∨ ys[i]? = none)
    (hQ : ∀ h', (∀ (c : Nat) (o : Obj), (c < n ∨ S ≤ c) → s.heap.get? c = some o → h'.get? c = some o) → Q none { s with heap := h' }) : wpAny (model prog w) A (pyNext (.ref (n + 4))) Q E s := by
  have D : ZipApart (n + 4) (n + 2) (n + 3) n (n + 1) l1 l2 := PySem.W.ktu_apart n l1 l2 hl1 hl2
  obtain ⟨ti, j1, j2, p1, p2, st⟩ := z
  rcases st with ⟨z, a, b, p⟩ | ⟨T, f, oT, z, t, l⟩
  · exact wpAny_pyNext_zip_end hh D z ti p j1 j2 p1 p2 hend fun h' hk => hQ h' fun c o hc => hk c o (by show (c : Nat) ≠ _; omega) (by show (c : Nat) ≠ _; omega) (by show (c : Nat) ≠ _; omega) (by show (c : Nat) ≠ _; omega)
  · exact wpAny_pyNext_zip_end_held hh D z t ti j1 j2 p1 p2 hend fun h' hk => hQ h' fun c o hc => hk c o (by show (c : Nat) ≠ _; omega) (by show (c : Nat) ≠ _; omega) (by show (c : Nat) ≠ _; omega)
end
section
variable {prog : Program} {w : World} {A : Around} {s : Shared} {R : Result → Shared → Prop} {n : Nat} {l1 l2 S : Nat} {xs ys : Array Value}
theorem z_loop (hh : A.handled = none) (hl1 : l1 < n) (hl2 : l2 < n) (hS5 : n + 5 ≤ S) (hn : min xs.size ys.size ≤ sizeLine) (res : Value) {h₁ : Heap}
    (hR : ∀ h' tk acc c as, (∀ (b : Nat) (o : Obj), b < n → h₁.get? b = some o → h'.get? b = some o) → h'.get? S = some { cls := .type "list", dict := none, data := .seq acc c, slots := #[] } → as.length = min xs.size ys.size → ZG xs ys S h' as →
      acc.toList = as.map Value.ref → R (.ok (.ret res)) { s with heap := h', toks := tk }) :
    ∀ (k i : Nat) (h : Heap) (tk c : Nat) (acc : Array Value) (as : List Addr), min xs.size ys.size - i = k → i ≤ min xs.size ys.size → ZSt h n l1 l2 S xs ys i → (∀ (b : Nat) (o : Obj), b < n → h₁.get? b = some o → h.get? b = some o) →
      h.get? S = some { cls := .type "list", dict := none, data := .seq acc c, slots := #[] } → acc.toList = as.map Value.ref → as.length = i → ZG xs ys S h as →
      codeAny (model prog w) A (.builtin "list.extend.loop" ⟨[.ref S, .ref (n + 4), res], []⟩) R { s with heap := h, toks := tk } := by
  intro k
  induction k with
  | zero =>
    intro i h tk c acc as hk hi hst hkeep hS hacc hal hG
    have hin : i = min xs.size ys.size := by omega
    refine codeAny_builtin PySem.F.entry_extend_loop ?_
    rw [Around.under_plainId PySem.F.plain_extend_loop _]
    show wpAny _ A.in1 (pyNext (.ref (n + 4)) >>= _) _ _ _
    refine wpAny_bind (z_done (s := { s with heap := h, toks := tk }) (A := A.in1) hh hl1 hl2 hS5 hst ?_ fun h' he => ?_)
    · rcases Nat.le_total xs.size ys.size with q | q
      · exact .inl (Array.getElem?_eq_none (by omega))
      · exact .inr (Array.getElem?_eq_none (by omega))
    · refine wpAny_pure (hR h' tk acc c as (fun b o h1 e => he b o (.inl h1) (hkeep b o h1 e)) (he S _ (.inr (Nat.le_refl _)) hS) (by omega) ⟨hG.rise, hG.above, fun j a hj => ?_⟩ hacc)
      obtain ⟨x, y, e1, e2, e3⟩ := hG.pairs j a hj
      exact ⟨x, y, e1, e2, he a _ (.inr (Nat.le_of_lt (hG.above a (List.mem_of_getElem? hj)))) e3⟩
  | succ k ih =>
    intro i h tk c acc as hk hi hst hkeep hS hacc hal hG
    have hlt : i < min xs.size ys.size := by omega
    have hsz : acc.size = i := by rw [← Array.length_toList, hacc, List.length_map, hal]
    have hx : xs[i]? = some xs[i] := Array.getElem?_eq_getElem (by omega)
    have hy : ys[i]? = some ys[i] := Array.getElem?_eq_getElem (by omega)
    have hSl : S < h.objs.size := Heap.lt_size hS
    refine codeAny_builtin PySem.F.entry_extend_loop ?_
    rw [Around.under_plainId PySem.F.plain_extend_loop _]
    show wpAny _ A.in1 (pyNext (.ref (n + 4)) >>= _) _ _ _
    refine wpAny_bind (z_item (s := { s with heap := h, toks := tk }) hl1 hl2 hS5 hSl hst hx hy fun h' hst' ht hz hkp => ?_)
    dsimp only at ht hz hkp ⊢
    have hS' := hkp S _ (.inr (Nat.le_refl _)) hS
    have up : ∀ b o, b ≠ S → h'.get? b = some o → (h'.update S (Obj.mapSeq (·.push (Value.ref h.objs.size)))).get? b = some o := fun b o hb e => (Heap.get?_update_other _ _ (Ne.symm hb)).trans e
    show wpAny _ A.in1 (updateSeq S (·.push (Value.ref h.objs.size)) >>= _) _ _ _
    refine wpAny_bind ?_
    refine wpAny_updateSeq hS' rfl (wpAny_pure ⟨plainId_quiet PySem.F.plain_extend_loop _, ih (i + 1) _ tk _ (acc.push (Value.ref h.objs.size)) (as ++ [h.objs.size]) (by omega) hlt (hst'.keep hl1 hl2 hS5 up)
      (fun b o h1 e => up b o (Nat.ne_of_lt (Nat.lt_of_lt_of_le (Nat.lt_of_lt_of_le h1 (Nat.le_add_right n 5)) hS5)) (hkp b o (.inl h1) (hkeep b o h1 e))) (Heap.get?_update_self _ hS' rfl) (by rw [Array.toList_push, hacc, List.map_append]; rfl) (by rw [List.length_append, hal]; rfl) ⟨?_, ?_, ?_⟩⟩) (by rw [hsz]; omega) (by show (acc.push (Value.ref h.objs.size)).size ≤ sizeLine + 1; rw [Array.size_push, hsz]; omega)
    · refine List.pairwise_append.mpr ⟨hG.rise, List.pairwise_singleton _ _, fun a ha b hb => ?_⟩
      rw [List.mem_singleton.mp hb]
      exact hG.there ha
    · intro a ha
      rcases List.mem_append.mp ha with ha | ha
      · exact hG.above a ha
      · rw [List.mem_singleton.mp ha]; exact hSl
    · intro j b hj
      rcases Nat.lt_trichotomy j as.length with h1 | h1 | h1
      · rw [List.getElem?_append_left h1] at hj
        obtain ⟨x, y, e1, e2, e3⟩ := hG.pairs j b hj
        have hb := hG.above b (List.mem_of_getElem? hj)
        exact ⟨x, y, e1, e2, up b _ (Nat.ne_of_gt hb) (hkp b _ (.inr (Nat.le_of_lt hb)) e3)⟩
      · subst h1
        have hb : h.objs.size = b := by simpa using hj
        subst hb
        subst hal
        exact ⟨_, _, hx, hy, up _ _ (Nat.ne_of_gt hSl) ht⟩
      · have hnone : (as ++ [h.objs.size])[j]? = none := List.getElem?_eq_none (by rw [List.length_append, List.length_singleton]; omega)
        rw [hnone] at hj; cases hj
end
section
variable {prog : Program} {w : World} {A : Around} {E : Value → Shared → Prop} {s : Shared} {n : Nat} {l1 l2 S : Nat} {xs ys : Array Value}
theorem z_extend {R : Result → Shared → Prop} (hh : A.handled = none) (hl1 : l1 < n) (hl2 : l2 < n) (hS5 : n + 5 ≤ S) (hst : ZSt s.heap n l1 l2 S xs ys 0) (hzip : IsZip s.heap (n + 4) (n + 2) (n + 3) .none) (res : Value) (c₀ : Nat) (hS : s.heap.get? S = some { cls := .type "list", data := .seq #[] c₀ })
    (hR : ∀ h' tk acc c as, (∀ (b : Nat) (o : Obj), b < n → s.heap.get? b = some o → h'.get? b = some o) → h'.get? S = some { cls := .type "list", dict := none, data := .seq acc c, slots := #[] } → as.length = min xs.size ys.size → ZG xs ys S h' as →
      acc.toList = as.map Value.ref → R (.ok (.ret res)) { s with heap := h', toks := tk }) (hn : min xs.size ys.size ≤ sizeLine) :
    wpAny (model prog w) A.in1 (Builtin.List.listExtendWith (.ref S) (.ref (n + 4)) res)
      (fun fin s' => match fin with | .done f => R (.ok f) s' | .again c' => c'.quiet = true ∧ codeAny (model prog w) A c' R s') (fun e s' => R (.error e) s') s := by
  have hT : s.TypeIs (.ref (n + 4)) "zip" := ⟨_, hzip, rfl⟩
  unfold Builtin.List.listExtendWith
  refine wpAny_bind (wpAny_typeOf (T := "zip") hT ?_)
  have h1 : Builtin.List.listSameRef (.ref S) (.ref (n + 4)) = false := by
    have q : S ≠ n + 4 := by show (S : Nat) ≠ _; omega
    simp [Builtin.List.listSameRef, q]
  have h2 : (Value.type "zip" == Value.type "list") = false := by decide
  have h3 : (Value.type "zip" == Value.type "tuple") = false := by decide
  simp only [h1, h2, h3, Bool.or_false, Bool.false_eq_true, if_false]
  refine wpAny_bind (wpAny_pyIter_zip hzip ?_)
  refine wpAny_bind (wpAny_holding ?_)
  unfold Builtin.List.listLengthHint
  refine wpAny_bind (wpAny_specialOf hT nolen_zip ?_)
  show wpAny _ A.in1 (specialOf (Value.ref (n + 4)) (Str.ofString "__length_hint__") >>= _) _ _ _
  refine wpAny_bind (wpAny_specialOf hT nohint_zip ?_)
  refine wpAny_pure ?_
  show wpAny _ A.in1 (rule "list.extend.makes-room" >>= fun _ => Builtin.List.listTouch (.ref S) >>= fun _ => again (.builtin "list.extend.loop" ⟨[.ref S, .ref (n + 4), res], []⟩)) _ _ _
  refine wpAny_bind (wpAny_rule ?_)
  refine wpAny_bind ?_
  show wpAny _ A.in1 (updateSeq S (·.push .none) >>= fun _ => updateSeq S (·.pop)) _ _ _
  refine wpAny_bind (wpAny_updateSeq hS rfl ?_)
  have hS₂ := Heap.get?_update_self (Obj.mapSeq (·.push Value.none)) hS rfl
  refine wpAny_updateSeq (hz := by seq_fits) hS₂ rfl ?_
  have hS₃ := Heap.get?_update_self (Obj.mapSeq (·.pop)) hS₂ rfl
  have oth : ∀ b o, b ≠ S → s.heap.get? b = some o → ((s.heap.update S (Obj.mapSeq (·.push Value.none))).update S (Obj.mapSeq (·.pop))).get? b = some o :=
    fun b o hb e => (Heap.get?_update_other _ _ (Ne.symm hb)).trans ((Heap.get?_update_other _ _ (Ne.symm hb)).trans e)
  refine wpAny_pure ⟨plainId_quiet PySem.F.plain_extend_loop _, z_loop (s := s) (h₁ := s.heap) hh hl1 hl2 hS5 hn res hR _ 0 _ _ _ _ [] rfl (Nat.zero_le _) (hst.keep hl1 hl2 hS5 oth)
    (fun b o hb e => oth b o (Nat.ne_of_lt (Nat.lt_of_lt_of_le (Nat.lt_of_lt_of_le hb (Nat.le_add_right n 5)) hS5)) e) hS₃ rfl rfl ⟨List.Pairwise.nil, (fun _ ha => nomatch ha), (fun j a hj => by simp at hj)⟩⟩
theorem z_call {Q : Value → Shared → Prop} (hh : A.handled = none) (hl1 : l1 < n) (hl2 : l2 < n) (hsz : s.heap.objs.size = n + 5) (hzip : IsZip s.heap (n + 4) (n + 2) (n + 3) .none) (hTI : IsPair s.heap (n + 2) (.ref n) (.ref (n + 1))) (hTO : IsPair s.heap (n + 3) .none .none)
    (j1 : s.heap.IsListIter n l1 0) (j2 : s.heap.IsListIter (n + 1) l2 0) (p1 : s.heap.IsList l1 xs) (p2 : s.heap.IsList l2 ys) (hn : min xs.size ys.size ≤ sizeLine)
    (hQ : ∀ h' tk acc c as, (∀ (b : Nat) (o : Obj), b < n → s.heap.get? b = some o → h'.get? b = some o) → h'.get? (n + 5) = some { cls := .type "list", dict := none, data := .seq acc c, slots := #[] } → as.length = min xs.size ys.size → ZG xs ys (n + 5) h' as →
      acc.toList = as.map Value.ref → Q (.ref (n + 5)) { s with heap := h', toks := tk }) :
    wpAny (model prog w) A (call (.type "list") [.ref (n + 4)]) Q E s := by
  refine callType_codes (Q₁ := fun obj s₁ => obj = .ref s.heap.objs.size ∧ s₁ = { s with heap := s.heap.push { cls := .type "list", data := .seq #[] } }) PySem.F.called_list (PySem.F.typeCall_list_1 _) PySem.F.entry_list_init
    (code_list_new _ ⟨rfl, rfl⟩) fun obj s₁ h₁ => ?_
  obtain ⟨rfl, rfl⟩ := h₁
  have hS : (s.heap.push { cls := .type "list", data := .seq #[] }).get? s.heap.objs.size = some { cls := .type "list", data := .seq #[] } := Heap.get?_push_size _ rfl
  rw [hsz] at hS ⊢
  have pu : ∀ b o, s.heap.get? b = some o → (s.heap.push { cls := .type "list", data := .seq #[] }).get? b = some o := fun b o e => Heap.get?_push_of_some _ e
  refine ⟨⟨_, hS, rfl⟩, PySem.F.args_list_init_2 _ _, ?_⟩
  show wpAny _ _ (do let old ← Builtin.List.listItems (.ref (n + 5)); Builtin.List.listUpdate (.ref (n + 5)) (fun _ => #[]); letGo old.toList.reverse; Builtin.List.listExtendWith (.ref (n + 5)) (.ref (n + 4)) .none) _ _ _
  refine wpAny_bind ?_
  unfold Builtin.List.listItems
  refine wpAny_bind (wpAny_seqItems hS rfl (wpAny_pure ?_))
  show wpAny _ _ (updateSeq (n + 5) (fun _ => #[]) >>= fun _ => letGo (#[] : Array Value).toList.reverse >>= fun _ => Builtin.List.listExtendWith (.ref (n + 5)) (.ref (n + 4)) .none) _ _ _
  refine wpAny_bind (wpAny_updateSeq hS rfl ?_)
  have hS₂ := Heap.get?_update_self (Obj.mapSeq (fun _ => (#[] : Array Value))) hS rfl
  have oth : ∀ b o, b ≠ n + 5 → s.heap.get? b = some o → ((s.heap.push { cls := .type "list", data := .seq #[] }).update (n + 5) (Obj.mapSeq (fun _ => (#[] : Array Value)))).get? b = some o :=
    fun b o hb e => (Heap.get?_update_other _ _ (Ne.symm hb)).trans (pu b o e)
  have ne : ∀ b : Nat, b < n + 5 → b ≠ n + 5 := fun b hb => Nat.ne_of_lt hb
  refine wpAny_bind (wpAny_letGo ?_)
  have zip2 := oth _ _ (ne _ (by omega)) hzip
  refine z_extend (A := A.in1) hh hl1 hl2 (Nat.le_refl _) ⟨oth _ _ (ne _ (by omega)) hTI, let ⟨o, ho, r⟩ := j1; ⟨o, oth _ _ (ne _ (by omega)) ho, r⟩, let ⟨o, ho, r⟩ := j2; ⟨o, oth _ _ (ne _ (by omega)) ho, r⟩,
    let ⟨o, ho, r⟩ := p1; ⟨o, oth _ _ (ne _ (by omega)) ho, r⟩, let ⟨o, ho, r⟩ := p2; ⟨o, oth _ _ (ne _ (by omega)) ho, r⟩, .inl ⟨zip2, _, _, oth _ _ (ne _ (by omega)) hTO⟩⟩ zip2 .none _ hS₂ (fun h' tk acc c as hk hS' hl hG hacc => ?_) hn
  exact ⟨rfl, hQ h' tk acc c as (fun b o hb e => hk b o hb (oth b o (ne _ (by omega)) e)) hS' hl hG hacc⟩
end
end MyL
end

section
set_option Elab.async false
set_option linter.all false
set_option maxRecDepth 100000
set_option maxHeartbeats 4000000
namespace MyL
open PySem PySem.Spec PyProof.Rows L2
theorem vals_at : ∀ {xs : List V} {us : List Value}, Vals xs us → ∀ (j : Nat) (u : Value), us[j]? = some u → ∃ x, xs[j]? = some x ∧ RelV x u
  | _, _, .nil, j, u, h => by simp at h
  | _, _, .cons (a := x) r t, 0, u, h => by
    have e : some _ = some u := h
    injection e with e
    subst e
    exact ⟨x, rfl, r⟩
  | _, _, .cons r t, j + 1, u, h => vals_at t j u h
/-- list(zip(xs, ys)), lists -/
def tListZip (K : PySem.W.Frag) (ta : TA) : TE := fun σ H Q => ta σ H fun vs H1 => ∃ (a b : Addr) (xs ys : List V), vs = [.ref a, .ref b] ∧ SqL K H1 a xs ∧ SqL K H1 b ys ∧
  ∀ (H' : Hp) (D : Addr) (ts : List Addr), Same H1 H' → H1 D = none → H' D = some (.lst (ts.map V.ref)) → ts.length = min xs.length ys.length → (∀ (j : Nat) (t : Addr), ts[j]? = some t → ∃ x y, xs[j]? = some x ∧ ys[j]? = some y ∧ H' t = some (.tup [x, y])) → Q (.ref D) H'
theorem pe_listZip {X : Cx} {e e2 : Expr} {ta : TA} {p p2 pos pos2 : Pos} (hc : X.calm = true) (hg : Gl X "list") (hm : X.mg "list" = none) (hg2 : Gl X "zip") (hm2 : X.mg "zip" = none) (ha : PA X [e, e2] ta)
    (hs : starEach [e, e2] X.env = (false, eval e X.env) :: starEach [e2] X.env := by rfl) (hpl : (backTo pos2 (starEach [e2] X.env)).any (·.1) = false := by rfl)
    (hs1 : starEach [.Call (.Name "zip" p2) [e, e2] [] pos2] X.env = (false, eval (.Call (.Name "zip" p2) [e, e2] [] pos2) X.env) :: starEach [] X.env := by rfl) (hpl1 : (backTo pos (starEach [] X.env)).any (·.1) = false := by rfl) :
    PE X (.Call (.Name "list" p) [.Call (.Name "zip" p2) [e, e2] [] pos2] [] pos) (tListZip X.K ta) := by
  refine ⟨fun pins s σ H Q I h => ?_⟩
  refine wpAny_Call_Name_kw (ld_blt I hg hm PyProof.Rows.boot_list ?_ (by decide) (by decide))
  refine PyProof.Rows.callWith_type1 ?_ hs1 hpl1
  rw [hs1]
  show wpAny _ _ (spliced ((false, eval (.Call (.Name "zip" p2) [e, e2] [] pos2) X.env) :: backTo pos (starEach [] X.env))) _ _ s
  refine Calls.spliced_cons ?_
  refine Call_ (ld_blt I hg2 hm2 PyProof.Rows.boot_zip (PyProof.Rows.callWith_type1 (thn (ha.run pos2 pins s σ H _ I h) fun us s1 ⟨vs, H1, I1, r1, q1⟩ => ?_) hs hpl))
  obtain ⟨a, b, xs, ys, ex, hqx, hqy, q⟩ := q1
  subst ex
  cases r1 with
  | cons r rr =>
    cases rr with
    | cons r' rr =>
      cases rr
      cases r
      cases r'
      obtain ⟨its, rv, pl1, z1⟩ := I1.list hqx
      obtain ⟨its2, rv2, pl2, z2⟩ := I1.list hqy
      have la : a < s1.heap.objs.size := pl1.lt
      have lb : b < s1.heap.objs.size := pl2.lt
      have l1 := rv.length
      have l2 := rv2.length
      refine call_zip_2 pl1.isList pl2.isList fun h' hz hTI hTO h1 h2 hsz hk => ?_
      refine Calls.spliced_nil ?_
      have keepL : ∀ {c : Addr} {zs : Array Value}, s1.heap.IsList c zs → h'.IsList c zs := fun {c zs} ⟨o, ho, r⟩ => ⟨o, hk _ _ ho, r⟩
      refine z_call (s := { s1 with heap := h' }) (I1.ok.hd hc) la lb hsz hz hTI hTO h1 h2 (keepL pl1.isList) (keepL pl2.isList) (by simp only [List.size_toArray]; omega) fun h2' tk acc c as hk2 hS hl hG hacc => ?_
      have kS : ∀ b o, s1.heap.get? b = some o → h2'.get? b = some o := fun b o e => hk2 b o (Heap.lt_size e) (hk b o e)
      have I2 : Inv X pins σ H1 { s1 with heap := h2', toks := tk } := I1.kept (t' := tk) kS
      have hn0 : H1 (s1.heap.objs.size + 5) = none := I1.hok.fresh (Nat.le_add_right _ _)
      simp only [List.size_toArray] at hl
      have hlen : (as.map V.ref).length ≤ sizeLine := by
        rw [List.length_map, hl]
        omega
      have rvl : Vals (as.map V.ref) acc.toList := by
        rw [hacc]
        exact vals_maps (fun a : Addr => V.ref a) (fun a => Value.ref a) as fun _ _ => rfl
      have I3 : Inv X pins σ (upd H1 (s1.heap.objs.size + 5) (.lst (as.map V.ref))) { s1 with heap := h2', toks := tk } :=
        I2.take (h' := h2') (t' := tk) (fun b ob _ e => e) (I1.fpOk (Nat.le_add_right _ _) hn0) ⟨hlen, acc.toList, c, rvl, by rw [Array.toArray_toList]; exact hS⟩
      have nd : as.Nodup := List.Pairwise.imp (fun h => Nat.ne_of_lt h) hG.rise
      obtain ⟨H2, I4, g, qt⟩ := DX.takeT (P := fun b vs => ∃ (j : Nat) (x y : V), as[j]? = some b ∧ xs[j]? = some x ∧ ys[j]? = some y ∧ vs = [x, y]) I1 as _ I3 nd fun b hb => by
        obtain ⟨j, hj⟩ := List.mem_iff_getElem?.mp hb
        obtain ⟨x, y, ex, ey, ep⟩ := hG.pairs j b hj
        have hab := hG.above b hb
        obtain ⟨vx, evx, rx⟩ := vals_at rv j x (by simpa using ex)
        obtain ⟨vy, evy, ry⟩ := vals_at rv2 j y (by simpa using ey)
        have hbl : s1.heap.objs.size ≤ b := Nat.le_of_lt (Nat.lt_of_le_of_lt (Nat.le_add_right _ 5) hab)
        refine ⟨hbl, ?_, [vx, vy], ⟨j, vx, vy, hj, evx, evy, rfl⟩, fun H3 => ⟨(by show 2 ≤ sizeLine; rw [sizeLine_eq]; omega), [x, y], .cons rx (.cons ry .nil), ⟨_, ep, rfl, 0, rfl⟩⟩⟩
        rw [upd_ne (Nat.ne_of_gt hab)]
        exact I1.hok.fresh hbl
      have gr : Same H1 H2 := fun b o e => g b o (by rw [upd_ne (ne_of_none e hn0)]; exact e)
      refine ⟨.ref (s1.heap.objs.size + 5), H2, I4, rfl, q H2 _ as gr hn0 (g _ _ upd_same) (by rw [hl]; omega) fun j t hj => ?_⟩
      obtain ⟨vs, ⟨j2, x, y, e1, e2, e3, rfl⟩, ht⟩ := qt t (List.mem_of_getElem? hj)
      have ej : j = j2 := (List.getElem?_inj (List.getElem?_eq_some_iff.mp hj).1 nd).mp (hj.trans e1.symm)
      subst ej
      exact ⟨x, y, e2, e3, ht⟩
end MyL
end

section
set_option Elab.async false
set_option linter.all false
set_option maxRecDepth 100000
set_option maxHeartbeats 4000000
namespace My
local macro_rules | `(tactic| walk_at "go") => `(tactic| (repeat (first
  | (refine ⟨_, rfl, ?_⟩)
  | (refine ⟨_, _, rfl, rfl, ?_⟩)
  | (refine ⟨_, _, rfl, ?_⟩)
  | (refine ⟨rfl, ?_⟩)
  | (refine Or.inl ⟨_, rfl, ?_⟩)
  | (refine ⟨_, _, _, _, rfl, rfl, L2.SqL.of (by first | assumption | exact L2.upd_same), rfl, ?_⟩)
  | (refine ⟨_, _, _, _, rfl, rfl, (by first | assumption | exact L2.upd_same), rfl, ?_⟩)
  | (refine And.intro (by first | omega | decide | (unfold L2.CPow; decide) | (unfold L2.CMul; omega) | (unfold L2.CDiv; omega)) ?_))))
open PySem PySem.Spec PyProof.Rows L2 TL MyF MyS MyW MyT MyQ MyV MyZ MyL RZ
theorem ex_strsT {K : PySem.W.Frag} {H : Hp} {a b : Addr} {xs : List Str} (h1 : SqT K H a (xs.map V.str)) (h2 : SqT K H b (xs.map V.str)) (few : xs.length < 1000) (d : Nat) : Ex K H (d + 1) (.ref a) (.ref b) :=
  .inr (.inl ⟨a, b, _, _, rfl, rfl, .inr ⟨h1, h2⟩, rfl, by rw [List.length_map]; exact few, fun i u v hu hv => by
    rw [hu] at hv
    cases hv
    obtain ⟨z, _, rfl⟩ := List.mem_map.mp (List.mem_of_getElem? hu)
    exact Ex.leaf (.str z) d⟩)
theorem ex_3 {K : PySem.W.Frag} {H : Hp} {p q : Addr} {a b c d e f : V} {n : Nat} (h1 : H p = some (.lst [a, b, c])) (h2 : H q = some (.lst [d, e, f])) (k1 : Ex K H n a d) (k2 : Ex K H n b e) (k3 : Ex K H n c f) : Ex K H (n + 1) (.ref p) (.ref q) :=
  .inr (.inl ⟨p, q, _, _, rfl, rfl, .inl ⟨SqL.of h1, SqL.of h2⟩, rfl, by show 3 < 1000; decide, fun i u v hu hv => by
    rcases i with _ | _ | _ | i
    · cases hu; cases hv; exact k1
    · cases hu; cases hv; exact k2
    · cases hu; cases hv; exact k3
    · cases hu⟩)
theorem ex_4 {K : PySem.W.Frag} {H : Hp} {p q : Addr} {a b c d e f g h : V} {n : Nat} (h1 : H p = some (.lst [a, b, c, d])) (h2 : H q = some (.lst [e, f, g, h])) (k1 : Ex K H n a e) (k2 : Ex K H n b f) (k3 : Ex K H n c g) (k4 : Ex K H n d h) : Ex K H (n + 1) (.ref p) (.ref q) :=
  .inr (.inl ⟨p, q, _, _, rfl, rfl, .inl ⟨SqL.of h1, SqL.of h2⟩, rfl, by show 4 < 1000; decide, fun i u v hu hv => by
    rcases i with _ | _ | _ | _ | i
    · cases hu; cases hv; exact k1
    · cases hu; cases hv; exact k2
    · cases hu; cases hv; exact k3
    · cases hu; cases hv; exact k4
    · cases hu⟩)
theorem nodup_le : ∀ {l m : List Str}, l.Nodup → (∀ x ∈ l, x ∈ m) → l.length ≤ m.length
  | [], _, _, _ => Nat.zero_le _
  | x :: l, m, n, h => by
    obtain ⟨n1, n2⟩ := List.nodup_cons.mp n
    have hm := h x (List.mem_cons_self ..)
    have ih := nodup_le (m := m.erase x) n2 fun y hy => (List.mem_erase_of_ne (fun z => n1 (by rw [← z]; exact hy))).mpr (h y (List.mem_cons_of_mem _ hy))
    rw [List.length_erase_of_mem hm] at ih
    have := List.length_pos_of_mem hm
    rw [List.length_cons]
    omega
/-- the two texts of the tuple at u -/
def pairAt (H : Hp) (u : Addr) : Str × Str := match H u with
  | some (.tup [.str a, .str b]) => (a, b)
  | _ => (Str.empty, Str.empty)
theorem pairAt_of {H : Hp} {u : Addr} {a b : Str} (h : H u = some (.tup [.str a, .str b])) : pairAt H u = (a, b) := by
  unfold pairAt
  rw [h]
theorem pairs_dm {K : PySem.W.Frag} {H H0 : Hp} {f : Addr → Str × Str} : ∀ {us ts : List Addr}, Paired (TupR (fun x zs => zs = itemsAt H0 x) H) ts (us.map V.ref) → (∀ u ∈ us, itemsAt H0 (.ref u) = [.str (f u).1, .str (f u).2]) → Paired (fun p (kv : Key × V) => SqT K H p [L2.kV kv.1, kv.2]) ts (dm (us.map f))
  | [], _, .nil, _ => .nil
  | u :: us, _, .cons r t, h => by
    obtain ⟨zs, e, hz⟩ := r
    have e1 := h u (List.mem_cons_self ..)
    rw [e, e1] at hz
    exact .cons (SqT.of hz) (pairs_dm t fun v hv => h v (List.mem_cons_of_mem _ hv))
theorem zip_map {ts : List Addr} {ns ws : List Str} {f : Addr → Str × Str} (l : ts.length = min ns.length ws.length) (le : ns.length ≤ ws.length) (h : ∀ (j : Nat) (t : Addr), ts[j]? = some t → ∃ a b, ns[j]? = some a ∧ ws[j]? = some b ∧ f t = (a, b)) : ts.map f = ns.zip ws := by
  refine List.ext_getElem? fun j => ?_
  rw [List.getElem?_map]
  cases e : ts[j]? with
  | none =>
    have h1 := List.getElem?_eq_none_iff.mp e
    symm
    refine List.getElem?_eq_none ?_
    rw [List.length_zip]
    omega
  | some t =>
    obtain ⟨a, b, e1, e2, e3⟩ := h j t e
    have q : (ns.zip ws)[j]? = some (a, b) := List.getElem?_zip_eq_some.mpr ⟨e1, e2⟩
    rw [q, ← e3]
    rfl
theorem pairs_back {K : PySem.W.Frag} {H : Hp} {R : V → List V → Prop} : ∀ {ps : List (Str × Str)} {ts : List Addr}, (∀ p ∈ ps, ∀ zs, R (.str p.1) zs → zs = [.str p.2, .str p.1]) → Paired (TupR R H) ts ((dm ps).map fun kv => L2.kV kv.1) → Paired (fun t (kv : Key × V) => SqT K H t [L2.kV kv.1, kv.2]) ts (dm (ps.map swapP))
  | [], _, _, .nil => .nil
  | p :: ps, _, hR, .cons r t => by
    obtain ⟨zs, e, hz⟩ := r
    rw [hR p (List.mem_cons_self ..) zs e] at hz
    exact .cons (SqT.of hz) (pairs_back (fun q hq => hR q (List.mem_cons_of_mem _ hq)) t)
theorem pairs_few {K : PySem.W.Frag} {H : Hp} {R : V → List V → Prop} {ps : List (Str × Str)} : ∀ {ys : List Str} {ts : List Addr}, (∀ s zs, R (.str s) zs → zs = [.str s, .str (rnOf ps s)]) → Paired (TupR R H) ts ((ys.map bareS).map V.str) → Paired (fun t (kv : Key × V) => SqT K H t [L2.kV kv.1, kv.2]) ts (dm (fewP ps ys))
  | [], _, _, .nil => .nil
  | y :: ys, _, hR, .cons r t => by
    obtain ⟨zs, e, hz⟩ := r
    rw [hR _ zs e] at hz
    exact .cons (SqT.of hz) (pairs_few hR t)
theorem pr_upd {R : V → List V → Prop} {H : Hp} {d : Addr} {od : Obj} {u o : HO} {ts : List Addr} {xs : List V} (hd : H d = some (.frz od u)) (h : Paired (TupR R H) ts xs) : Paired (TupR R (upd H d o)) ts xs :=
  pr_imp (fun t x q => by
    obtain ⟨zs, hz, e⟩ := q
    refine ⟨zs, hz, ?_⟩
    rw [upd_ne (fun z => by rw [z, hd] at e; cases e)]
    exact e) h
theorem empty_cat (x : Str) : (Str.ofString "") ++ x = x := by
  refine str_ext ?_
  rw [cps_cat]
  rfl
theorem dget_of {H : Hp} {d : Addr} {ps : List (Str × Str)} {s x : Str} (h : H d = some (.dK (dm ps))) (v : valV (dm ps) (Sum.inr s) = some (.str x)) : DGet H d (.str s) (some (.str x)) := by
  have q := DGet.k (k := Sum.inr s) h
  rw [v] at q
  exact q
/-- a comprehension over a list that is an expression: first the expression -/
theorem lc_of {K : PySem.W.Frag} {tl : TE} {g : TG} {tt : TT} {te : TE} {vs : List Nat} {σ : L2.St} {H : Hp} {Q : V → Hp → Prop} (h : tl σ H fun x H1 => ∃ a, x = .ref a ∧ (∃ xs, SqL K H1 a xs) ∧ ∀ D, H1 D = none → ∃ W : Nat → Nat → Hp → Prop, (∃ m, W 0 m (upd H1 D (.lst []))) ∧ ∀ i m H, W i m H →
    ((Itl K a).stop i H ∧ Q (.ref D) H) ∨ ((Itl K a).go i H ∧ ∃ Nx : Hp → Prop, (∀ H', Nx H' → ∃ m', m' < m ∧ W (i + 1) m' H') ∧ ∀ x H', (Itl K a).yld i H x H' → g x (wipe σ vs) H' fun σ2 H2 => wipe σ2 vs = wipe σ vs ∧ tt σ2 H2 fun b H3 =>
      if b = true then te σ2 H3 fun y H4 => ∃ acc, H4 D = some (.lst acc) ∧ acc.length < sizeLine ∧ Nx (upd H4 D (.lst (acc ++ [y]))) else Nx H3)) : tLc (iList K tl) g tt te vs σ H Q := h
structure Sts (mg : Str → Option Value) : Prop where
  dict : mg "dict" = none
  list : mg "list" = none
  zip : mg "zip" = none
section
variable {P : Program} {w : World} {K : PySem.W.Frag} {mg : Str → Option Value} {base : Heap}
/-! ### _law_sent_right -/
abbrev sSR : Stmt := top 54
def spSR (K : PySem.W.Frag) : Sp := fun vs H Q _ => ∃ (p a q : Addr) (n : Int) (l : List V) (ys ns : List Str), vs = [.ref p, .ref a, .ref q] ∧ H p = some (.lst l) ∧ PurseL n l ∧ n ≤ 700000 ∧ H q = some (.lst (ns.map V.str)) ∧ q ≠ p ∧ SqT K H a (ys.map V.str) ∧ a ≠ p ∧ Good ns ys ∧ ns.Nodup ∧ ascS ns = true ∧ ns.all lowZ = true ∧ ns.length ≤ 6 ∧
  ∀ (H' : Hp) (l' : List V), But p H H' → H' p = some (.lst l') → PurseL (n + 60) l' → Q (.bl true) H'
theorem sc_sr : FnScope ["_law_purse_here", "_law_clause_here", "_law_names", "_law_some", "_law_due", "_law_words_here", "_law_sent", "_law_held", "_law_back", "_law_few", "_law_name", "_law_literal", "_law_word_here"] ["_law_purse_here", "_law_clause_here", "_law_names"] (defScope sSR) := ⟨rfl, rfl, rfl, by decide +kernel, rfl, by decide +kernel, by decide +kernel⟩
theorem ok_sr {f fD fS fL fE fA fB fP fT fR : Addr} {fd fdD fdS fdL fdE fdA fdB fdP fdT fdR : FuncData} (G : Fun K "_law_sent_right" "_law_sent_right" sSR f fd) (T : Sts mg)
    (mD : mg "_law_draw" = some (.ref fD)) (kD : PySem.W.keepIn K (.ref fD) = true) (OD : FnOk P w K mg base CX0 2 fD fdD ["_law_purse_here", "_law_many"] spDraw) (bD : Binds K fdD ["_law_purse_here", "_law_many"] [])
    (mS : mg "_law_shuffled" = some (.ref fS)) (kS : PySem.W.keepIn K (.ref fS) = true) (OS : FnOk P w K mg base CX0 3 fS fdS ["_law_purse_here", "_law_some"] (spShuf K)) (bS : Binds K fdS ["_law_purse_here", "_law_some"] [])
    (mL : mg "_law_clause" = some (.ref fL)) (kL : PySem.W.keepIn K (.ref fL) = true) (OL : FnOk P w K mg base CX0 1 fL fdL ["_law_literals"] (spLCl K)) (bL : Binds K fdL ["_law_literals"] [])
    (mE : mg "_law_exact" = some (.ref fE)) (kE : PySem.W.keepIn K (.ref fE) = true) (OE : FnOk P w K mg base CX0 4 fE fdE ["_law_mine", "_law_theirs"] (spExact K 3)) (bE : Binds K fdE ["_law_mine", "_law_theirs"] [])
    (mA : mg "_law_contrary" = some (.ref fA)) (kA : PySem.W.keepIn K (.ref fA) = true) (OA : FnOk P w K mg base CX0 1 fA fdA ["_law_literal"] (spLOne oppS)) (bA : Binds K fdA ["_law_literal"] [])
    (mB : mg "_law_bare" = some (.ref fB)) (kB : PySem.W.keepIn K (.ref fB) = true) (OB : FnOk P w K mg base CX0 1 fB fdB ["_law_literal"] (spLOne bareS)) (bB : Binds K fdB ["_law_literal"] [])
    (mP : mg "_law_spare" = some (.ref fP)) (kP : PySem.W.keepIn K (.ref fP) = true) (OP : FnOk P w K mg base CX0 1 fP fdP ["_law_names"] (spSpare K)) (bP : Binds K fdP ["_law_names"] [])
    (mT : mg "turned" = some (.ref fT)) (kT : PySem.W.keepIn K (.ref fT) = true) (OT : FnOk P w K mg base CX0 6 fT fdT ["clause", "variables"] (spTurn K)) (bT : Binds K fdT ["clause", "variables"] []) (qT : KBinds K fdT ["clause", "variables"] ["variables", "clause"] gTwo gTwo)
    (mR : mg "renamed" = some (.ref fR)) (kR : PySem.W.keepIn K (.ref fR) = true) (OR : FnOk P w K mg base CX0 7 fR fdR ["clause", "sent"] (spRenamed K)) (bR : Binds K fdR ["clause", "sent"] []) (qR : KBinds K fdR ["clause", "sent"] ["sent", "clause"] gTwo gTwo) : FnOk P w K mg base CX0 8 f fd ["_law_purse_here", "_law_clause_here", "_law_names"] (spSR K) := by
  have sc := sc_sr
  refine G.ok sc (fun vs H Q E h => ?_) (fun cdv A outer s H vs Q E hr h => ?_)
  · obtain ⟨_, _, _, _, _, _, _, rfl, _⟩ := h
    rfl
  · obtain ⟨p, a, q, n, l, ys, ns, rfl, hp, hl, hn, hS, nqp, hT, nap, g, nd, as, lo, h6, k⟩ := h
    have big : (100000 : Nat) < sizeLine := by decide
    have hu := hu_of hr
    have hr6 : Room 6 _ := hr.mono (by decide)
    have hr4 : Room 4 _ := hr.mono (by decide)
    have hr3 : Room 3 _ := hr.mono (by decide)
    have hr2 : Room 2 _ := hr.mono (by decide)
    have hr1 : Room 1 _ := hr.mono (by decide)
    refine ⟨_, (pss_cons (ps_set (i := 3) sc.nd rfl (Or.inr rfl) (pe_lc (own := [("_law_name", 10)]) (g := gName 10)  rfl sc.nd (pi_list (pv 2)) (blkOk_by (N := ["_law_purse_here", "_law_clause_here", "_law_names", "_law_some", "_law_due", "_law_words_here", "_law_sent", "_law_held", "_law_back", "_law_few", "_law_name", "_law_literal", "_law_word_here"]) (sc := defScope sSR) (by decide +kernel)) (fun _ _ _ _ _ => pg_name (i := 10) sc.nd rfl (Or.inl rfl)) (fun _ _ _ _ _ => pts_one (pt_cmpR op_eq (pe_call OD hr2 rfl mD kD bD .nil pass0 (pa_cons (pv 0) (pa_cons pe_int pa_nil))) pe_int (nomark _))) (fun _ _ _ _ _ => pv 10)))
      (pss_cons (ps_set (i := 4) sc.nd rfl (Or.inl rfl) (pe_call OL hr1 rfl mL kL bL .nil pass0 (pa_cons (pe_lc (own := [("_law_literal", 11)]) (g := gName 11) (tt := tYes) (te := tIf (tTest (tOp (rIn K false) (tCall (spLOne bareS) [] E0 (tCons (tVar 11) tNil)) (tVar 3))) (tCall (spLOne oppS) [] E0 (tCons (tVar 11) tNil)) (tVar 11)) rfl sc.nd (pi_sq (pv 1)) (blkOk_by (N := ["_law_purse_here", "_law_clause_here", "_law_names", "_law_some", "_law_due", "_law_words_here", "_law_sent", "_law_held", "_law_back", "_law_few", "_law_name", "_law_literal", "_law_word_here"]) (sc := defScope sSR) (by decide +kernel)) (fun _ _ _ _ _ => pg_name (i := 11) sc.nd rfl (Or.inl rfl)) (fun _ _ _ _ _ => pts_nil) (fun _ _ _ _ _ => pe_ifExp (pt_cmpR op_in_seq (pe_call OB hr1 rfl mB kB bB .nil pass0 (pa_cons (pv 11) pa_nil)) (pv 3) (by rfl)) (pe_call OA hr1 rfl mA kA bA .nil pass0 (pa_cons (pv 11) pa_nil)) (pv 11))) pa_nil)))
      (pss_cons (ps_if (pt_not (pt_val (pe_call OE hr4 rfl mE kE bE .nil pass0 (pa_cons (pe_lst (pa_cons (pe_callK0 OT hr6 (by rfl) mT kT qT pass0 (pk_cons (pv 3) (pk_cons (pv 1) pk_nil))) (pa_cons (pe_call OT hr6 rfl mT kT bT .nil pass0 (pa_cons (pv 4) (pa_cons (pv 3) pa_nil))) (pa_cons (pe_call OT hr6 rfl mT kT bT .nil pass0 (pa_cons (pv 1) (pa_cons (pe_lst pa_nil) pa_nil))) pa_nil)))) (pa_cons (pe_lst (pa_cons (pv 4) (pa_cons (pv 1) (pa_cons (pv 1) pa_nil)))) pa_nil))))) (pss_one (ps_ret pe_bl)) pss_nil)
      (pss_cons (ps_set (i := 5) sc.nd rfl (Or.inl rfl) (pe_call OS hr3 rfl mS kS bS .nil pass0 (pa_cons (pv 0) (pa_cons (pe_op op_cat (pv 2) (pe_slice sl_list (pe_call OP hr1 rfl mP kP bP .nil pass0 (pa_cons (pv 2) pa_nil)) po_none (po_some pe_int))) pa_nil))))
      (pss_cons (ps_set (i := 6) sc.nd rfl (Or.inr rfl) (pe_callTy (call_dictP rfl) (by rfl) T.dict boot_dict (pa_cons (pe_lc (own := [("_law_name", 10), ("_law_word_here", 12)]) (g := gTup K 2 (gCons (gName 10) (gCons (gName 12) gNil))) (tt := tYes) rfl sc.nd (pi_list (pe_call OS hr3 rfl mS kS bS .nil pass0 (pa_cons (pv 0) (pa_cons (pe_listZip rfl (by rfl) T.list (by rfl) T.zip (pa_cons (pv 2) (pa_cons (pv 5) pa_nil))) pa_nil)))) (blkOk_by (N := ["_law_purse_here", "_law_clause_here", "_law_names", "_law_some", "_law_due", "_law_words_here", "_law_sent", "_law_held", "_law_back", "_law_few", "_law_name", "_law_literal", "_law_word_here"]) (sc := defScope sSR) (by decide +kernel)) (fun _ _ _ _ _ => pg_tup rfl (pgs_cons (pg_name (i := 10) sc.nd rfl (Or.inl rfl)) (pgs_cons (pg_name (i := 12) sc.nd rfl (Or.inl rfl)) pgs_nil))) (fun _ _ _ _ _ => pts_nil) (fun _ _ _ _ _ => pe_tup (pa_cons (pv 10) (pa_cons (pv 12) pa_nil)))) pa_nil)))
      (pss_cons (ps_set (i := 7) sc.nd rfl (Or.inl rfl) (pe_callTy call_dictD (by rfl) T.dict boot_dict (pa_cons (pv 6) pa_nil)))
      (pss_cons (ps_set (i := 4) sc.nd rfl (Or.inl rfl) (pe_call OL hr1 rfl mL kL bL .nil pass0 (pa_cons (pe_lc (own := [("_law_literal", 11)]) (g := gName 11) (tt := tYes) rfl sc.nd (pi_sq (pv 1)) (blkOk_by (N := ["_law_purse_here", "_law_clause_here", "_law_names", "_law_some", "_law_due", "_law_words_here", "_law_sent", "_law_held", "_law_back", "_law_few", "_law_name", "_law_literal", "_law_word_here"]) (sc := defScope sSR) (by decide +kernel)) (fun _ _ _ _ _ => pg_name (i := 11) sc.nd rfl (Or.inl rfl)) (fun _ _ _ _ _ => pts_nil) (fun _ _ _ _ _ => pe_op op_add_str (pe_ifExp (pt_cmpR op_eq (pe_ix ix_str (pv 11) pe_int (fun _ _ => rfl)) pe_str (nomark _)) pe_str pe_str) (pe_dget hu (pv 6) (pe_call OB hr1 rfl mB kB bB .nil pass0 (pa_cons (pv 11) pa_nil)) (fun _ _ => rfl)))) pa_nil)))
      (pss_cons (ps_set (i := 8) sc.nd rfl (Or.inl rfl) (pe_callTy (call_dictP rfl) (by rfl) T.dict boot_dict (pa_cons (pe_lock (pe_lc (own := [("_law_name", 10)]) (g := gName 10) (tt := tYes) rfl sc.nd (pi_keys (pv 6)) (blkOk_by (N := ["_law_purse_here", "_law_clause_here", "_law_names", "_law_some", "_law_due", "_law_words_here", "_law_sent", "_law_held", "_law_back", "_law_few", "_law_name", "_law_literal", "_law_word_here"]) (sc := defScope sSR) (by decide +kernel)) (fun _ _ _ _ _ => pg_name (i := 10) sc.nd rfl (Or.inl rfl)) (fun _ _ _ _ _ => pts_nil) (fun _ _ _ _ _ => pe_tup (pa_cons (pe_dget hu (pv 6) (pv 10) (fun _ _ => rfl)) (pa_cons (pv 10) pa_nil))))) pa_nil)))
      (pss_cons (ps_set (i := 9) sc.nd rfl (Or.inl rfl) (pe_callTy (call_dictP rfl) (by rfl) T.dict boot_dict (pa_cons (pe_lc (own := [("_law_name", 10)]) (g := gName 10) (tt := tYes) rfl sc.nd (pi_list (pe_lc (own := [("_law_literal", 11)]) (g := gName 11) (tt := tYes) rfl sc.nd (pi_sq (pv 1)) (blkOk_by (N := ["_law_purse_here", "_law_clause_here", "_law_names", "_law_some", "_law_due", "_law_words_here", "_law_sent", "_law_held", "_law_back", "_law_few", "_law_name", "_law_literal", "_law_word_here"]) (sc := defScope sSR) (by decide +kernel)) (fun _ _ _ _ _ => pg_name (i := 11) sc.nd rfl (Or.inl rfl)) (fun _ _ _ _ _ => pts_nil) (fun _ _ _ _ _ => (pe_call OB hr1 rfl mB kB bB .nil pass0 (pa_cons (pv 11) pa_nil))))) (blkOk_by (N := ["_law_purse_here", "_law_clause_here", "_law_names", "_law_some", "_law_due", "_law_words_here", "_law_sent", "_law_held", "_law_back", "_law_few", "_law_name", "_law_literal", "_law_word_here"]) (sc := defScope sSR) (by decide +kernel)) (fun _ _ _ _ _ => pg_name (i := 10) sc.nd rfl (Or.inl rfl)) (fun _ _ _ _ _ => pts_nil) (fun _ _ _ _ _ => pe_tup (pa_cons (pv 10) (pa_cons (pe_dget hu (pv 6) (pv 10) (fun _ _ => rfl)) pa_nil)))) pa_nil)))
      (pss_one (ps_ret (pe_call OE hr4 rfl mE kE bE .nil pass0 (pa_cons (pe_lst (pa_cons (pe_callK0 OR hr (by rfl) mR kR qR pass0 (pk_cons (pv 6) (pk_cons (pv 1) pk_nil))) (pa_cons (pv 6) (pa_cons (pe_call OR hr rfl mR kR bR .nil pass0 (pa_cons (pv 4) (pa_cons (pv 8) pa_nil))) (pa_cons (pe_call OR hr rfl mR kR bR .nil pass0 (pa_cons (pv 1) (pa_cons (pv 9) pa_nil))) pa_nil))))) (pa_cons (pe_lst (pa_cons (pv 4) (pa_cons (pv 7) (pa_cons (pv 1) (pa_cons (pv 4) pa_nil))))) pa_nil)))))))))))))), ?_⟩
    have nDp0 : ∀ {D : Addr}, H D = none → D ≠ p := fun {D} e z => by
      rw [z, hp] at e
      cases e
    refine ⟨_, rfl, q, rfl, ⟨_, SqL.of hS⟩, fun D nD => ?_⟩
    have nDp := nDp0 nD
    refine lc_list (K := K) (a := q) (xs := ns.map V.str) (fun i Hc => i ≤ ns.length ∧ ∃ (l3 : List V) (fs : List Str), But p H Hc ∧ Hc p = some (.lst l3) ∧ PurseL (n + (i : Int)) l3 ∧ Hc D = some (.lst (fs.map V.str)) ∧ fs.Sublist (ns.take i)) ?_ ?_ ?_ ?_
    · exact ⟨Nat.zero_le _, l, [], .of (same_new nD), (upd_ne (Ne.symm nDp)).trans hp, by simpa using hl, upd_same, List.nil_sublist _⟩
    · rintro i Hc hi ⟨_, l3, fs, bu3, _⟩
      exact bu3.sqL (SqL.of hS) nqp
    · rintro i x Hc hx ⟨hi, l3, fs, bu3, hp3, hl3, hD, sub⟩
      have hi2 : i < ns.length := by
        have := (List.getElem?_eq_some_iff.mp hx).1
        rw [List.length_map] at this
        exact this
      rw [List.getElem?_map, List.getElem?_eq_getElem hi2] at hx
      cases hx
      have lfs : fs.length ≤ 6 := by
        have := sub.length_le
        rw [List.length_take] at this
        omega
      have st : But p H (upd Hc p (.lst l3)) := fun b o e ne => by rw [upd_ne ne]; exact bu3 b o e ne
      walk_at "go"
      refine ⟨p, 2, _, l3, rfl, hp3, hl3, by omega, by decide, by decide, fun l4 r4 h4 r0 r1 => ?_⟩
      refine ⟨rfl, _, rfl, ?_⟩
      refine ite2 (fun z => ?_) (fun z => ?_)
      · refine ⟨_, rfl, fs.map V.str, (upd_ne nDp).trans hD, by rw [List.length_map]; omega, hi2, l4, fs ++ [ns[i]], fun b o e ne => ?_, (upd_ne (Ne.symm nDp)).trans upd_same, ?_, by rw [upd_same, List.map_append]; rfl, ?_⟩
        · rw [upd_ne (ne_of_none e nD), upd_ne ne]
          exact bu3 b o e ne
        · have e : n + ((i + 1 : Nat) : Int) = n + (i : Int) + 1 := by omega
          rw [e]
          exact h4
        · rw [List.take_add_one, List.getElem?_eq_getElem hi2]
          exact sub.append (List.Sublist.refl _)
      · refine ⟨hi2, l4, fs, fun b o e ne => ?_, upd_same, ?_, (upd_ne nDp).trans hD, ?_⟩
        · rw [upd_ne ne]
          exact bu3 b o e ne
        · have e : n + ((i + 1 : Nat) : Int) = n + (i : Int) + 1 := by omega
          rw [e]
          exact h4
        · rw [List.take_add_one]
          exact sub.trans (List.sublist_append_left ..)
    · rintro H1 ⟨_, l1, fs, bu1, hp1, hl1, hD, sub⟩
      rw [List.length_map] at hl1 sub
      rw [List.take_length] at sub
      have lowf : fs.all lowZ = true := List.all_eq_true.mpr fun s hs => List.all_eq_true.mp lo s (sub.subset hs)
      have ascf : ascS fs = true := asc_of_sorted (sorted_of_pw ((asc_pw as).sublist sub)) (nd.sublist sub)
      have lf := sub.length_le
      have lits := g.lits lo
      have ly : ys.length ≤ 6 := by
        have h := nodup_le g.one (fun s hs => by
          obtain ⟨y, hy, rfl⟩ := List.mem_map.mp hs
          exact g.names lo hy)
        rw [List.length_map] at h
        omega
      have aT1 := bu1.sqT hT nap
      dsimp only [gName, tSeq, tAsg, tRet, tCB, tCons, tNil, tCall, tNext, tLst]
      refine seq_lc (fun | .str z => some (.str (turnS fs z)) | x => some x) rfl (.inr aT1) (by rw [List.length_map]; omega) (fun x H3 Ψ Θ hx s3 yes no => ?_) (fun H2 D2 s2 nD2 h2 => ?_)
      · obtain ⟨y, hy, rfl⟩ := List.mem_map.mp hx
        have p1 := lit_pos (lits y hy)
        have p9 := lit_short (lits y hy)
        walk_at "go"
        refine ⟨D, _, rfl, .inl (SqL.of (s3 _ _ hD)), rfl, flat_strs fs, ?_⟩
        refine ⟨_, rfl, ?_⟩
        rw [inV_strs]
        by_cases c : bareS y ∈ fs
        · rw [decide_eq_true c]
          refine iteT ⟨_, rfl, y, rfl, p1, p9, yes _ H3 ?_ (same_refl _)⟩
          show some (V.str (turnS fs y)) = _
          unfold turnS
          rw [if_pos c]
        · rw [decide_eq_false c]
          refine iteF ⟨_, rfl, yes _ H3 ?_ (same_refl _)⟩
          show some (V.str (turnS fs y)) = _
          unfold turnS
          rw [if_neg c]
      · have e : (ys.map V.str).filterMap (fun | .str z => some (V.str (turnS fs z)) | x => some x) = (ys.map (turnS fs)).map V.str := by
          rw [List.filterMap_map, List.map_map]
          exact fm_some (fun y => V.str (turnS fs y)) ys
        rw [e] at h2
        refine ⟨D2, _, rfl, .inl (SqL.of h2), by rw [List.length_map]; omega, fun H3 t1 rs1 s3 n1 h3 io1 => ?_⟩
        have s13 := same_trans s2 s3
        obtain ⟨g1, l1r⟩ := g.turn lo (turn_paired fs ys) io1
        have clA : ClAt K H3 a ys := ⟨sqT_same aT1 s13, g.cl lo, by omega⟩
        have clD : ClAt K H3 t1 rs1 := ⟨SqT.of h3, g1.cl lo, by omega⟩
        refine ⟨_, rfl, _, rfl, a, D, ys, fs, rfl, clA, SqL.of (s13 _ _ hD), lowf, ascf, by omega, fun H4 t2 rs2 s4 n2 h4 io2 => ?_⟩
        have s14 := same_trans s13 s4
        refine ⟨_, rfl, _, rfl, t1, D, rs1, fs, rfl, clD.same s4, SqL.of (s14 _ _ hD), lowf, ascf, by omega, fun H5 t3 rs3 s5 n3 h5 io3 => ?_⟩
        have s15 := same_trans s14 s5
        refine ⟨_, rfl, Nat.zero_le _, fun e0 ne0 => ?_⟩
        have s16 := same_trans s15 (same_new (o := .lst []) ne0)
        refine ⟨a, e0, ys, [], rfl, ⟨sqT_same aT1 s16, g.cl lo, by omega⟩, SqL.of upd_same, rfl, rfl, by decide, fun H6 t4 rs4 s6 n4 h6' io4 => ?_⟩
        have s17 := same_trans s16 s6
        refine ⟨(by show 3 ≤ sizeLine; omega), fun pA nA => ?_⟩
        have s18 := same_trans s17 (same_new (o := .lst [.ref t2, .ref t3, .ref t4]) nA)
        refine ⟨_, rfl, _, rfl, _, rfl, (by show 3 ≤ sizeLine; omega), fun pB nB => ?_⟩
        have sB := same_new (o := .lst [.ref t1, .ref a, .ref a]) nB
        have s19 := same_trans s18 sB
        have e21 : rs2 = rs1 := io2.uniq io1 fun _ => Iff.rfl
        have e3 : rs3 = ys := io3.uniq g.ord fun y => turn_back lits io1 y
        have e4 : rs4 = ys := io4.uniq g.ord fun y => by
          have e : ys.map (turnS []) = ys := (List.map_congr_left fun y _ => turn_nil y).trans (List.map_id _)
          rw [e]
        subst e21
        rw [e3] at h5
        rw [e4] at h6'
        have sAB := same_trans (same_new (o := .lst [.ref t2, .ref t3, .ref t4]) nA) sB
        have s6AB := same_trans s6 sAB
        have s5AB := same_trans (same_trans s5 (same_new (o := .lst []) ne0)) s6AB
        have h4F := s5AB _ _ h4
        have h3F := same_trans s4 s5AB _ _ h3
        have h5F := same_trans (same_new (o := .lst []) ne0) s6AB _ _ h5
        have h6F := sAB _ _ h6'
        have aF := sqT_same aT1 s19
        refine ⟨.ref pA, .ref pB, rfl, ex_3 (sB _ _ upd_same) upd_same (ex_strsT (SqT.of h4F) (SqT.of h3F) (by omega) 1) (ex_strsT (SqT.of h5F) aF (by omega) 1) (ex_strsT (SqT.of h6F) aF (by omega) 1), fun H7 s7 => ⟨_, rfl, iteF ?_⟩⟩
        have s20 := same_trans s19 s7
        have bu7 : But p H H7 := bu1.trans (.of s20)
        have hp7 := s20 _ _ hp1
        have hq7 := bu7 q _ hS nqp
        have aT7 := bu7.sqT hT nap
        clear s20 s19 s18 s17 s16 s15 s14 s13 aF h6F h5F h3F h4F s5AB s6AB sAB e4 e3 clA clD g1 sB
        refine ⟨_, rfl, _, rfl, _, rfl, q, ns, rfl, SqL.of hq7, fun H8 r8 s8 n8 h8 => ?_⟩
        refine ⟨_, rfl, r8, _, rfl, SqL.of h8, fun c nc => ?_⟩
        rw [cutV_take _ _ (by decide), ← List.map_take]
        have t2e : (2 : Int).toNat = 2 := rfl
        rw [t2e]
        have s9 := same_trans s8 (same_new (o := .lst (((spareS ns).take 2).map V.str)) nc)
        refine ⟨q, c, _, _, rfl, rfl, s9 _ _ hq7, upd_same, by rw [List.length_map, List.length_map, List.length_take]; omega, fun cc ncc => ?_⟩
        have s10 := same_trans s9 (same_new (o := .lst (ns.map V.str ++ ((spareS ns).take 2).map V.str)) ncc)
        have ccp : cc ≠ p := fun z => by
          have nn := same_free s9 ncc
          rw [z, hp7] at nn
          cases nn
        refine ⟨p, cc, _, l1, _, rfl, s10 _ _ hp7, hl1, by omega, SqL.of upd_same, ccp, by rw [List.length_append, List.length_map, List.length_map, List.length_take]; omega, fun H11 r11 l2 ws0 bu11 hp11 hl11 n11 h11 pm => ?_⟩
        rw [← List.map_append] at pm
        obtain ⟨ws, rfl, pmw⟩ := perm_strs pm
        rw [← List.map_append, List.length_map, List.length_append, List.length_take] at hl11
        obtain ⟨wn, wl, wle⟩ := words_ok nd lo pmw
        have buX : But p H H11 := (bu7.trans (.of s10)).trans bu11
        have hqX := buX q _ hS nqp
        have r11p : r11 ≠ p := fun z => by
          rw [z, s10 _ _ hp7] at n11
          cases n11
        refine ⟨_, rfl, _, rfl, _, rfl, q, r11, _, _, rfl, SqL.of hqX, SqL.of h11, fun H12 D12 ts s12 n12 h12 lts at12 => ?_⟩
        rw [List.length_map, List.length_map] at lts
        have lts6 : ts.length = ns.length := by omega
        have hp12 := s12 _ _ hp11
        have D12p : D12 ≠ p := fun z => by
          rw [z, hp11] at n12
          cases n12
        refine ⟨p, D12, _, l2, _, rfl, hp12, hl11, by omega, SqL.of h12, D12p, by rw [List.length_map]; omega, fun H13 r13 l3 zs bu13 hp13 hl13 n13 h13 pm13 => ?_⟩
        obtain ⟨us, rfl, pu⟩ := perm_refs pm13
        rw [List.length_map] at hl13
        have lu : us.length ≤ 6 := by
          rw [pu.length_eq]
          omega
        have bu12 : But p H11 H13 := (But.of s12).trans bu13
        have buY : But p H H13 := buX.trans bu12
        have at13 : ∀ u ∈ us, itemsAt H13 (.ref u) = [.str (pairAt H13 u).1, .str (pairAt H13 u).2] := fun u hu => by
          obtain ⟨j, hj⟩ := List.mem_iff_getElem?.mp (pu.mem_iff.mp hu)
          obtain ⟨x, y, ex, ey, ht⟩ := at12 j u hj
          have ne : u ≠ p := fun z => by
            rw [z, hp12] at ht
            cases ht
          have h13t := bu13 _ _ ht ne
          obtain ⟨sx, _, rfl⟩ := List.mem_map.mp (List.mem_of_getElem? ex)
          obtain ⟨sy, _, rfl⟩ := List.mem_map.mp (List.mem_of_getElem? ey)
          rw [pairAt_of h13t, itemsAt_of h13t]
        have ezip : ts.map (pairAt H13) = ns.zip ws := zip_map lts wle (fun j t hj => by
          obtain ⟨x, y, ex, ey, ht⟩ := at12 j t hj
          have ne : t ≠ p := fun z => by
            rw [z, hp12] at ht
            cases ht
          rw [List.getElem?_map] at ex ey
          obtain ⟨sx, e1, rfl⟩ := Option.map_eq_some_iff.mp ex
          obtain ⟨sy, e2, rfl⟩ := Option.map_eq_some_iff.mp ey
          exact ⟨sx, sy, e1, e2, pairAt_of (bu13 _ _ ht ne)⟩)
        have SS : Sent ns (us.map (pairAt H13)) := sent_of nd lo h6 wn wl wle (by rw [← ezip]; exact pu.map _)
        refine ⟨r13, rfl, ⟨_, SqL.of h13⟩, fun D14 n14 => ?_⟩
        have it13 : ∀ u ∈ us, ∃ (s1 s2 : Str), H13 u = some (.tup [.str s1, .str s2]) ∧ itemsAt H13 (.ref u) = [.str s1, .str s2] := fun u hu => by
          obtain ⟨j, hj⟩ := List.mem_iff_getElem?.mp (pu.mem_iff.mp hu)
          obtain ⟨x, y, ex, ey, ht⟩ := at12 j u hj
          have ne : u ≠ p := fun z => by
            rw [z, hp12] at ht
            cases ht
          have h13t := bu13 _ _ ht ne
          obtain ⟨sx, _, rfl⟩ := List.mem_map.mp (List.mem_of_getElem? ex)
          obtain ⟨sy, _, rfl⟩ := List.mem_map.mp (List.mem_of_getElem? ey)
          exact ⟨sx, sy, h13t, itemsAt_of h13t⟩
        refine tupsR_it (xs := us.map V.ref) (walk_list (K := K)) (fun x zs => zs = itemsAt H13 x) n14 (by rw [List.length_map]; omega) (fun H2 s2 => SqL.of (s2 _ _ h13)) (fun x H2 Ψ Θ hx s2 yes => ?_) (fun H15 ts5 s15 h15 pr15 => ?_)
        · obtain ⟨u, hu, rfl⟩ := List.mem_map.mp hx
          obtain ⟨sx, sy, hu13, hi13⟩ := it13 u hu
          refine ⟨u, [_, _], rfl, SqT.of (s2 _ _ hu13), rfl, _, [_], rfl, _, [], rfl, rfl, ?_⟩
          walk_at "go"
          exact ⟨(by show 2 ≤ sizeLine; omega), fun t nt => yes t _ _ (same_new nt) upd_same hi13.symm⟩
        · dsimp only [tNil]
          refine ⟨D14, ts5, _, rfl, SqL.of h15, pairs_dm pr15 at13, fun d nd14 => ?_⟩
          rw [merge_dm0 SS.kn]
          generalize us.map (pairAt H13) = ps at SS
          have s16 := same_trans s15 (same_new (o := .dK (dm ps)) nd14)
          have hd : upd H15 d (.dK (dm ps)) d = some (.dK (dm ps)) := upd_same
          have dp : d ≠ p := fun z => by
            have nn := same_free s15 nd14
            rw [z, hp13] at nn
            cases nn
          have buZ : But p H (upd H15 d (.dK (dm ps))) := buY.trans (.of s16)
          have hpZ := s16 _ _ hp13
          generalize upd H15 d (.dK (dm ps)) = H16 at hd buZ hpZ
          have aTZ := buZ.sqT hT nap
          clear s16 pr15 h15 s15 ezip it13 at13 at12
          dsimp only [gName, tSeq, tAsg, tRet, tCB, tCons, tNil, tCall, tNext, tLst]
          refine ⟨_, rfl, d, _, rfl, .inl hd, fun d2 n2 => ?_⟩
          have hd2 : upd H16 d2 (.dK (dm ps)) d2 = some (.dK (dm ps)) := upd_same
          have s17 := same_new (o := .dK (dm ps)) n2
          have ndd : d ≠ d2 := ne_of_none hd n2
          generalize upd H16 d2 (.dK (dm ps)) = H17 at hd2 s17
          have hd17 := s17 _ _ hd
          clear s10 bu11 n11
          have nmy : ∀ y ∈ ys, bareS y ∈ ns := fun y hy => g.names lo hy
          refine seq_lc (fun | .str z => some (.str (sendY ps z)) | x => some x) rfl (.inr (sqT_same aTZ s17)) (by rw [List.length_map]; omega) (fun x H3 Ψ Θ hx s3 yes no => ?_) (fun H18 D18 s18 nD18 h18 => ?_)
          · obtain ⟨y, hy, rfl⟩ := List.mem_map.mp hx
            have p1 := lit_pos (lits y hy)
            have p9 := lit_short (lits y hy)
            obtain ⟨cS, hcS, hneg⟩ := first_cps p1
            obtain ⟨v1, v2, _⟩ := SS.val (nmy y hy)
            have lx := (low_parts v2).2.1
            have gd := dget_of (s3 _ _ hd17) v1
            refine ⟨rfl, _, rfl, y, 0, cS, rfl, rfl, by omega, atI_nat (j := 0) hcS, rfl, _, rfl, ?_⟩
            have e0 : decide (V.str ⟨#[cS]⟩ = V.str dash) = negS y := by rw [one_sign, hneg]
            show if decide (V.str ⟨#[cS]⟩ = V.str dash) = true then _ else _
            rw [e0]
            refine ite2 (fun c => ?_) (fun c => ?_)
            · refine ⟨_, rfl, _, rfl, y, rfl, p1, p9, d, _, rfl, gd, dash, rnOf ps (bareS y), rfl, rfl, ?_, yes _ H3 ?_ (same_refl _)⟩
              · show 1 + (rnOf ps (bareS y)).length ≤ sizeLine
                omega
              · show some (V.str (sendS (rnOf ps (bareS y)) y)) = _
                have e : sendS (rnOf ps (bareS y)) y = dash ++ rnOf ps (bareS y) := if_pos c
                rw [e]
            · refine ⟨_, rfl, _, rfl, y, rfl, p1, p9, d, _, rfl, gd, Str.ofString "", rnOf ps (bareS y), rfl, rfl, ?_, yes _ H3 ?_ (same_refl _)⟩
              · show 0 + (rnOf ps (bareS y)).length ≤ sizeLine
                omega
              · show some (V.str (sendS (rnOf ps (bareS y)) y)) = _
                have e : sendS (rnOf ps (bareS y)) y = rnOf ps (bareS y) := if_neg c
                rw [e, empty_cat]
          · have e9 : (ys.map V.str).filterMap (fun | .str z => some (V.str (sendY ps z)) | x => some x) = (ys.map (sendY ps)).map V.str := by
              rw [List.filterMap_map, List.map_map]
              exact fm_some (fun y => V.str (sendY ps y)) ys
            rw [e9] at h18
            refine ⟨D18, _, rfl, .inl (SqL.of h18), by rw [List.length_map]; omega, fun H19 t9 rs9 s19 n19 h19 io9 => ?_⟩
            have sZ19 := same_trans s17 (same_trans s18 s19)
            have hd19 := sZ19 _ _ hd
            have hd2_19 := same_trans s18 s19 _ _ hd2
            obtain ⟨g9, l9⟩ := SS.good g lo io9
            have loV : (ps.map (·.2)).all lowZ = true := List.all_eq_true.mpr fun s hs => by
              obtain ⟨p, hp, rfl⟩ := List.mem_map.mp hs
              exact (SS.low p hp).2
            dsimp only [gName, tSeq, tAsg, tRet, tCB, tCons, tNil, tCall, tNext, tLst]
            refine ⟨d, _, hd19, trivial, fun od => ?_⟩
            refine ⟨_, rfl, d, od, rfl, .inl ⟨_, upd_same, fun D20 nD20 => ?_⟩⟩
            have wk : Walk (Itk d od (dm ps)) ((dm ps).map fun kv => L2.kV kv.1).length (fun H => H d = some (.frz od (.dK (dm ps)))) (YAt ((dm ps).map fun kv => L2.kV kv.1)) := by
              rw [List.length_map]
              exact walk_keys.mono (fun H h => h) fun i H x H' hi h y => by
                obtain ⟨e, k, v, e2, rfl⟩ := y
                exact ⟨e, by rw [List.getElem?_map, e2]; rfl⟩
            refine tupsR_it wk (fun x zs => ∀ q ∈ ps, x = .str q.1 → zs = [.str q.2, .str q.1]) nD20 (by rw [List.length_map]; unfold dm; rw [List.length_map]; have := SS.few; omega) (fun H2 s2 => s2 _ _ upd_same) (fun x H2 Ψ Θ hx s2 yes => ?_) (fun H20 ts6 s20 h20 pr20 => ?_)
            · obtain ⟨kv, hkv, rfl⟩ := List.mem_map.mp hx
              obtain ⟨q, hq, rfl⟩ := List.mem_map.mp hkv
              have gA : DGet H2 d (.str q.1) (some (.str q.2)) := .inl ⟨dm ps, Sum.inr q.1, .inr ⟨od, s2 _ _ upd_same⟩, rfl, (valV_dm SS.kn hq).symm⟩
              refine ⟨rfl, _, rfl, _, rfl, d, _, rfl, gA, _, rfl, (by show 2 ≤ sizeLine; omega), fun t nt => yes t _ _ (same_new nt) upd_same fun q2 hq2 e => ?_⟩
              injection e with e
              have : q = q2 := inj_of_nodup SS.kn hq hq2 e
              rw [← this]
              rfl
            · have nDd : D20 ≠ d := fun z => by
                rw [z, upd_same] at nD20
                cases nD20
              have fr20 := s20 _ _ upd_same
              have back : Same H19 (upd H20 d (.dK (dm ps))) := fun c o e => by
                by_cases h : c = d
                · rw [h, upd_same, ← e, h]
                  exact hd19.symm
                · rw [upd_ne h]
                  exact s20 c o ((upd_ne h).trans e)
              refine ⟨fr20, ?_⟩
              have prU := pr_upd (o := .dK (dm ps)) fr20 pr20
              have hU := (upd_ne (o := .dK (dm ps)) nDd).trans h20
              have hdU : upd H20 d (.dK (dm ps)) d = some (.dK (dm ps)) := upd_same
              generalize upd H20 d (.dK (dm ps)) = H21 at back prU hU hdU
              clear pr20 h20 s20 fr20 nD20
              dsimp only [gName, tSeq, tAsg, tRet, tCB, tCons, tNil, tCall, tNext, tLst]
              refine ⟨D20, ts6, _, rfl, SqL.of hU, pairs_back (fun q hq zs h => h q hq rfl) prU, fun db ndb => ?_⟩
              have nSw : ((ps.map swapP).map (·.1)).Nodup := by rw [swap_fst]; exact SS.vn
              rw [merge_dm0 nSw]
              have hdb : upd H21 db (.dK (dm (ps.map swapP))) db = some (.dK (dm (ps.map swapP))) := upd_same
              have s22 := same_new (o := .dK (dm (ps.map swapP))) ndb
              generalize upd H21 db (.dK (dm (ps.map swapP))) = H22 at hdb s22
              have s19_22 := same_trans back s22
              have sZ22 := same_trans sZ19 s19_22
              refine lc_of ?_
              refine seq_lc (fun | .str z => some (.str (bareS z)) | x => some x) rfl (.inr (sqT_same aTZ sZ22)) (by rw [List.length_map]; omega) (fun x H3 Ψ Θ hx s3 yes no => ?_) (fun H23 D23 s23 nD23 h23 => ?_)
              · obtain ⟨y, hy, rfl⟩ := List.mem_map.mp hx
                exact ⟨rfl, _, rfl, y, rfl, lit_pos (lits y hy), lit_short (lits y hy), yes _ H3 rfl (same_refl _)⟩
              · have e10 : (ys.map V.str).filterMap (fun | .str z => some (V.str (bareS z)) | x => some x) = (ys.map bareS).map V.str := by
                  rw [List.filterMap_map, List.map_map]
                  exact fm_some (fun y => V.str (bareS y)) ys
                rw [e10] at h23
                have hd23 := same_trans s22 s23 _ _ hdU
                refine ⟨D23, rfl, ⟨_, SqL.of h23⟩, fun D24 nD24 => ?_⟩
                refine tupsR_it (xs := (ys.map bareS).map V.str) (walk_list (K := K)) (fun x zs => ∀ s, x = .str s → zs = [.str s, .str (rnOf ps s)]) nD24 (by rw [List.length_map, List.length_map]; omega) (fun H2 s2 => SqL.of (s2 _ _ h23)) (fun x H2 Ψ Θ hx s2 yes => ?_) (fun H24 ts7 s24 h24 pr24 => ?_)
                · obtain ⟨s0, hs0, rfl⟩ := List.mem_map.mp hx
                  obtain ⟨y, hy, rfl⟩ := List.mem_map.mp hs0
                  have gA := dget_of (s2 _ _ hd23) (SS.val (nmy y hy)).1
                  refine ⟨rfl, _, rfl, _, rfl, _, rfl, d, _, rfl, gA, (by show 2 ≤ sizeLine; omega), fun t nt => yes t _ _ (same_new nt) upd_same fun s e => ?_⟩
                  injection e with e
                  rw [← e]
                · refine ⟨D24, ts7, _, rfl, SqL.of h24, pairs_few (fun s zs h => h s rfl) pr24, fun df ndf => ?_⟩
                  obtain ⟨f1, f2, f3, f4⟩ := SS.fewOk g lo
                  rw [merge_dm0 f1]
                  have hdf : upd H24 df (.dK (dm (fewP ps ys))) df = some (.dK (dm (fewP ps ys))) := upd_same
                  have s25 := same_new (o := .dK (dm (fewP ps ys))) ndf
                  generalize upd H24 df (.dK (dm (fewP ps ys))) = H25 at hdf s25
                  have s22_25 := same_trans s23 (same_trans s24 s25)
                  have s19_25 := same_trans s19_22 s22_25
                  have sZ25 := same_trans sZ22 s22_25
                  have few60 : ps.length < 60 := by have := SS.few; omega
                  have clA : ClAt K H25 a ys := ⟨sqT_same aTZ sZ25, g.cl lo, by omega⟩
                  have cl9 : ClAt K H25 t9 rs9 := ⟨SqT.of (s19_25 _ _ h19), g9.cl loV, by omega⟩
                  have len8 : ∀ y ∈ ys, (rnOf ps (bareS y)).length ≤ 8 := fun y hy => (low_parts (SS.val (nmy y hy)).2.1).2.1
                  refine ⟨_, rfl, _, rfl, a, d, ys, ps, rnOf ps, rfl, clA, sZ25 _ _ hd, SS.low, SS.vn, few60, fun y hy => (SS.val (nmy y hy)).1, len8, fun H26 r26 rs26 s26 n26 h26 io26 => ?_⟩
                  have e26 : rs26 = rs9 := io26.uniq io9 fun _ => Iff.rfl
                  refine ⟨_, rfl, _, rfl, _, rfl, t9, db, rs9, ps.map swapP, rnOf (ps.map swapP), rfl, cl9.same s26, same_trans s22_25 s26 _ _ hdb, (fun q hq => by
                    obtain ⟨r, hr, rfl⟩ := List.mem_map.mp hq
                    exact ⟨(SS.low r hr).2, (SS.low r hr).1⟩), by rw [swap_snd]; exact SS.kn, by rw [List.length_map]; exact few60, fun z hz => ?_, fun z hz => ?_, fun H27 r27 rs27 s27 n27 h27 io27 => ?_⟩
                  · obtain ⟨_, _, _, v, _, _⟩ := SS.there g lo io9 hz
                    exact v
                  · obtain ⟨_, _, _, _, v, _⟩ := SS.there g lo io9 hz
                    exact v
                  have e27 : rs27 = ys := io27.uniq g.ord fun y => SS.back_mem g lo io9 y
                  have s26_27 := same_trans s26 s27
                  refine ⟨_, rfl, _, rfl, a, df, ys, fewP ps ys, rnOf ps, rfl, clA.same s26_27, s26_27 _ _ hdf, f3, f2, by unfold fewP; rw [List.length_map]; omega, f4, len8, fun H28 r28 rs28 s28 n28 h28 io28 => ?_⟩
                  have e28 : rs28 = rs9 := io28.uniq io9 fun _ => Iff.rfl
                  rw [e26] at h26
                  rw [e27] at h27
                  rw [e28] at h28
                  have s25_28 := same_trans s26_27 s28
                  refine ⟨(by show 4 ≤ sizeLine; omega), fun pA nA => ?_⟩
                  have sA := same_new (o := .lst [.ref r26, .ref d, .ref r27, .ref r28]) nA
                  refine ⟨_, rfl, _, rfl, _, rfl, _, rfl, (by show 4 ≤ sizeLine; omega), fun pB nB => ?_⟩
                  have sB := same_new (o := .lst [.ref t9, .ref d2, .ref a, .ref t9]) nB
                  have sAB := same_trans sA sB
                  have sF := same_trans s25_28 sAB
                  have h9F := SqT.of (K := K) (same_trans s19_25 sF _ _ h19)
                  have aF := sqT_same aTZ (same_trans sZ25 sF)
                  refine ⟨.ref pA, .ref pB, rfl, ex_4 (sB _ _ upd_same) upd_same (ex_strsT (SqT.of (same_trans s27 (same_trans s28 sAB) _ _ h26)) h9F (by omega) 1) (.inr (.inr ⟨Nat.le_refl _, d, d2, ps, rfl, rfl, ndd, same_trans sZ25 sF _ _ hd, same_trans s19_25 sF _ _ hd2_19, SS.kn, by omega⟩))
                    (ex_strsT (SqT.of (same_trans s28 sAB _ _ h27)) aF (by omega) 1) (ex_strsT (SqT.of (sAB _ _ h28)) h9F (by omega) 1), fun H30 s30 => ?_⟩
                  have sFin := same_trans sZ25 (same_trans sF s30)
                  exact k H30 l3 (buZ.trans (.of sFin)) (sFin _ _ hpZ) (hl13.mono (by omega))
end
end My
end

section
set_option Elab.async false
set_option linter.all false
set_option maxRecDepth 100000
set_option maxHeartbeats 4000000
namespace My
local macro_rules | `(tactic| walk_at "go") => `(tactic| (repeat (first
  | (refine ⟨_, rfl, ?_⟩)
  | (refine ⟨_, _, rfl, rfl, ?_⟩)
  | (refine ⟨_, _, rfl, ?_⟩)
  | (refine ⟨rfl, ?_⟩)
  | (refine Or.inl ⟨_, rfl, ?_⟩)
  | (refine ⟨_, _, _, _, rfl, rfl, L2.SqL.of (by first | assumption | exact L2.upd_same), rfl, ?_⟩)
  | (refine ⟨_, _, _, _, rfl, rfl, (by first | assumption | exact L2.upd_same), rfl, ?_⟩)
  | (refine And.intro (by first | omega | decide | (unfold L2.CPow; decide) | (unfold L2.CMul; omega) | (unfold L2.CDiv; omega)) ?_))))
open PySem PySem.Spec PyProof.Rows L2 TL MyF MyS MyW MyT MyQ MyV MyZ MyL RZ
/-- a clause over ns at t -/
def ClG (ns : List Str) (H : Hp) (t : Addr) : Prop := ∃ rs : List Str, H t = some (.tup (rs.map V.str)) ∧ Good ns rs ∧ rs.length ≤ 6
theorem ClG.ne {ns : List Str} {H : Hp} {t p : Addr} {l : List V} (h : ClG ns H t) (hp : H p = some (.lst l)) : t ≠ p := by
  obtain ⟨rs, e, _⟩ := h
  intro z
  rw [z, hp] at e
  cases e
theorem ClG.but {ns : List Str} {H H' : Hp} {t p : Addr} {l : List V} (h : ClG ns H t) (hp : H p = some (.lst l)) (b : But p H H') : ClG ns H' t := by
  have n := h.ne hp
  obtain ⟨rs, e, g⟩ := h
  exact ⟨rs, b _ _ e n, g⟩
theorem ClG.same {ns : List Str} {H H' : Hp} {t : Addr} (h : ClG ns H t) (s : Same H H') : ClG ns H' t := by
  obtain ⟨rs, e, g⟩ := h
  exact ⟨rs, s _ _ e, g⟩
theorem cutV_whole {xs : List V} {lo hi : Option Int} (h : HT.sIx xs.length 0 lo = 0 ∧ HT.sIx xs.length xs.length hi = xs.length) : cutV xs lo hi = xs := by
  show (xs.drop (HT.sIx xs.length 0 lo)).take (HT.sIx xs.length xs.length hi - HT.sIx xs.length 0 lo) = xs
  rw [h.1, h.2, List.drop_zero, Nat.sub_zero, List.take_length]
theorem cutV_drop (xs : List V) (k : Nat) : cutV xs (some (k : Int)) none = xs.drop k := by
  show (xs.drop (HT.sIx xs.length 0 (some ((k : Nat) : Int)))).take (HT.sIx xs.length xs.length none - HT.sIx xs.length 0 (some ((k : Nat) : Int))) = _
  rw [HT.sIx_nat, HT.sIx_none]
  rcases Nat.le_total k xs.length with h | h
  · rw [Nat.min_eq_left h, List.take_of_length_le]
    rw [List.length_drop]
    exact Nat.le_refl _
  · rw [Nat.min_eq_right h, List.drop_of_length_le h, List.drop_of_length_le (Nat.le_refl _)]
    exact List.take_nil
/-- a slice of a tuple, new or the tuple itself -/
theorem slice_any {K : PySem.W.Frag} {H : Hp} {a : Addr} {xs : List V} {lo hi : Option Int} {Q : V → Hp → Prop} (h : H a = some (.tup xs)) (k : ∀ H' t, Same H H' → H' t = some (.tup (cutV xs lo hi)) → Q (.ref t) H') : rSlA K (.ref a) lo hi H Q :=
  ⟨a, xs, rfl, SqT.of h, fun w => k H a (same_refl H) (by rw [cutV_whole w]; exact h), fun _ p np => k _ p (same_new np) upd_same⟩
/-- a comprehension over a tuple that is an expression: first the expression -/
theorem lc_ofT {K : PySem.W.Frag} {tl : TE} {g : TG} {tt : TT} {te : TE} {vs : List Nat} {σ : L2.St} {H : Hp} {Q : V → Hp → Prop} (h : tl σ H fun x H1 => ∃ a, x = .ref a ∧ (∃ xs, SqT K H1 a xs) ∧ ∀ D, H1 D = none → ∃ W : Nat → Nat → Hp → Prop, (∃ m, W 0 m (upd H1 D (.lst []))) ∧ ∀ i m H, W i m H →
    ((Itt K a).stop i H ∧ Q (.ref D) H) ∨ ((Itt K a).go i H ∧ ∃ Nx : Hp → Prop, (∀ H', Nx H' → ∃ m', m' < m ∧ W (i + 1) m' H') ∧ ∀ x H', (Itt K a).yld i H x H' → g x (wipe σ vs) H' fun σ2 H2 => wipe σ2 vs = wipe σ vs ∧ tt σ2 H2 fun b H3 =>
      if b = true then te σ2 H3 fun y H4 => ∃ acc, H4 D = some (.lst acc) ∧ acc.length < sizeLine ∧ Nx (upd H4 D (.lst (acc ++ [y]))) else Nx H3)) : tLc (iTup K tl) g tt te vs σ H Q := h
theorem tupD {K : PySem.W.Frag} {a D : Addr} {xs : List V} {g : TG} {tt : TT} {te : TE} {vs : List Nat} {σ : L2.St} {H : Hp} {Qd : Hp → Prop} (F : V → Option V) (hS : SqT K H a xs) (few : xs.length < sizeLine) (nD : H D = none)
    (turn : ∀ x H2 (Ψ : V → Hp → Prop) (Θ : Hp → Prop), x ∈ xs → Same H H2 → (∀ y H5, F x = some y → Same H2 H5 → Ψ y H5) → (∀ H5, F x = none → Same H2 H5 → Θ H5) →
      g x (wipe σ vs) H2 fun σ2 H2 => wipe σ2 vs = wipe σ vs ∧ tt σ2 H2 fun b H3 => if b = true then te σ2 H3 Ψ else Θ H3)
    (done : ∀ H2, Same H H2 → H2 D = some (.lst (xs.filterMap F)) → Qd H2) :
    ∃ W : Nat → Nat → Hp → Prop, (∃ m, W 0 m (upd H D (.lst []))) ∧ ∀ i m H, W i m H →
      ((Itt K a).stop i H ∧ Qd H) ∨ ((Itt K a).go i H ∧ ∃ Nx : Hp → Prop, (∀ H', Nx H' → ∃ m', m' < m ∧ W (i + 1) m' H') ∧ ∀ x H', (Itt K a).yld i H x H' → g x (wipe σ vs) H' fun σ2 H2 => wipe σ2 vs = wipe σ vs ∧ tt σ2 H2 fun b H3 =>
        if b = true then te σ2 H3 fun y H4 => ∃ acc, H4 D = some (.lst acc) ∧ acc.length < sizeLine ∧ Nx (upd H4 D (.lst (acc ++ [y]))) else Nx H3) :=
  fm_it (g := g) (tt := tt) (te := te) (vs := vs) (σ := σ) (Qd := Qd) walk_tup (fun i => (xs[i]?).bind F) nD few (fun H2 s2 => sqT_same hS s2)
      (fun i x H2 H3 Ψ Θ hi s2 y yes no => by
        obtain ⟨rfl, hx⟩ := y
        exact turn x H3 Ψ Θ (List.mem_of_getElem? hx) s2 (fun y H5 e s5 => yes y H5 (by rw [hx]; exact e) s5) fun H5 e s5 => no H5 (by rw [hx]; exact e) s5)
      fun H2 s2 h2 => done H2 s2 (by rw [h2, range_fm])
theorem fm_refs (c : Addr → Bool) : ∀ ts : List Addr, (ts.map V.ref).filterMap (fun | .ref t => if c t = true then some (V.ref t) else none | _ => none) = (ts.filter c).map V.ref
  | [] => rfl
  | t :: ts => by
    have ih := fm_refs c ts
    by_cases h : c t = true
    · rw [List.map_cons, List.filterMap_cons_some (b := V.ref t) (by show (if c t = true then some (V.ref t) else none) = _; rw [if_pos h]), ih, List.filter_cons_of_pos h]
      rfl
    · rw [List.map_cons, List.filterMap_cons_none (by show (if c t = true then some (V.ref t) else none) = _; rw [if_neg h]), ih, List.filter_cons_of_neg h]
theorem opp_paired : ∀ ys : List Str, Paired (fun c y => c = y ∨ c = oppS y) (ys.map oppS) ys
  | [] => .nil
  | y :: ys => .cons (.inr rfl) (opp_paired ys)
theorem id_paired : ∀ ys : List Str, Paired (fun c y => c = y ∨ c = oppS y) ys ys
  | [] => .nil
  | y :: ys => .cons (.inl rfl) (id_paired ys)
theorem first_paired (ys : List Str) : Paired (fun c y => c = y ∨ c = oppS y) ((ys.take 1).map oppS ++ ys.drop 1) ys := by
  cases ys with
  | nil => exact .nil
  | cons y r => exact .cons (.inr rfl) (id_paired r)
structure Lts (mg : Str → Option Value) : Prop where
  sorted : mg "sorted" = none
  len : mg "len" = none
  range : mg "range" = none
  list : mg "list" = none
section
variable {P : Program} {w : World} {K : PySem.W.Frag} {mg : Str → Option Value} {base : Heap}
/-! ### law -/
def rLenS (K : PySem.W.Frag) : List V → Hp → VK → Prop := fun vs H Q => ∃ (p : Addr) (xs : List V), vs = [.ref p] ∧ (SqL K H p xs ∨ SqT K H p xs) ∧ Q (.int (xs.length : Nat)) H
theorem cr_lenS {X : Cx} : CallR X (.builtin "len") (rLenS X.K) := fun pins s σ H vs us Q I r ⟨p, xs, e, h, q⟩ => call_len_seq pins s σ H vs us Q I r ⟨p, xs, e, h, q⟩
abbrev sLaw3 : Stmt := top 55
def spLaw3 (K : PySem.W.Frag) : Sp := fun vs H Q _ => ∃ (a : Addr) (ns : List Int), vs = [.ref a] ∧ SqL K H a (ns.map V.int) ∧ ns.length ≤ 63 ∧ ∀ H', Q (.bl true) H'
theorem sc_law3 : FnScope ["_law_script", "_law_purse_here", "_law_names", "_law_full", "_law_some", "_law_one", "_law_clause_here", "_law_other", "_law_part", "_law_turn", "_law_literal"] ["_law_script"] (defScope sLaw3) := ⟨rfl, rfl, rfl, by decide +kernel, rfl, by decide +kernel, by decide +kernel⟩
theorem ok_law3 {f fQ fD fW fP fC fL fA fY fZ fR : Addr} {fd fdQ fdD fdW fdP fdC fdL fdA fdY fdZ fdR : FuncData} (G : Fun K "law" "law" sLaw3 f fd) (T : Lts mg)
    (mQ : mg "_law_purses" = some (.ref fQ)) (kQ : PySem.W.keepIn K (.ref fQ) = true) (OQ : FnOk P w K mg base CX0 3 fQ fdQ ["_law_script", "_law_few"] (spPurses K)) (bQ : Binds K fdQ ["_law_script", "_law_few"] [])
    (mD : mg "_law_draw" = some (.ref fD)) (kD : PySem.W.keepIn K (.ref fD) = true) (OD : FnOk P w K mg base CX0 2 fD fdD ["_law_purse_here", "_law_many"] spDraw) (bD : Binds K fdD ["_law_purse_here", "_law_many"] [])
    (mW : mg "_law_words" = some (.ref fW)) (kW : PySem.W.keepIn K (.ref fW) = true) (OW : FnOk P w K mg base CX0 5 fW fdW ["_law_purse_here", "_law_many"] spWords) (bW : Binds K fdW ["_law_purse_here", "_law_many"] [])
    (mP : mg "_law_parts" = some (.ref fP)) (kP : PySem.W.keepIn K (.ref fP) = true) (OP : FnOk P w K mg base CX0 1 fP fdP ["_law_names"] (spParts K)) (bP : Binds K fdP ["_law_names"] [])
    (mC : mg "_law_drawn_clause" = some (.ref fC)) (kC : PySem.W.keepIn K (.ref fC) = true) (OC : FnOk P w K mg base CX0 4 fC fdC ["_law_purse_here", "_law_names", "_law_most"] (spDrawn K)) (bC : Binds K fdC ["_law_purse_here", "_law_names", "_law_most"] [])
    (mL : mg "_law_clause" = some (.ref fL)) (kL : PySem.W.keepIn K (.ref fL) = true) (OL : FnOk P w K mg base CX0 1 fL fdL ["_law_literals"] (spLCl K)) (bL : Binds K fdL ["_law_literals"] [])
    (mA : mg "_law_contrary" = some (.ref fA)) (kA : PySem.W.keepIn K (.ref fA) = true) (OA : FnOk P w K mg base CX0 1 fA fdA ["_law_literal"] (spLOne oppS)) (bA : Binds K fdA ["_law_literal"] [])
    (mY : mg "_law_sent_right" = some (.ref fY)) (kY : PySem.W.keepIn K (.ref fY) = true) (OY : FnOk P w K mg base CX0 8 fY fdY ["_law_purse_here", "_law_clause_here", "_law_names"] (spSR K)) (bY : Binds K fdY ["_law_purse_here", "_law_clause_here", "_law_names"] [])
    (mZ : mg "_law_two_right" = some (.ref fZ)) (kZ : PySem.W.keepIn K (.ref fZ) = true) (OZ : FnOk P w K mg base CX0 9 fZ fdZ ["_law_one", "_law_other", "_law_full"] (spTwo K)) (bZ : Binds K fdZ ["_law_one", "_law_other", "_law_full"] [])
    (mR : mg "_law_lists_right" = some (.ref fR)) (kR : PySem.W.keepIn K (.ref fR) = true) (OR : FnOk P w K mg base CX0 7 fR fdR ["_law_purse_here", "_law_names"] (spLR K)) (bR : Binds K fdR ["_law_purse_here", "_law_names"] []) : FnOk P w K mg base CX0 10 f fd ["_law_script"] (spLaw3 K) := by
  have sc := sc_law3
  refine G.ok sc (fun vs H Q E h => ?_) (fun cdv A outer s H vs Q E hr h => ?_)
  · obtain ⟨_, _, rfl, _⟩ := h
    rfl
  · obtain ⟨a, zz, rfl, hS, h63, k⟩ := h
    have big : (100000 : Nat) < sizeLine := by decide
    have hu := hu_of hr
    have hr9 : Room 9 _ := hr.mono (by decide)
    have hr8 : Room 8 _ := hr.mono (by decide)
    have hr7 : Room 7 _ := hr.mono (by decide)
    have hr5 : Room 5 _ := hr.mono (by decide)
    have hr4 : Room 4 _ := hr.mono (by decide)
    have hr3 : Room 3 _ := hr.mono (by decide)
    have hr2 : Room 2 _ := hr.mono (by decide)
    have hr1 : Room 1 _ := hr.mono (by decide)
    refine ⟨_, pss_cons (ps_for PassesOwn.never rfl (pi_list (pe_call OQ hr3 rfl mQ kQ bQ .nil pass0 (pa_cons (pv 0) (pa_cons pe_int pa_nil)))) (pg_name (i := 1) sc.nd rfl (Or.inr rfl))
        (pss_cons (ps_set (i := 2) sc.nd rfl (Or.inr rfl) (pe_callB cr_sortedS (by rfl) T.sorted boot_sorted (pa_cons (pe_call OW hr5 rfl mW kW bW .nil pass0 (pa_cons (pv 1) (pa_cons (pe_op op_add pe_int (pe_call OD hr2 rfl mD kD bD .nil pass0 (pa_cons (pv 1) (pa_cons pe_int pa_nil)))) pa_nil))) pa_nil)))
        (pss_cons (ps_setLc (i := 3) (own := [("_law_part", 8)]) (g := gName 8) (tt := tTest (tOp rEq (tCB (rLenS K) (tCons (tVar 8) tNil)) (tCB (rLenS K) (tCons (tVar 2) tNil)))) rfl sc.nd rfl rfl (sw_true rfl rfl rfl (by decide +kernel)) (pi_list (pe_call OP hr1 rfl mP kP bP .nil pass0 (pa_cons (pv 2) pa_nil))) (blkOk_by (N := ["_law_script", "_law_purse_here", "_law_names", "_law_full", "_law_some", "_law_one", "_law_clause_here", "_law_other", "_law_part", "_law_turn", "_law_literal"]) (sc := defScope sLaw3) (by decide +kernel)) (fun _ _ _ _ _ => pg_name (i := 8) sc.nd rfl (Or.inl rfl)) (fun _ _ _ _ _ => pts_one (pt_cmpR op_eq (pe_callB cr_lenS (by rfl) T.len boot_len (pa_cons (pv 8) pa_nil)) (pe_callB cr_lenS (by rfl) T.len boot_len (pa_cons (pv 2) pa_nil)) (nomark _))) (fun _ _ _ _ _ => pv 8))
        (pss_cons (ps_set (i := 4) sc.nd rfl (Or.inl rfl) (pe_op op_cat (pe_lc (own := [("_law_turn", 9)]) (g := gName 9) (tt := tYes) (te := tCall (spDrawn K) [] E0 (tCons (tVar 1) (tCons (tVar 2) (tCons (tC (.int 6)) tNil)))) rfl sc.nd (pi_range1 rfl T.range (pa_cons pe_int pa_nil)) (blkOk_by (N := ["_law_script", "_law_purse_here", "_law_names", "_law_full", "_law_some", "_law_one", "_law_clause_here", "_law_other", "_law_part", "_law_turn", "_law_literal"]) (sc := defScope sLaw3) (by decide +kernel)) (fun _ _ _ _ _ => pg_name (i := 9) sc.nd rfl (Or.inl rfl)) (fun _ _ _ _ _ => pts_nil) (fun _ _ _ _ _ => (pe_call OC hr4 rfl mC kC bC .nil pass0 (pa_cons (pv 1) (pa_cons (pv 2) (pa_cons pe_int pa_nil)))))) (pe_lst (pa_cons (pe_tup pa_nil) pa_nil))))
        (pss_cons (ps_set (i := 5) sc.nd rfl (Or.inl rfl) (pe_ix ix_list (pv 4) pe_int (fun _ _ => rfl)))
        (pss_cons (ps_set (i := 4) sc.nd rfl (Or.inl rfl) (pe_op op_cat (pv 4) (pe_lst (pa_cons (pe_call OL hr1 rfl mL kL bL .nil pass0 (pa_cons (pe_op op_cat (pe_lc (own := [("_law_literal", 10)]) (g := gName 10) (tt := tYes) rfl sc.nd (pi_tup (pe_slice sl_tupA (pv 5) po_none (po_some pe_int))) (blkOk_by (N := ["_law_script", "_law_purse_here", "_law_names", "_law_full", "_law_some", "_law_one", "_law_clause_here", "_law_other", "_law_part", "_law_turn", "_law_literal"]) (sc := defScope sLaw3) (by decide +kernel)) (fun _ _ _ _ _ => pg_name (i := 10) sc.nd rfl (Or.inl rfl)) (fun _ _ _ _ _ => pts_nil) (fun _ _ _ _ _ => (pe_call OA hr1 rfl mA kA bA .nil pass0 (pa_cons (pv 10) pa_nil)))) (pe_callTy call_list_of (by rfl) T.list boot_list (pa_cons (pe_slice sl_tupA (pv 5) (po_some pe_int) po_none) pa_nil))) pa_nil)) (pa_cons (pe_slice sl_tupA (pv 5) (po_some pe_int) po_none) (pa_cons (pe_slice sl_tupA (pv 5) po_none (po_some pe_int)) (pa_cons (pe_call OL hr1 rfl mL kL bL .nil pass0 (pa_cons (pe_lc (own := [("_law_literal", 10)]) (g := gName 10) (tt := tYes) rfl sc.nd (pi_sq (pv 5)) (blkOk_by (N := ["_law_script", "_law_purse_here", "_law_names", "_law_full", "_law_some", "_law_one", "_law_clause_here", "_law_other", "_law_part", "_law_turn", "_law_literal"]) (sc := defScope sLaw3) (by decide +kernel)) (fun _ _ _ _ _ => pg_name (i := 10) sc.nd rfl (Or.inl rfl)) (fun _ _ _ _ _ => pts_nil) (fun _ _ _ _ _ => (pe_call OA hr1 rfl mA kA bA .nil pass0 (pa_cons (pv 10) pa_nil)))) pa_nil)) pa_nil)))))))
        (pss_cons (ps_for PassesOwn.never rfl (pi_list (pv 4)) (pg_name (i := 6) sc.nd rfl (Or.inl rfl)) (pss_cons (ps_if (pt_not (pt_val (pe_call OY hr8 rfl mY kY bY .nil pass0 (pa_cons (pv 1) (pa_cons (pv 6) (pa_cons (pv 2) pa_nil)))))) (pss_one (ps_ret pe_bl)) pss_nil) (pss_one (ps_for PassesOwn.never rfl (pi_list (pv 4)) (pg_name (i := 7) sc.nd rfl (Or.inl rfl)) (pss_one (ps_if (pt_not (pt_val (pe_call OZ hr9 rfl mZ kZ bZ .nil pass0 (pa_cons (pv 6) (pa_cons (pv 7) (pa_cons (pv 3) pa_nil)))))) (pss_one (ps_ret pe_bl)) pss_nil))))))
        (pss_one (ps_if (PW.pt (pw_or (pt_not (pt_val (pe_call OR hr7 rfl mR kR bR .nil pass0 (pa_cons (pv 1) (pa_cons (pv 2) pa_nil))))) (pw_or1 (pt_not (pt_val (pe_call OR hr7 rfl mR kR bR .nil pass0 (pa_cons (pv 1) (pa_cons (pv 2) pa_nil)))))))) (pss_one (ps_ret pe_bl)) pss_nil)))))))))
      (pss_one (ps_ret pe_bl)), ?_⟩
    refine ⟨_, rfl, a, zz, 2, rfl, hS, by decide, by decide, h63, fun H1 q ps s1 nq hq hps nm hl => ?_⟩
    obtain ⟨ndp, frp, pap⟩ := hps
    refine ⟨q, rfl, ⟨_, SqL.of hq⟩, ?_⟩
    refine for_list (K := K) (a := q) (xs := ps.map V.ref) (fun i σ H2 => i ≤ ps.length ∧ H2 q = some (.lst (ps.map V.ref)) ∧ (∀ (j : Nat) (b : Addr), i ≤ j → ps[j]? = some b → ∃ l, H2 b = some (.lst l) ∧ PurseL 0 l) ∧ ∃ x1 x2 x3 x4 x5 x6 x7 : Option V, σ = [some (.ref a), x1, x2, x3, x4, x5, x6, x7, none, none, none]) ?_ ?_ ?_ ?_
    · exact ⟨Nat.zero_le _, hq, fun j b _ hb => pap b (List.mem_of_getElem? hb), none, none, none, none, none, none, none, rfl⟩
    · rintro i σ H2 hi ⟨_, hq2, _⟩
      exact SqL.of hq2
    · rintro i x σ H2 hx ⟨hi, hq2, pa, x1, x2, x3, x4, x5, x6, x7, rfl⟩
      rw [List.getElem?_map] at hx
      obtain ⟨p, hpi, rfl⟩ := Option.map_eq_some_iff.mp hx
      have hi2 : i < ps.length := (List.getElem?_eq_some_iff.mp hpi).1
      obtain ⟨l0, hp, hl0⟩ := pa i p (Nat.le_refl _) hpi
      have qp : q ≠ p := fun z => nm (by rw [z]; exact List.mem_of_getElem? hpi)
      refine ⟨_, rfl, _, rfl, p, 6, 0, l0, rfl, hp, hl0, by decide, by decide, by decide, fun l1 r1 hl1 r0 r6 => ?_⟩
      refine ⟨_, _, rfl, rfl, ?_⟩
      refine ⟨p, _, _, l1, rfl, upd_same, hl1, by decide, by omega, by omega, fun H3 rw0 l2 ns0 bu3 hp3 hl3 nr hr nd0 lo0 len0 => ?_⟩
      refine ⟨rw0, ns0, rfl, SqL.of hr, by omega, fun ns qn pm so nqn => ?_⟩
      have nd : ns.Nodup := pm.nodup_iff.mpr nd0
      have lo : ns.all lowZ = true := List.all_eq_true.mpr fun s hs => List.all_eq_true.mp lo0 s (pm.mem_iff.mp hs)
      have as : ascS ns = true := asc_of_sorted so nd
      have len6 : ns.length ≤ 6 := by
        have := pm.length_eq
        omega
      have len1 : 1 ≤ ns.length := by
        have := pm.length_eq
        omega
      have buA : But p H2 (upd H3 qn (.lst (ns.map V.str))) := (But.set.trans bu3).trans (.of (same_new nqn))
      have hpA := (same_new (o := .lst (ns.map V.str)) nqn) _ _ hp3
      have hqA : upd H3 qn (.lst (ns.map V.str)) qn = some (.lst (ns.map V.str)) := upd_same
      have qnp : qn ≠ p := fun z => by
        rw [z, hp3] at nqn
        cases nqn
      generalize upd H3 qn (.lst (ns.map V.str)) = H4 at buA hpA hqA
      refine ⟨_, rfl, qn, ns, rfl, SqL.of hqA, len6, nd, lo, fun H5 rp ts s5 nrp hrp l729 parts => ?_⟩
      have hq5 := s5 _ _ hqA
      refine ⟨rp, rfl, ⟨_, SqL.of hrp⟩, fun D5 nD5 => ?_⟩
      refine lstD (K := K) (xs := ts.map V.ref) (fun | .ref t => if (decide ((itemsAt H5 (.ref t)).length = ns.length)) = true then some (V.ref t) else none | _ => none) (SqL.of hrp) (by rw [List.length_map]; omega) nD5 (fun x H6 Ψ Θ hx s6 yes no => ?_) (fun H6 s6 h6 => ?_)
      · obtain ⟨t, ht, rfl⟩ := List.mem_map.mp hx
        obtain ⟨pz, e, _⟩ := parts t ht
        refine ⟨rfl, _, rfl, t, _, rfl, .inr (SqT.of (s6 _ _ e)), _, rfl, qn, _, rfl, .inl (SqL.of (s6 _ _ hq5)), ?_⟩
        refine ⟨rfl, _, rfl, ?_⟩
        rw [List.length_map, List.length_map]
        have e0 : decide (V.int ((pz.length : Nat) : Int) = V.int ((ns.length : Nat) : Int)) = decide ((itemsAt H5 (.ref t)).length = ns.length) := by
          rw [itemsAt_of e, List.length_map]
          by_cases c : pz.length = ns.length
          · rw [decide_eq_true c, c]
            exact decide_eq_true rfl
          · rw [decide_eq_false c]
            refine decide_eq_false fun z => c ?_
            injection z with z
            omega
        rw [e0]
        exact ite2 (fun c => ⟨_, rfl, yes _ H6 (if_pos c) (same_refl _)⟩) (fun c => no H6 (if_neg c) (same_refl _))
      · rw [fm_refs (fun t => decide ((itemsAt H5 (.ref t)).length = ns.length))] at h6
        have full : ∀ t ∈ ts.filter (fun t => decide ((itemsAt H5 (.ref t)).length = ns.length)), ∃ pz : List Str, H6 t = some (.tup (pz.map V.str)) ∧ ∀ x ∈ pz, oppS x ∉ pz := fun t ht => by
          obtain ⟨pz, e, h⟩ := parts t (List.mem_filter.mp ht).1
          exact ⟨pz, s6 _ _ e, h⟩
        have lfull : (ts.filter (fun t => decide ((itemsAt H5 (.ref t)).length = ns.length))).length ≤ 1000 := Nat.le_trans (List.length_filter_le ..) (by omega)
        generalize ts.filter (fun t => decide ((itemsAt H5 (.ref t)).length = ns.length)) = fu at h6 full lfull
        have s46 := same_trans s5 s6
        have buB := buA.trans (.of s46)
        have hp6 := s46 _ _ hpA
        have hq6 := s46 _ _ hqA
        have D5p : D5 ≠ p := fun z => by
          have q5 := s5 _ _ hpA
          rw [z, q5] at nD5
          cases nD5
        clear parts nrp hrp nD5 s5 s6 s46 hq5
        dsimp only [gName, tSeq, tAsg, tRet, tCB, tCons, tNil, tCall, tNext, tLst, tOp]
        refine ⟨5, rfl, by decide, by decide, fun D6 nD6 => ?_⟩
        have nD6p : D6 ≠ p := fun z => by
          rw [z, hp6] at nD6
          cases nD6
        refine lc_range (lo := 0) (n := 5) (fun i Hc => i ≤ 5 ∧ ∃ (l3 : List V) (cs : List Addr), But p H6 Hc ∧ Hc p = some (.lst l3) ∧ PurseL (300 + 20 * (i : Int)) l3 ∧ Hc D6 = some (.lst (cs.map V.ref)) ∧ cs.length = i ∧ ∀ t ∈ cs, ClG ns Hc t) ?_ ?_ ?_
        · exact ⟨Nat.zero_le _, l2, [], .of (same_new nD6), (upd_ne (Ne.symm nD6p)).trans hp6, hl3.mono (by omega), upd_same, rfl, fun t h => by cases h⟩
        · rintro i5 Hc hi5 ⟨_, l3, cs, bu6, hpc, hlc, hD6, lcs, cls⟩
          refine ⟨rfl, ?_⟩
          refine ⟨_, rfl, _, rfl, p, qn, _, 6, l3, ns, rfl, hpc, hlc, by omega, bu6.sqL (SqL.of hq6) qnp, qnp, nd, lo, len1, len6, by decide, by decide, fun Hd t l4 rs bu7 hpd hld nt ht gd r1 r6 => ?_⟩
          have hD7 := bu7 _ _ hD6 nD6p
          refine ⟨_, hD7, by rw [List.length_map]; omega, by omega, l4, cs ++ [t], ?_, (upd_ne (Ne.symm nD6p)).trans hpd, ?_, by rw [upd_same, List.map_append]; rfl, by rw [List.length_append, lcs]; rfl, fun u hu => ?_⟩
          · intro b o e ne
            rw [upd_ne (ne_of_none e nD6)]
            exact bu7 _ _ (bu6 b o e ne) ne
          · have e : 300 + 20 * ((i5 + 1 : Nat) : Int) = 300 + 20 * (i5 : Int) + 20 := by omega
            rw [e]
            exact hld
          · have updc : ∀ {v : Addr} {o : HO}, Hd v = some o → (∀ l, o ≠ .lst l) → upd Hd D6 (.lst (cs.map V.ref ++ [V.ref t])) v = some o := fun {v o} e h => by
              rw [upd_ne (fun z => by rw [z, hD7] at e; cases e; exact h _ rfl)]
              exact e
            rcases List.mem_append.mp hu with hu | hu
            · obtain ⟨rs2, e2, g2⟩ := (cls u hu).but hpc bu7
              exact ⟨rs2, updc e2 (fun l z => by cases z), g2⟩
            · rw [List.mem_singleton.mp hu]
              exact ⟨rs, updc ht (fun l z => by cases z), gd, r6⟩
        · rintro H7 ⟨_, l3, cs, bu6, hp7, hl7, hD6, lcs, cls⟩
          have hq7 := bu6 _ _ hq6 qnp
          have h7f : SqL K H7 D5 (fu.map V.ref) := bu6.sqL (SqL.of h6) D5p
          have full7 : ∀ t ∈ fu, ∃ pz : List Str, H7 t = some (.tup (pz.map V.str)) ∧ ∀ x ∈ pz, oppS x ∉ pz := fun t ht => by
            obtain ⟨pz, e, h⟩ := full t ht
            exact ⟨pz, bu6 _ _ e (fun z => by rw [z, hp6] at e; cases e), h⟩
          have buC := buB.trans bu6
          obtain ⟨c0, cs', rfl⟩ : ∃ c0 cs', cs = c0 :: cs' := by
            cases cs with
            | nil => exact absurd lcs (by decide)
            | cons c r => exact ⟨c, r, rfl⟩
          refine ⟨(by show 0 ≤ sizeLine; omega), fun t0 n0 => ?_⟩
          refine ⟨(by show 1 ≤ sizeLine; omega), fun L0 nL0 => ?_⟩
          have s8 := same_trans (same_new (o := .tup []) n0) (same_new (o := .lst [.ref t0]) nL0)
          have ht0 := (same_new (o := .lst [.ref t0]) nL0) _ _ (upd_same (H := H7) (a := t0) (o := .tup []))
          refine ⟨D6, L0, _, _, rfl, rfl, s8 _ _ hD6, upd_same, by rw [List.length_map, lcs]; show 5 + 1 ≤ sizeLine; omega, fun D7 nD7 => ?_⟩
          have e7 : ((c0 :: cs').map V.ref ++ [V.ref t0]) = (c0 :: (cs' ++ [t0])).map V.ref := by simp
          rw [e7]
          have s9 := same_trans s8 (same_new (o := .lst ((c0 :: (cs' ++ [t0])).map V.ref)) nD7)
          have hD7 : upd (upd (upd H7 t0 (.tup [])) L0 (.lst [.ref t0])) D7 (.lst ((c0 :: (cs' ++ [t0])).map V.ref)) D7 = some (.lst ((c0 :: (cs' ++ [t0])).map V.ref)) := upd_same
          have ht9 := (same_new (o := .lst ((c0 :: (cs' ++ [t0])).map V.ref)) nD7) _ _ ht0
          generalize upd (upd (upd H7 t0 (.tup [])) L0 (.lst [.ref t0])) D7 (.lst ((c0 :: (cs' ++ [t0])).map V.ref)) = H9 at s9 hD7 ht9
          have cl9 : ∀ t ∈ c0 :: (cs' ++ [t0]), ClG ns H9 t := fun t ht => by
            rw [← List.cons_append] at ht
            rcases List.mem_append.mp ht with ht | ht
            · exact (cls t ht).same s9
            · rw [List.mem_singleton.mp ht]
              exact ⟨[], ht9, good_nil ns, Nat.zero_le _⟩
          obtain ⟨ys, hc0, gy, ly6⟩ := cl9 c0 (List.mem_cons_self ..)
          have lits := gy.lits lo
          dsimp only [gName, tSeq, tAsg, tRet, tCB, tCons, tNil, tCall, tNext, tLst, tOp]
          refine ⟨_, rfl, D7, _, _, .ref c0, rfl, rfl, SqL.of hD7, atI_nat (j := 0) rfl, ?_⟩
          have cutT : cutV (ys.map V.str) none (some 1) = (ys.take 1).map V.str := by
            rw [cutV_take _ _ (by decide), List.map_take]
            rfl
          have cutD : cutV (ys.map V.str) (some 1) none = (ys.drop 1).map V.str := by
            rw [show (1 : Int) = ((1 : Nat) : Int) from rfl, cutV_drop, List.map_drop]
          have lt1 : (ys.take 1).length ≤ 6 := by
            rw [List.length_take]
            omega
          have ld1 : (ys.drop 1).length ≤ 6 := by
            rw [List.length_drop]
            omega
          refine ⟨_, rfl, ?_⟩
          refine lc_ofT ?_
          refine ⟨_, rfl, _, rfl, slice_any hc0 fun H10 ta s10 hta => ?_⟩
          rw [cutT] at hta
          refine ⟨ta, rfl, ⟨_, SqT.of hta⟩, fun Da nDa => ?_⟩
          refine tupD (K := K) (fun | .str z => some (.str (oppS z)) | x => some x) (SqT.of hta) (by rw [List.length_map]; omega) nDa (fun x H11 Ψ Θ hx s11 yes no => ?_) (fun H11 s11 h11 => ?_)
          · obtain ⟨y, hy, rfl⟩ := List.mem_map.mp hx
            have hy2 := List.mem_of_mem_take hy
            exact ⟨rfl, _, rfl, y, rfl, lit_pos (lits y hy2), lit_short (lits y hy2), yes _ H11 rfl (same_refl _)⟩
          · have e11 : ((ys.take 1).map V.str).filterMap (fun | .str z => some (V.str (oppS z)) | x => some x) = ((ys.take 1).map oppS).map V.str := by
              rw [List.filterMap_map, List.map_map]
              exact fm_some (fun y => V.str (oppS y)) _
            rw [e11] at h11
            have sa := same_trans s10 s11
            refine ⟨_, rfl, _, rfl, ?_⟩
            dsimp only [tNoPart]
            refine slice_any (sa _ _ hc0) fun H12 tb s12 htb => ?_
            rw [cutD] at htb
            refine ⟨tb, _, rfl, .inr (SqT.of htb), fun Lb nLb => ?_⟩
            have s13 := same_new (o := .lst ((ys.drop 1).map V.str)) nLb
            refine ⟨Da, Lb, _, _, rfl, rfl, s13 _ _ (s12 _ _ h11), upd_same, by rw [List.length_map, List.length_map, List.length_map]; omega, fun Mb nMb => ?_⟩
            rw [← List.map_append]
            have s14 := same_new (o := .lst (((ys.take 1).map oppS ++ ys.drop 1).map V.str)) nMb
            refine ⟨Mb, _, rfl, .inl (SqL.of upd_same), by rw [List.length_append, List.length_map]; omega, fun H15 u1 rs1 s15 nu1 hu1 io1 => ?_⟩
            obtain ⟨gu1, lu1⟩ := gy.turn lo (first_paired ys) io1
            have sb := same_trans sa (same_trans s12 (same_trans s13 (same_trans s14 s15)))
            refine ⟨_, rfl, _, rfl, ?_⟩
            dsimp only [tNoPart]
            refine slice_any (sb _ _ hc0) fun H16 u2 s16 hu2 => ?_
            rw [cutD] at hu2
            have sc2 := same_trans sb s16
            refine ⟨_, rfl, _, rfl, slice_any (sc2 _ _ hc0) fun H17 u3 s17 hu3 => ?_⟩
            rw [cutT] at hu3
            have sd := same_trans sc2 s17
            refine seq_lc (fun | .str z => some (.str (oppS z)) | x => some x) rfl (.inr (SqT.of (sd _ _ hc0))) (by rw [List.length_map]; omega) (fun x H18 Ψ Θ hx s18 yes no => ?_) (fun H18 Dc s18 nDc h18 => ?_)
            · obtain ⟨y, hy, rfl⟩ := List.mem_map.mp hx
              exact ⟨rfl, _, rfl, y, rfl, lit_pos (lits y hy), lit_short (lits y hy), yes _ H18 rfl (same_refl _)⟩
            · have e18 : (ys.map V.str).filterMap (fun | .str z => some (V.str (oppS z)) | x => some x) = (ys.map oppS).map V.str := by
                rw [List.filterMap_map, List.map_map]
                exact fm_some (fun y => V.str (oppS y)) _
              rw [e18] at h18
              refine ⟨Dc, _, rfl, .inl (SqL.of h18), by rw [List.length_map]; omega, fun H19 u4 rs4 s19 nu4 hu4 io4 => ?_⟩
              obtain ⟨gu4, lu4⟩ := gy.turn lo (opp_paired ys) io4
              refine ⟨(by show 4 ≤ sizeLine; omega), fun L4 nL4 => ?_⟩
              have s20 := same_new (o := .lst [.ref u1, .ref u2, .ref u3, .ref u4]) nL4
              have s1820 := same_trans s18 (same_trans s19 s20)
              have se := same_trans sd s1820
              refine ⟨D7, L4, _, _, rfl, rfl, se _ _ hD7, upd_same, by rw [List.length_map, List.length_cons, List.length_append]; show _ + 4 ≤ sizeLine; rw [List.length_cons] at lcs; show cs'.length + 1 + 1 + 4 ≤ sizeLine; omega, fun D8 nD8 => ?_⟩
              have e8 : ((c0 :: (cs' ++ [t0])).map V.ref ++ [V.ref u1, V.ref u2, V.ref u3, V.ref u4]) = ((c0 :: (cs' ++ [t0])) ++ [u1, u2, u3, u4]).map V.ref := by rw [List.map_append]; rfl
              rw [e8]
              have s21 := same_new (o := .lst (((c0 :: (cs' ++ [t0])) ++ [u1, u2, u3, u4]).map V.ref)) nD8
              have sAll := same_trans se s21
              have s1821 := same_trans s1820 s21
              have cl8 : ∀ t ∈ (c0 :: (cs' ++ [t0])) ++ [u1, u2, u3, u4], ClG ns (upd (upd H19 L4 (.lst [.ref u1, .ref u2, .ref u3, .ref u4])) D8 (.lst (((c0 :: (cs' ++ [t0])) ++ [u1, u2, u3, u4]).map V.ref))) t := fun t ht => by
                rcases List.mem_append.mp ht with ht | ht
                · exact (cl9 t ht).same sAll
                · have h4 : t = u1 ∨ t = u2 ∨ t = u3 ∨ t = u4 := by simpa using ht
                  rcases h4 with rfl | rfl | rfl | rfl
                  · exact ⟨rs1, same_trans s16 (same_trans s17 s1821) _ _ hu1, gu1, by omega⟩
                  · exact ⟨ys.drop 1, same_trans s17 s1821 _ _ hu2, gy.sub (List.drop_sublist ..), ld1⟩
                  · exact ⟨ys.take 1, s1821 _ _ hu3, gy.sub (List.take_sublist ..), lt1⟩
                  · exact ⟨rs4, same_trans s20 s21 _ _ hu4, gu4, by omega⟩
              have hD8 : upd (upd H19 L4 (.lst [.ref u1, .ref u2, .ref u3, .ref u4])) D8 (.lst (((c0 :: (cs' ++ [t0])) ++ [u1, u2, u3, u4]).map V.ref)) D8 = some (.lst (((c0 :: (cs' ++ [t0])) ++ [u1, u2, u3, u4]).map V.ref)) := upd_same
              have l10 : ((c0 :: (cs' ++ [t0])) ++ [u1, u2, u3, u4]).length = 10 := by
                rw [List.length_append, List.length_cons, List.length_append]
                rw [List.length_cons] at lcs
                show cs'.length + 1 + 1 + 4 = 10
                omega
              generalize upd (upd H19 L4 (.lst [.ref u1, .ref u2, .ref u3, .ref u4])) D8 (.lst (((c0 :: (cs' ++ [t0])) ++ [u1, u2, u3, u4]).map V.ref)) = H21 at cl8 hD8 s21 sAll s1821
              generalize (c0 :: (cs' ++ [t0])) ++ [u1, u2, u3, u4] = al at cl8 hD8 l10
              have sF := same_trans s9 sAll
              have bu21 := buC.trans (.of sF)
              have hp21 := sF _ _ hp7
              have hq21 := sF _ _ hq7
              have hf21 := sqL_same h7f sF
              have fu21 : ∀ t ∈ fu, ∃ pz : List Str, H21 t = some (.tup (pz.map V.str)) ∧ ∀ x ∈ pz, oppS x ∉ pz := fun t ht => by
                obtain ⟨pz, e, h⟩ := full7 t ht
                exact ⟨pz, sF _ _ e, h⟩
              have D8p : D8 ≠ p := fun z => by
                rw [z, hp21] at hD8
                cases hD8
                cases al with
                | nil => cases l10
                | cons u r =>
                  obtain ⟨_, _, _, _, e, _⟩ := hl7
                  cases e
              clear s21 sAll s1821 se s1820 sd sc2 sb sa s20 s19 s18 s17 s16 s15 s14 s13 s12 s11 s10
              refine ⟨_, rfl, D8, rfl, ⟨_, SqL.of hD8⟩, ?_⟩
              refine for_list (K := K) (a := D8) (xs := al.map V.ref) (fun j σ Hc => j ≤ 10 ∧ ∃ (l9 : List V) (v6 v7 : Option V), σ = [some (.ref a), some (.ref p), some (.ref qn), some (.ref D5), some (.ref D8), some (.ref c0), v6, v7, none, none, none] ∧ But p H21 Hc ∧ Hc p = some (.lst l9) ∧ PurseL (400 + 60 * (j : Int)) l9) ?_ ?_ ?_ ?_
              · exact ⟨Nat.zero_le _, l3, x6, x7, rfl, But.refl _ _, hp21, hl7.mono (by omega)⟩
              · rintro j σ Hc hj ⟨_, l9, v6, v7, rfl, bu, _⟩
                exact SqL.of (bu _ _ hD8 D8p)
              · rintro j x σ Hc hx ⟨hj, l9, v6, v7, rfl, bu, hpc, hlc⟩
                have hj2 : j < 10 := by
                  have := (List.getElem?_eq_some_iff.mp hx).1
                  rw [List.length_map] at this
                  omega
                obtain ⟨t, ht, rfl⟩ := List.mem_map.mp (List.mem_of_getElem? hx)
                obtain ⟨rsT, hT, gT, lT⟩ := (cl8 t ht).but hp21 bu
                have tp : t ≠ p := fun z => by
                  rw [z, hpc] at hT
                  cases hT
                have hqc := bu _ _ hq21 qnp
                refine ⟨_, rfl, _, rfl, _, rfl, p, t, qn, _, l9, rsT, ns, rfl, hpc, hlc, by omega, hqc, qnp, SqT.of hT, tp, gT, nd, as, lo, len6, fun Hd l10' bud hpd hld => ⟨_, rfl, iteF ?_⟩⟩
                have buD := bu.trans bud
                have hD8d := buD _ _ hD8 D8p
                refine ⟨_, rfl, D8, rfl, ⟨_, SqL.of hD8d⟩, ?_⟩
                refine for_list (K := K) (a := D8) (xs := al.map V.ref) (fun m σ He => Same Hd He ∧ ∃ v7 : Option V, σ = [some (.ref a), some (.ref p), some (.ref qn), some (.ref D5), some (.ref D8), some (.ref c0), some (.ref t), v7, none, none, none]) ⟨same_refl _, v7, rfl⟩ (fun m σ He hm h => SqL.of (h.1 _ _ hD8d)) ?_ ?_
                · rintro m y σ He hy ⟨sm, w7, rfl⟩
                  obtain ⟨t2, ht2, rfl⟩ := List.mem_map.mp (List.mem_of_getElem? hy)
                  obtain ⟨rsU, hU, gU, lU⟩ := ((cl8 t2 ht2).but hp21 buD).same sm
                  have hT2 := sm _ _ (bud _ _ hT tp)
                  have clT : ClAt K He t rsT := ⟨SqT.of hT2, gT.cl lo, by omega⟩
                  have clU : ClAt K He t2 rsU := ⟨SqT.of hU, gU.cl lo, by omega⟩
                  refine ⟨_, rfl, _, rfl, _, rfl, t, t2, D5, rsT, rsU, fu, rfl, clT, clU, gT.cl2 lo, gU.cl2 lo, sqL_same (buD.sqL hf21 D5p) sm, lfull, (fun v hv => by
                    obtain ⟨pz, e, h⟩ := fu21 v hv
                    exact ⟨pz, SqT.of (sm _ _ (buD _ _ e (fun z => by rw [z, hp21] at e; cases e))), h⟩), fun Hf sf => ⟨_, rfl, iteF ?_⟩⟩
                  exact ⟨same_trans sm sf, _, rfl⟩
                · rintro σ He ⟨sm, w7, rfl⟩
                  refine ⟨hj2, l10', _, w7, rfl, buD.trans (.of sm), sm _ _ hpd, ?_⟩
                  have e : 400 + 60 * ((j + 1 : Nat) : Int) = 400 + 60 * (j : Int) + 60 := by omega
                  rw [e]
                  exact hld
              · rintro σ Hc ⟨_, l9, v6, v7, rfl, bu, hpc, hlc⟩
                rw [List.length_map, l10] at hlc
                have hqc := bu _ _ hq21 qnp
                refine ⟨_, rfl, _, rfl, p, qn, _, l9, ns, rfl, hpc, hlc, by decide, SqL.of hqc, qnp, nd, lo, len6, fun Hd l11 bud hpd hld => ⟨_, rfl, ?_⟩⟩
                refine iteF ?_
                refine ⟨_, rfl, _, rfl, p, qn, _, l11, ns, rfl, hpd, hld, by decide, SqL.of (bud _ _ hqc qnp), qnp, nd, lo, len6, fun He l12 bue hpe hle => ⟨_, rfl, iteF ?_⟩⟩
                have buE := ((bu21.trans bu).trans bud).trans bue
                refine ⟨hi2, buE _ _ hq2 qp, fun j b hj hb => ?_, _, _, _, _, _, _, _, rfl⟩
                obtain ⟨lb, e, h⟩ := pa j b (by omega) hb
                refine ⟨lb, buE _ _ e (fun z => ?_), h⟩
                rw [z] at hb
                have := (List.getElem?_inj (List.getElem?_eq_some_iff.mp hb).1 ndp).mp (hb.trans hpi.symm)
                omega
    · rintro σ H2 _
      exact k H2
end
end My
end

section
set_option Elab.async false
set_option linter.all false
set_option maxRecDepth 100000
set_option maxHeartbeats 0
namespace My
open PySem PySem.Spec PyProof.Rows L2 TL MyF MyS MyW MyT MyQ MyV MyZ MyL RZ
theorem walk {l : PySem.W.OpenLaw} {q : Program} {loose : List Str} {XP : (Str → Option Value) → Heap → Prop} {YP : World → Heap → Prop} {d : DefRec} {K : Params → PySem.W.Frag} (hn : l.most = some 63) (hdf : d.params.defaults = [])
    (hY : ∀ (w : World) (h : Heap), YP w h → (K w.params).In h)
    (F : ∀ (w : World) (mg : Str → Option Value) (fa : Addr) (h : Heap), (K w.params).In h → h.Ns mainGlobals mg → mg d.name = some (.ref fa) →
      ∃ fd : FuncData, (∀ (s : Shared) (u : Value), BindsTo s fd ⟨[u], []⟩ [("_law_script", u)]) ∧ ∀ base : Heap, (K w.params).In base → base.Ns mainGlobals mg → FnOk l.prog w (K w.params) mg base CX0 10 fa fd ["_law_script"] (spLaw3 (K w.params))) :
    PySem.W.WalkO q loose XP YP l.row.toRowW d [] (fun f vs => PySem.call f vs) :=
  walk_ofK (n := 63) (k := 10) (x := "_law_script") (CX := CX0) (sp := spLaw3) hn (by decide) hdf ⟨rfl, by decide, by decide⟩ hY F (fun _ _ a ns hl _ hS => ⟨a, ns, rfl, hS, hl, fun _ => rfl⟩) (fun _ _ _ _ h => h)
theorem all_mk {l : PySem.W.OpenLaw} {w : World} {K : PySem.W.Frag} {h : Heap} {mg : Str → Option Value} {fa : Addr} {gIv gBa gOp gIl gOr gAs gAr gHa gIc gNl gNc gNs gCo gVo gCl gVi gWi gCm gUn gMo gMe gJo gPu gNa gTu gSe gRe gRn gLp gLm gLd gLs gSh gEx gLw gWs gLc gLb gLl gLa gDc gSp gKb gLr gTr gSr gLx : Addr} {ocIv kVIv docIv pmIv cdvIv ctIv ocBa kVBa docBa pmBa cdvBa ctBa ocOp kVOp docOp pmOp cdvOp ctOp ocIl kVIl docIl pmIl cdvIl ctIl ocOr kVOr docOr pmOr cdvOr ctOr ocAs kVAs docAs pmAs cdvAs ctAs ocAr kVAr docAr pmAr cdvAr ctAr ocHa kVHa docHa pmHa cdvHa ctHa ocIc kVIc docIc pmIc cdvIc ctIc ocNl kVNl docNl pmNl cdvNl ctNl ocNc kVNc docNc pmNc cdvNc ctNc ocNs kVNs docNs pmNs cdvNs ctNs ocCo kVCo docCo pmCo cdvCo ctCo ocVo kVVo docVo pmVo cdvVo ctVo ocCl kVCl docCl pmCl cdvCl ctCl ocVi kVVi docVi pmVi cdvVi ctVi ocWi kVWi docWi pmWi cdvWi ctWi ocCm kVCm docCm pmCm cdvCm ctCm ocUn kVUn docUn pmUn cdvUn ctUn ocMo kVMo docMo pmMo cdvMo ctMo ocMe kVMe docMe pmMe cdvMe ctMe ocJo kVJo docJo pmJo cdvJo ctJo ocPu kVPu docPu pmPu cdvPu ctPu ocNa kVNa docNa pmNa cdvNa ctNa ocTu kVTu docTu pmTu cdvTu ctTu ocSe kVSe docSe pmSe cdvSe ctSe ocRe kVRe docRe pmRe cdvRe ctRe ocRn kVRn docRn pmRn cdvRn ctRn ocLp kVLp docLp pmLp cdvLp ctLp ocLm kVLm docLm pmLm cdvLm ctLm ocLd kVLd docLd pmLd cdvLd ctLd ocLs kVLs docLs pmLs cdvLs ctLs ocSh kVSh docSh pmSh cdvSh ctSh ocEx kVEx docEx pmEx cdvEx ctEx ocLw kVLw docLw pmLw cdvLw ctLw ocWs kVWs docWs pmWs cdvWs ctWs ocLc kVLc docLc pmLc cdvLc ctLc ocLb kVLb docLb pmLb cdvLb ctLb ocLl kVLl docLl pmLl cdvLl ctLl ocLa kVLa docLa pmLa cdvLa ctLa ocDc kVDc docDc pmDc cdvDc ctDc ocSp kVSp docSp pmSp cdvSp ctSp ocKb kVKb docKb pmKb cdvKb ctKb ocLr kVLr docLr pmLr cdvLr ctLr ocTr kVTr docTr pmTr cdvTr ctTr ocSr kVSr docSr pmSr cdvSr ctSr ocLx kVLx docLx pmLx cdvLx ctLx : Value} {odIv anIv odBa anBa odOp anOp odIl anIl odOr anOr odAs anAs odAr anAr odHa anHa odIc anIc odNl anNl odNc anNc odNs anNs odCo anCo odVo anVo odCl anCl odVi anVi odWi anWi odCm anCm odUn anUn odMo anMo odMe anMe odJo anJo odPu anPu odNa anNa odTu anTu odSe anSe odRe anRe odRn anRn odLp anLp odLm anLm odLd anLd odLs anLs odSh anSh odEx anEx odLw anLw odWs anWs odLc anLc odLb anLb odLl anLl odLa anLa odDc anDc odSp anSp odKb anKb odLr anLr odTr anTr odSr anSr odLx anLx : Option Addr} {oslIv oslBa oslOp oslIl oslOr oslAs oslAr oslHa oslIc oslNl oslNc oslNs oslCo oslVo oslCl oslVi oslWi oslCm oslUn oslMo oslMe oslJo oslPu oslNa oslTu oslSe oslRe oslRn oslLp oslLm oslLd oslLs oslSh oslEx oslLw oslWs oslLc oslLb oslLl oslLa oslDc oslSp oslKb oslLr oslTr oslSr oslLx : Array (Option Value)} {tM : Tok}
    (X : K.In h) (G : h.Ns mainGlobals mg) (hfa : mg "law" = some (.ref fa))
    (z_sum : PySem.W.nsIn K mainGlobals "sum" = some none)
    (z_int : PySem.W.nsIn K mainGlobals "int" = some none)
    (z_max : PySem.W.nsIn K mainGlobals "max" = some none)
    (z_min : PySem.W.nsIn K mainGlobals "min" = some none)
    (z_len : PySem.W.nsIn K mainGlobals "len" = some none)
    (z_range : PySem.W.nsIn K mainGlobals "range" = some none)
    (z_isinstance : PySem.W.nsIn K mainGlobals "isinstance" = some none)
    (z_all : PySem.W.nsIn K mainGlobals "all" = some none)
    (z_any : PySem.W.nsIn K mainGlobals "any" = some none)
    (z_list : PySem.W.nsIn K mainGlobals "list" = some none)
    (z_dict : PySem.W.nsIn K mainGlobals "dict" = some none)
    (z_tuple : PySem.W.nsIn K mainGlobals "tuple" = some none)
    (z_str : PySem.W.nsIn K mainGlobals "str" = some none)
    (z_sorted : PySem.W.nsIn K mainGlobals "sorted" = some none)
    (z_set : PySem.W.nsIn K mainGlobals "set" = some none)
    (z_zip : PySem.W.nsIn K mainGlobals "zip" = some none)
    (z_bool : PySem.W.nsIn K mainGlobals "bool" = some none)
    (aMO : PySem.W.nsIn K mainGlobals "MOST_LETTERS" = some (some (.int 8 tM)))
    (aIv : PySem.W.nsIn K mainGlobals "is_variable" = some (some (.ref gIv)))
    (lIv : K.lookup gIv = some ⟨ocIv, odIv, .func (PySem.W.fnOf "is_variable" "is_variable" (defArgs sIsVar) (defBody sIsVar) (defScope sIsVar) .none kVIv docIv pmIv anIv cdvIv ctIv), oslIv⟩)
    (cIv : PySem.W.codeIn K cdvIv "is_variable" = true)
    (kIv : PySem.W.keepIn K (.ref gIv) = true)
    (aBa : PySem.W.nsIn K mainGlobals "bare" = some (some (.ref gBa)))
    (lBa : K.lookup gBa = some ⟨ocBa, odBa, .func (PySem.W.fnOf "bare" "bare" (defArgs sBare) (defBody sBare) (defScope sBare) .none kVBa docBa pmBa anBa cdvBa ctBa), oslBa⟩)
    (cBa : PySem.W.codeIn K cdvBa "bare" = true)
    (kBa : PySem.W.keepIn K (.ref gBa) = true)
    (aOp : PySem.W.nsIn K mainGlobals "opposite" = some (some (.ref gOp)))
    (lOp : K.lookup gOp = some ⟨ocOp, odOp, .func (PySem.W.fnOf "opposite" "opposite" (defArgs sOpp) (defBody sOpp) (defScope sOpp) .none kVOp docOp pmOp anOp cdvOp ctOp), oslOp⟩)
    (cOp : PySem.W.codeIn K cdvOp "opposite" = true)
    (kOp : PySem.W.keepIn K (.ref gOp) = true)
    (aIl : PySem.W.nsIn K mainGlobals "is_literal" = some (some (.ref gIl)))
    (lIl : K.lookup gIl = some ⟨ocIl, odIl, .func (PySem.W.fnOf "is_literal" "is_literal" (defArgs sIsLit) (defBody sIsLit) (defScope sIsLit) .none kVIl docIl pmIl anIl cdvIl ctIl), oslIl⟩)
    (cIl : PySem.W.codeIn K cdvIl "is_literal" = true)
    (kIl : PySem.W.keepIn K (.ref gIl) = true)
    (aOr : PySem.W.nsIn K mainGlobals "in_order" = some (some (.ref gOr)))
    (lOr : K.lookup gOr = some ⟨ocOr, odOr, .func (PySem.W.fnOf "in_order" "in_order" (defArgs sOrd) (defBody sOrd) (defScope sOrd) .none kVOr docOr pmOr anOr cdvOr ctOr), oslOr⟩)
    (cOr : PySem.W.codeIn K cdvOr "in_order" = true)
    (kOr : PySem.W.keepIn K (.ref gOr) = true)
    (aAs : PySem.W.nsIn K mainGlobals "ascends" = some (some (.ref gAs)))
    (lAs : K.lookup gAs = some ⟨ocAs, odAs, .func (PySem.W.fnOf "ascends" "ascends" (defArgs sAsc) (defBody sAsc) (defScope sAsc) .none kVAs docAs pmAs anAs cdvAs ctAs), oslAs⟩)
    (cAs : PySem.W.codeIn K cdvAs "ascends" = true)
    (kAs : PySem.W.keepIn K (.ref gAs) = true)
    (aAr : PySem.W.nsIn K mainGlobals "are_literals" = some (some (.ref gAr)))
    (lAr : K.lookup gAr = some ⟨ocAr, odAr, .func (PySem.W.fnOf "are_literals" "are_literals" (defArgs sAre) (defBody sAre) (defScope sAre) .none kVAr docAr pmAr anAr cdvAr ctAr), oslAr⟩)
    (cAr : PySem.W.codeIn K cdvAr "are_literals" = true)
    (kAr : PySem.W.keepIn K (.ref gAr) = true)
    (aHa : PySem.W.nsIn K mainGlobals "has_contraries" = some (some (.ref gHa)))
    (lHa : K.lookup gHa = some ⟨ocHa, odHa, .func (PySem.W.fnOf "has_contraries" "has_contraries" (defArgs sHas) (defBody sHas) (defScope sHas) .none kVHa docHa pmHa anHa cdvHa ctHa), oslHa⟩)
    (cHa : PySem.W.codeIn K cdvHa "has_contraries" = true)
    (kHa : PySem.W.keepIn K (.ref gHa) = true)
    (aIc : PySem.W.nsIn K mainGlobals "is_clause" = some (some (.ref gIc)))
    (lIc : K.lookup gIc = some ⟨ocIc, odIc, .func (PySem.W.fnOf "is_clause" "is_clause" (defArgs sIsCl) (defBody sIsCl) (defScope sIsCl) .none kVIc docIc pmIc anIc cdvIc ctIc), oslIc⟩)
    (cIc : PySem.W.codeIn K cdvIc "is_clause" = true)
    (kIc : PySem.W.keepIn K (.ref gIc) = true)
    (aNl : PySem.W.nsIn K mainGlobals "need_literal" = some (some (.ref gNl)))
    (lNl : K.lookup gNl = some ⟨ocNl, odNl, .func (PySem.W.fnOf "need_literal" "need_literal" (defArgs sNeedL) (defBody sNeedL) (defScope sNeedL) .none kVNl docNl pmNl anNl cdvNl ctNl), oslNl⟩)
    (cNl : PySem.W.codeIn K cdvNl "need_literal" = true)
    (kNl : PySem.W.keepIn K (.ref gNl) = true)
    (aNc : PySem.W.nsIn K mainGlobals "need_clause" = some (some (.ref gNc)))
    (lNc : K.lookup gNc = some ⟨ocNc, odNc, .func (PySem.W.fnOf "need_clause" "need_clause" (defArgs sNeedC) (defBody sNeedC) (defScope sNeedC) .none kVNc docNc pmNc anNc cdvNc ctNc), oslNc⟩)
    (cNc : PySem.W.codeIn K cdvNc "need_clause" = true)
    (kNc : PySem.W.keepIn K (.ref gNc) = true)
    (aNs : PySem.W.nsIn K mainGlobals "need_clauses" = some (some (.ref gNs)))
    (lNs : K.lookup gNs = some ⟨ocNs, odNs, .func (PySem.W.fnOf "need_clauses" "need_clauses" (defArgs sNeedCs) (defBody sNeedCs) (defScope sNeedCs) .none kVNs docNs pmNs anNs cdvNs ctNs), oslNs⟩)
    (cNs : PySem.W.codeIn K cdvNs "need_clauses" = true)
    (kNs : PySem.W.keepIn K (.ref gNs) = true)
    (aCo : PySem.W.nsIn K mainGlobals "contrary" = some (some (.ref gCo)))
    (lCo : K.lookup gCo = some ⟨ocCo, odCo, .func (PySem.W.fnOf "contrary" "contrary" (defArgs sContr) (defBody sContr) (defScope sContr) .none kVCo docCo pmCo anCo cdvCo ctCo), oslCo⟩)
    (cCo : PySem.W.codeIn K cdvCo "contrary" = true)
    (kCo : PySem.W.keepIn K (.ref gCo) = true)
    (aVo : PySem.W.nsIn K mainGlobals "variable_of" = some (some (.ref gVo)))
    (lVo : K.lookup gVo = some ⟨ocVo, odVo, .func (PySem.W.fnOf "variable_of" "variable_of" (defArgs sVarOf) (defBody sVarOf) (defScope sVarOf) .none kVVo docVo pmVo anVo cdvVo ctVo), oslVo⟩)
    (cVo : PySem.W.codeIn K cdvVo "variable_of" = true)
    (kVo : PySem.W.keepIn K (.ref gVo) = true)
    (aCl : PySem.W.nsIn K mainGlobals "clause_of" = some (some (.ref gCl)))
    (lCl : K.lookup gCl = some ⟨ocCl, odCl, .func (PySem.W.fnOf "clause_of" "clause_of" (defArgs sClOf) (defBody sClOf) (defScope sClOf) .none kVCl docCl pmCl anCl cdvCl ctCl), oslCl⟩)
    (cCl : PySem.W.codeIn K cdvCl "clause_of" = true)
    (kCl : PySem.W.keepIn K (.ref gCl) = true)
    (aVi : PySem.W.nsIn K mainGlobals "variables_in" = some (some (.ref gVi)))
    (lVi : K.lookup gVi = some ⟨ocVi, odVi, .func (PySem.W.fnOf "variables_in" "variables_in" (defArgs sVarsIn) (defBody sVarsIn) (defScope sVarsIn) .none kVVi docVi pmVi anVi cdvVi ctVi), oslVi⟩)
    (cVi : PySem.W.codeIn K cdvVi "variables_in" = true)
    (kVi : PySem.W.keepIn K (.ref gVi) = true)
    (aWi : PySem.W.nsIn K mainGlobals "is_within" = some (some (.ref gWi)))
    (lWi : K.lookup gWi = some ⟨ocWi, odWi, .func (PySem.W.fnOf "is_within" "is_within" (defArgs sWithin) (defBody sWithin) (defScope sWithin) .none kVWi docWi pmWi anWi cdvWi ctWi), oslWi⟩)
    (cWi : PySem.W.codeIn K cdvWi "is_within" = true)
    (kWi : PySem.W.keepIn K (.ref gWi) = true)
    (aCm : PySem.W.nsIn K mainGlobals "common" = some (some (.ref gCm)))
    (lCm : K.lookup gCm = some ⟨ocCm, odCm, .func (PySem.W.fnOf "common" "common" (defArgs sCommon) (defBody sCommon) (defScope sCommon) .none kVCm docCm pmCm anCm cdvCm ctCm), oslCm⟩)
    (cCm : PySem.W.codeIn K cdvCm "common" = true)
    (kCm : PySem.W.keepIn K (.ref gCm) = true)
    (aUn : PySem.W.nsIn K mainGlobals "united" = some (some (.ref gUn)))
    (lUn : K.lookup gUn = some ⟨ocUn, odUn, .func (PySem.W.fnOf "united" "united" (defArgs sUnited) (defBody sUnited) (defScope sUnited) .none kVUn docUn pmUn anUn cdvUn ctUn), oslUn⟩)
    (cUn : PySem.W.codeIn K cdvUn "united" = true)
    (kUn : PySem.W.keepIn K (.ref gUn) = true)
    (aMo : PySem.W.nsIn K mainGlobals "meeting_of" = some (some (.ref gMo)))
    (lMo : K.lookup gMo = some ⟨ocMo, odMo, .func (PySem.W.fnOf "meeting_of" "meeting_of" (defArgs sMeetOf) (defBody sMeetOf) (defScope sMeetOf) .none kVMo docMo pmMo anMo cdvMo ctMo), oslMo⟩)
    (cMo : PySem.W.codeIn K cdvMo "meeting_of" = true)
    (kMo : PySem.W.keepIn K (.ref gMo) = true)
    (aMe : PySem.W.nsIn K mainGlobals "meeting" = some (some (.ref gMe)))
    (lMe : K.lookup gMe = some ⟨ocMe, odMe, .func (PySem.W.fnOf "meeting" "meeting" (defArgs sMeet) (defBody sMeet) (defScope sMeet) .none kVMe docMe pmMe anMe cdvMe ctMe), oslMe⟩)
    (cMe : PySem.W.codeIn K cdvMe "meeting" = true)
    (kMe : PySem.W.keepIn K (.ref gMe) = true)
    (aJo : PySem.W.nsIn K mainGlobals "joined_at" = some (some (.ref gJo)))
    (lJo : K.lookup gJo = some ⟨ocJo, odJo, .func (PySem.W.fnOf "joined_at" "joined_at" (defArgs sJoin) (defBody sJoin) (defScope sJoin) .none kVJo docJo pmJo anJo cdvJo ctJo), oslJo⟩)
    (cJo : PySem.W.codeIn K cdvJo "joined_at" = true)
    (kJo : PySem.W.keepIn K (.ref gJo) = true)
    (aPu : PySem.W.nsIn K mainGlobals "put_together" = some (some (.ref gPu)))
    (lPu : K.lookup gPu = some ⟨ocPu, odPu, .func (PySem.W.fnOf "put_together" "put_together" (defArgs sPut) (defBody sPut) (defScope sPut) .none kVPu docPu pmPu anPu cdvPu ctPu), oslPu⟩)
    (cPu : PySem.W.codeIn K cdvPu "put_together" = true)
    (kPu : PySem.W.keepIn K (.ref gPu) = true)
    (aNa : PySem.W.nsIn K mainGlobals "is_name_list" = some (some (.ref gNa)))
    (lNa : K.lookup gNa = some ⟨ocNa, odNa, .func (PySem.W.fnOf "is_name_list" "is_name_list" (defArgs sNameL) (defBody sNameL) (defScope sNameL) .none kVNa docNa pmNa anNa cdvNa ctNa), oslNa⟩)
    (cNa : PySem.W.codeIn K cdvNa "is_name_list" = true)
    (kNa : PySem.W.keepIn K (.ref gNa) = true)
    (aTu : PySem.W.nsIn K mainGlobals "turned" = some (some (.ref gTu)))
    (lTu : K.lookup gTu = some ⟨ocTu, odTu, .func (PySem.W.fnOf "turned" "turned" (defArgs sTurn) (defBody sTurn) (defScope sTurn) .none kVTu docTu pmTu anTu cdvTu ctTu), oslTu⟩)
    (cTu : PySem.W.codeIn K cdvTu "turned" = true)
    (kTu : PySem.W.keepIn K (.ref gTu) = true)
    (aSe : PySem.W.nsIn K mainGlobals "sent_literal" = some (some (.ref gSe)))
    (lSe : K.lookup gSe = some ⟨ocSe, odSe, .func (PySem.W.fnOf "sent_literal" "sent_literal" (defArgs sSent) (defBody sSent) (defScope sSent) .none kVSe docSe pmSe anSe cdvSe ctSe), oslSe⟩)
    (cSe : PySem.W.codeIn K cdvSe "sent_literal" = true)
    (kSe : PySem.W.keepIn K (.ref gSe) = true)
    (aRe : PySem.W.nsIn K mainGlobals "is_renaming" = some (some (.ref gRe)))
    (lRe : K.lookup gRe = some ⟨ocRe, odRe, .func (PySem.W.fnOf "is_renaming" "is_renaming" (defArgs sRen) (defBody sRen) (defScope sRen) .none kVRe docRe pmRe anRe cdvRe ctRe), oslRe⟩)
    (cRe : PySem.W.codeIn K cdvRe "is_renaming" = true)
    (kRe : PySem.W.keepIn K (.ref gRe) = true)
    (aRn : PySem.W.nsIn K mainGlobals "renamed" = some (some (.ref gRn)))
    (lRn : K.lookup gRn = some ⟨ocRn, odRn, .func (PySem.W.fnOf "renamed" "renamed" (defArgs sRenamed) (defBody sRenamed) (defScope sRenamed) .none kVRn docRn pmRn anRn cdvRn ctRn), oslRn⟩)
    (cRn : PySem.W.codeIn K cdvRn "renamed" = true)
    (kRn : PySem.W.keepIn K (.ref gRn) = true)
    (aLp : PySem.W.nsIn K mainGlobals "_law_purse" = some (some (.ref gLp)))
    (lLp : K.lookup gLp = some ⟨ocLp, odLp, .func (PySem.W.fnOf "_law_purse" "_law_purse" (defArgs sPurse) (defBody sPurse) (defScope sPurse) .none kVLp docLp pmLp anLp cdvLp ctLp), oslLp⟩)
    (cLp : PySem.W.codeIn K cdvLp "_law_purse" = true)
    (kLp : PySem.W.keepIn K (.ref gLp) = true)
    (aLm : PySem.W.nsIn K mainGlobals "_law_mixed" = some (some (.ref gLm)))
    (lLm : K.lookup gLm = some ⟨ocLm, odLm, .func (PySem.W.fnOf "_law_mixed" "_law_mixed" (defArgs sMixed) (defBody sMixed) (defScope sMixed) .none kVLm docLm pmLm anLm cdvLm ctLm), oslLm⟩)
    (cLm : PySem.W.codeIn K cdvLm "_law_mixed" = true)
    (kLm : PySem.W.keepIn K (.ref gLm) = true)
    (aLd : PySem.W.nsIn K mainGlobals "_law_draw" = some (some (.ref gLd)))
    (lLd : K.lookup gLd = some ⟨ocLd, odLd, .func (PySem.W.fnOf "_law_draw" "_law_draw" (defArgs sDraw) (defBody sDraw) (defScope sDraw) .none kVLd docLd pmLd anLd cdvLd ctLd), oslLd⟩)
    (cLd : PySem.W.codeIn K cdvLd "_law_draw" = true)
    (kLd : PySem.W.keepIn K (.ref gLd) = true)
    (aLs : PySem.W.nsIn K mainGlobals "_law_purses" = some (some (.ref gLs)))
    (lLs : K.lookup gLs = some ⟨ocLs, odLs, .func (PySem.W.fnOf "_law_purses" "_law_purses" (defArgs sPurses) (defBody sPurses) (defScope sPurses) .none kVLs docLs pmLs anLs cdvLs ctLs), oslLs⟩)
    (cLs : PySem.W.codeIn K cdvLs "_law_purses" = true)
    (kLs : PySem.W.keepIn K (.ref gLs) = true)
    (aSh : PySem.W.nsIn K mainGlobals "_law_shuffled" = some (some (.ref gSh)))
    (lSh : K.lookup gSh = some ⟨ocSh, odSh, .func (PySem.W.fnOf "_law_shuffled" "_law_shuffled" (defArgs sShuf) (defBody sShuf) (defScope sShuf) .none kVSh docSh pmSh anSh cdvSh ctSh), oslSh⟩)
    (cSh : PySem.W.codeIn K cdvSh "_law_shuffled" = true)
    (kSh : PySem.W.keepIn K (.ref gSh) = true)
    (aEx : PySem.W.nsIn K mainGlobals "_law_exact" = some (some (.ref gEx)))
    (lEx : K.lookup gEx = some ⟨ocEx, odEx, .func (PySem.W.fnOf "_law_exact" "_law_exact" (defArgs sExact) (defBody sExact) (defScope sExact) .none kVEx docEx pmEx anEx cdvEx ctEx), oslEx⟩)
    (cEx : PySem.W.codeIn K cdvEx "_law_exact" = true)
    (kEx : PySem.W.keepIn K (.ref gEx) = true)
    (aLw : PySem.W.nsIn K mainGlobals "_law_word" = some (some (.ref gLw)))
    (lLw : K.lookup gLw = some ⟨ocLw, odLw, .func (PySem.W.fnOf "_law_word" "_law_word" (defArgs sWord) (defBody sWord) (defScope sWord) .none kVLw docLw pmLw anLw cdvLw ctLw), oslLw⟩)
    (cLw : PySem.W.codeIn K cdvLw "_law_word" = true)
    (kLw : PySem.W.keepIn K (.ref gLw) = true)
    (aWs : PySem.W.nsIn K mainGlobals "_law_words" = some (some (.ref gWs)))
    (lWs : K.lookup gWs = some ⟨ocWs, odWs, .func (PySem.W.fnOf "_law_words" "_law_words" (defArgs sWords) (defBody sWords) (defScope sWords) .none kVWs docWs pmWs anWs cdvWs ctWs), oslWs⟩)
    (cWs : PySem.W.codeIn K cdvWs "_law_words" = true)
    (kWs : PySem.W.keepIn K (.ref gWs) = true)
    (aLc : PySem.W.nsIn K mainGlobals "_law_contrary" = some (some (.ref gLc)))
    (lLc : K.lookup gLc = some ⟨ocLc, odLc, .func (PySem.W.fnOf "_law_contrary" "_law_contrary" (defArgs sLCon) (defBody sLCon) (defScope sLCon) .none kVLc docLc pmLc anLc cdvLc ctLc), oslLc⟩)
    (cLc : PySem.W.codeIn K cdvLc "_law_contrary" = true)
    (kLc : PySem.W.keepIn K (.ref gLc) = true)
    (aLb : PySem.W.nsIn K mainGlobals "_law_bare" = some (some (.ref gLb)))
    (lLb : K.lookup gLb = some ⟨ocLb, odLb, .func (PySem.W.fnOf "_law_bare" "_law_bare" (defArgs sLBare) (defBody sLBare) (defScope sLBare) .none kVLb docLb pmLb anLb cdvLb ctLb), oslLb⟩)
    (cLb : PySem.W.codeIn K cdvLb "_law_bare" = true)
    (kLb : PySem.W.keepIn K (.ref gLb) = true)
    (aLl : PySem.W.nsIn K mainGlobals "_law_clause" = some (some (.ref gLl)))
    (lLl : K.lookup gLl = some ⟨ocLl, odLl, .func (PySem.W.fnOf "_law_clause" "_law_clause" (defArgs sLCl) (defBody sLCl) (defScope sLCl) .none kVLl docLl pmLl anLl cdvLl ctLl), oslLl⟩)
    (cLl : PySem.W.codeIn K cdvLl "_law_clause" = true)
    (kLl : PySem.W.keepIn K (.ref gLl) = true)
    (aLa : PySem.W.nsIn K mainGlobals "_law_parts" = some (some (.ref gLa)))
    (lLa : K.lookup gLa = some ⟨ocLa, odLa, .func (PySem.W.fnOf "_law_parts" "_law_parts" (defArgs sParts) (defBody sParts) (defScope sParts) .none kVLa docLa pmLa anLa cdvLa ctLa), oslLa⟩)
    (cLa : PySem.W.codeIn K cdvLa "_law_parts" = true)
    (kLa : PySem.W.keepIn K (.ref gLa) = true)
    (aDc : PySem.W.nsIn K mainGlobals "_law_drawn_clause" = some (some (.ref gDc)))
    (lDc : K.lookup gDc = some ⟨ocDc, odDc, .func (PySem.W.fnOf "_law_drawn_clause" "_law_drawn_clause" (defArgs sDrawn) (defBody sDrawn) (defScope sDrawn) .none kVDc docDc pmDc anDc cdvDc ctDc), oslDc⟩)
    (cDc : PySem.W.codeIn K cdvDc "_law_drawn_clause" = true)
    (kDc : PySem.W.keepIn K (.ref gDc) = true)
    (aSp : PySem.W.nsIn K mainGlobals "_law_spare" = some (some (.ref gSp)))
    (lSp : K.lookup gSp = some ⟨ocSp, odSp, .func (PySem.W.fnOf "_law_spare" "_law_spare" (defArgs sSpare) (defBody sSpare) (defScope sSpare) .none kVSp docSp pmSp anSp cdvSp ctSp), oslSp⟩)
    (cSp : PySem.W.codeIn K cdvSp "_law_spare" = true)
    (kSp : PySem.W.keepIn K (.ref gSp) = true)
    (aKb : PySem.W.nsIn K mainGlobals "_law_kept_by" = some (some (.ref gKb)))
    (lKb : K.lookup gKb = some ⟨ocKb, odKb, .func (PySem.W.fnOf "_law_kept_by" "_law_kept_by" (defArgs sLKept) (defBody sLKept) (defScope sLKept) .none kVKb docKb pmKb anKb cdvKb ctKb), oslKb⟩)
    (cKb : PySem.W.codeIn K cdvKb "_law_kept_by" = true)
    (kKb : PySem.W.keepIn K (.ref gKb) = true)
    (aLr : PySem.W.nsIn K mainGlobals "_law_lists_right" = some (some (.ref gLr)))
    (lLr : K.lookup gLr = some ⟨ocLr, odLr, .func (PySem.W.fnOf "_law_lists_right" "_law_lists_right" (defArgs sLR) (defBody sLR) (defScope sLR) .none kVLr docLr pmLr anLr cdvLr ctLr), oslLr⟩)
    (cLr : PySem.W.codeIn K cdvLr "_law_lists_right" = true)
    (kLr : PySem.W.keepIn K (.ref gLr) = true)
    (aTr : PySem.W.nsIn K mainGlobals "_law_two_right" = some (some (.ref gTr)))
    (lTr : K.lookup gTr = some ⟨ocTr, odTr, .func (PySem.W.fnOf "_law_two_right" "_law_two_right" (defArgs sTwo) (defBody sTwo) (defScope sTwo) .none kVTr docTr pmTr anTr cdvTr ctTr), oslTr⟩)
    (cTr : PySem.W.codeIn K cdvTr "_law_two_right" = true)
    (kTr : PySem.W.keepIn K (.ref gTr) = true)
    (aSr : PySem.W.nsIn K mainGlobals "_law_sent_right" = some (some (.ref gSr)))
    (lSr : K.lookup gSr = some ⟨ocSr, odSr, .func (PySem.W.fnOf "_law_sent_right" "_law_sent_right" (defArgs sSR) (defBody sSR) (defScope sSR) .none kVSr docSr pmSr anSr cdvSr ctSr), oslSr⟩)
    (cSr : PySem.W.codeIn K cdvSr "_law_sent_right" = true)
    (kSr : PySem.W.keepIn K (.ref gSr) = true)
    (aLx : PySem.W.nsIn K mainGlobals "law" = some (some (.ref gLx)))
    (lLx : K.lookup gLx = some ⟨ocLx, odLx, .func (PySem.W.fnOf "law" "law" (defArgs sLaw3) (defBody sLaw3) (defScope sLaw3) .none kVLx docLx pmLx anLx cdvLx ctLx), oslLx⟩)
    (cLx : PySem.W.codeIn K cdvLx "law" = true)
    (kLx : PySem.W.keepIn K (.ref gLx) = true) :
    ∃ fd : FuncData, (∀ (s : Shared) (u : Value), BindsTo s fd ⟨[u], []⟩ [("_law_script", u)]) ∧ ∀ base : Heap, K.In base → base.Ns mainGlobals mg → FnOk l.prog w K mg base CX0 10 fa fd ["_law_script"] (spLaw3 K) := by
  have e := hfa.symm.trans (PySem.W.mg_of X G aLx)
  cases e
  have no : ∀ {n : Str}, PySem.W.nsIn K mainGlobals n = some none → mg n = none := fun z => PySem.W.mg_none_of X G z
  have at_ : ∀ {n : Str} {v : Value}, PySem.W.nsIn K mainGlobals n = some (some v) → mg n = some v := fun z => PySem.W.mg_of X G z
  have D : Bts mg := ⟨no z_sum, no z_int, no z_max, no z_min, no z_len, no z_range⟩
  have B : Pts mg := ⟨no z_isinstance, no z_str, no z_len, no z_all, no z_any, no z_tuple, no z_list, no z_dict, no z_sorted, no z_set, no z_zip, ⟨_, at_ aMO⟩⟩
  have E : Ets mg := ⟨no z_isinstance, no z_int, no z_bool, no z_list, no z_tuple, no z_dict, no z_len, no z_all, no z_zip⟩
  have GIv := fun_mk (st := sIsVar) lIv cIv kIv
  have bIv := GIv.binds (ps := ["value"]) fun _ _ _ _ _ _ us hl => match us, hl with | [_], _ => rfl
  have GBa := fun_mk (st := sBare) lBa cBa kBa
  have bBa := GBa.binds (ps := ["literal"]) fun _ _ _ _ _ _ us hl => match us, hl with | [_], _ => rfl
  have GOp := fun_mk (st := sOpp) lOp cOp kOp
  have bOp := GOp.binds (ps := ["literal"]) fun _ _ _ _ _ _ us hl => match us, hl with | [_], _ => rfl
  have GIl := fun_mk (st := sIsLit) lIl cIl kIl
  have bIl := GIl.binds (ps := ["value"]) fun _ _ _ _ _ _ us hl => match us, hl with | [_], _ => rfl
  have GOr := fun_mk (st := sOrd) lOr cOr kOr
  have bOr := GOr.binds (ps := ["literals"]) fun _ _ _ _ _ _ us hl => match us, hl with | [_], _ => rfl
  have GAs := fun_mk (st := sAsc) lAs cAs kAs
  have bAs := GAs.binds (ps := ["values"]) fun _ _ _ _ _ _ us hl => match us, hl with | [_], _ => rfl
  have GAr := fun_mk (st := sAre) lAr cAr kAr
  have bAr := GAr.binds (ps := ["values"]) fun _ _ _ _ _ _ us hl => match us, hl with | [_], _ => rfl
  have GHa := fun_mk (st := sHas) lHa cHa kHa
  have bHa := GHa.binds (ps := ["literals"]) fun _ _ _ _ _ _ us hl => match us, hl with | [_], _ => rfl
  have GIc := fun_mk (st := sIsCl) lIc cIc kIc
  have bIc := GIc.binds (ps := ["value"]) fun _ _ _ _ _ _ us hl => match us, hl with | [_], _ => rfl
  have GNl := fun_mk (st := sNeedL) lNl cNl kNl
  have bNl := GNl.binds (ps := ["literal"]) fun _ _ _ _ _ _ us hl => match us, hl with | [_], _ => rfl
  have GNc := fun_mk (st := sNeedC) lNc cNc kNc
  have bNc := GNc.binds (ps := ["clause"]) fun _ _ _ _ _ _ us hl => match us, hl with | [_], _ => rfl
  have GNs := fun_mk (st := sNeedCs) lNs cNs kNs
  have bNs := GNs.binds (ps := ["one", "other"]) fun _ _ _ _ _ _ us hl => match us, hl with | [_, _], _ => rfl
  have GCo := fun_mk (st := sContr) lCo cCo kCo
  have bCo := GCo.binds (ps := ["literal"]) fun _ _ _ _ _ _ us hl => match us, hl with | [_], _ => rfl
  have q1Co := kb_one (a := "literal") GCo fun _ _ _ _ _ _ _ => rfl
  have GVo := fun_mk (st := sVarOf) lVo cVo kVo
  have bVo := GVo.binds (ps := ["literal"]) fun _ _ _ _ _ _ us hl => match us, hl with | [_], _ => rfl
  have q1Vo := kb_one (a := "literal") GVo fun _ _ _ _ _ _ _ => rfl
  have GCl := fun_mk (st := sClOf) lCl cCl kCl
  have bCl := GCl.binds (ps := ["literals"]) fun _ _ _ _ _ _ us hl => match us, hl with | [_], _ => rfl
  have q1Cl := kb_one (a := "literals") GCl fun _ _ _ _ _ _ _ => rfl
  have GVi := fun_mk (st := sVarsIn) lVi cVi kVi
  have bVi := GVi.binds (ps := ["clause"]) fun _ _ _ _ _ _ us hl => match us, hl with | [_], _ => rfl
  have q1Vi := kb_one (a := "clause") GVi fun _ _ _ _ _ _ _ => rfl
  have GWi := fun_mk (st := sWithin) lWi cWi kWi
  have bWi := GWi.binds (ps := ["one", "other"]) fun _ _ _ _ _ _ us hl => match us, hl with | [_, _], _ => rfl
  have q2Wi := kb_two (a := "one") (b := "other") GWi fun _ _ _ _ _ _ _ _ => rfl
  have GCm := fun_mk (st := sCommon) lCm cCm kCm
  have bCm := GCm.binds (ps := ["one", "other"]) fun _ _ _ _ _ _ us hl => match us, hl with | [_, _], _ => rfl
  have q2Cm := kb_two (a := "one") (b := "other") GCm fun _ _ _ _ _ _ _ _ => rfl
  have GUn := fun_mk (st := sUnited) lUn cUn kUn
  have bUn := GUn.binds (ps := ["one", "other"]) fun _ _ _ _ _ _ us hl => match us, hl with | [_, _], _ => rfl
  have q2Un := kb_two (a := "one") (b := "other") GUn fun _ _ _ _ _ _ _ _ => rfl
  have GMo := fun_mk (st := sMeetOf) lMo cMo kMo
  have bMo := GMo.binds (ps := ["one", "other"]) fun _ _ _ _ _ _ us hl => match us, hl with | [_, _], _ => rfl
  have GMe := fun_mk (st := sMeet) lMe cMe kMe
  have bMe := GMe.binds (ps := ["one", "other"]) fun _ _ _ _ _ _ us hl => match us, hl with | [_, _], _ => rfl
  have q2Me := kb_two (a := "one") (b := "other") GMe fun _ _ _ _ _ _ _ _ => rfl
  have GJo := fun_mk (st := sJoin) lJo cJo kJo
  have bJo := GJo.binds (ps := ["one", "other", "variable"]) fun _ _ _ _ _ _ us hl => match us, hl with | [_, _, _], _ => rfl
  have GPu := fun_mk (st := sPut) lPu cPu kPu
  have bPu := GPu.binds (ps := ["one", "other"]) fun _ _ _ _ _ _ us hl => match us, hl with | [_, _], _ => rfl
  have q2Pu := kb_two (a := "one") (b := "other") GPu fun _ _ _ _ _ _ _ _ => rfl
  have GNa := fun_mk (st := sNameL) lNa cNa kNa
  have bNa := GNa.binds (ps := ["value"]) fun _ _ _ _ _ _ us hl => match us, hl with | [_], _ => rfl
  have GTu := fun_mk (st := sTurn) lTu cTu kTu
  have bTu := GTu.binds (ps := ["clause", "variables"]) fun _ _ _ _ _ _ us hl => match us, hl with | [_, _], _ => rfl
  have q2Tu := kb_two (a := "clause") (b := "variables") GTu fun _ _ _ _ _ _ _ _ => rfl
  have GSe := fun_mk (st := sSent) lSe cSe kSe
  have bSe := GSe.binds (ps := ["literal", "sent"]) fun _ _ _ _ _ _ us hl => match us, hl with | [_, _], _ => rfl
  have GRe := fun_mk (st := sRen) lRe cRe kRe
  have bRe := GRe.binds (ps := ["value"]) fun _ _ _ _ _ _ us hl => match us, hl with | [_], _ => rfl
  have GRn := fun_mk (st := sRenamed) lRn cRn kRn
  have bRn := GRn.binds (ps := ["clause", "sent"]) fun _ _ _ _ _ _ us hl => match us, hl with | [_, _], _ => rfl
  have q2Rn := kb_two (a := "clause") (b := "sent") GRn fun _ _ _ _ _ _ _ _ => rfl
  have GLp := fun_mk (st := sPurse) lLp cLp kLp
  have bLp := GLp.binds (ps := ["_law_script", "_law_at"]) fun _ _ _ _ _ _ us hl => match us, hl with | [_, _], _ => rfl
  have GLm := fun_mk (st := sMixed) lLm cLm kLm
  have bLm := GLm.binds (ps := ["_law_seed", "_law_spin", "_law_at"]) fun _ _ _ _ _ _ us hl => match us, hl with | [_, _, _], _ => rfl
  have GLd := fun_mk (st := sDraw) lLd cLd kLd
  have bLd := GLd.binds (ps := ["_law_purse_here", "_law_many"]) fun _ _ _ _ _ _ us hl => match us, hl with | [_, _], _ => rfl
  have GLs := fun_mk (st := sPurses) lLs cLs kLs
  have bLs := GLs.binds (ps := ["_law_script", "_law_few"]) fun _ _ _ _ _ _ us hl => match us, hl with | [_, _], _ => rfl
  have GSh := fun_mk (st := sShuf) lSh cSh kSh
  have bSh := GSh.binds (ps := ["_law_purse_here", "_law_some"]) fun _ _ _ _ _ _ us hl => match us, hl with | [_, _], _ => rfl
  have GEx := fun_mk (st := sExact) lEx cEx kEx
  have bEx := GEx.binds (ps := ["_law_mine", "_law_theirs"]) fun _ _ _ _ _ _ us hl => match us, hl with | [_, _], _ => rfl
  have GLw := fun_mk (st := sWord) lLw cLw kLw
  have bLw := GLw.binds (ps := ["_law_purse_here"]) fun _ _ _ _ _ _ us hl => match us, hl with | [_], _ => rfl
  have GWs := fun_mk (st := sWords) lWs cWs kWs
  have bWs := GWs.binds (ps := ["_law_purse_here", "_law_many"]) fun _ _ _ _ _ _ us hl => match us, hl with | [_, _], _ => rfl
  have GLc := fun_mk (st := sLCon) lLc cLc kLc
  have bLc := GLc.binds (ps := ["_law_literal"]) fun _ _ _ _ _ _ us hl => match us, hl with | [_], _ => rfl
  have GLb := fun_mk (st := sLBare) lLb cLb kLb
  have bLb := GLb.binds (ps := ["_law_literal"]) fun _ _ _ _ _ _ us hl => match us, hl with | [_], _ => rfl
  have GLl := fun_mk (st := sLCl) lLl cLl kLl
  have bLl := GLl.binds (ps := ["_law_literals"]) fun _ _ _ _ _ _ us hl => match us, hl with | [_], _ => rfl
  have GLa := fun_mk (st := sParts) lLa cLa kLa
  have bLa := GLa.binds (ps := ["_law_names"]) fun _ _ _ _ _ _ us hl => match us, hl with | [_], _ => rfl
  have GDc := fun_mk (st := sDrawn) lDc cDc kDc
  have bDc := GDc.binds (ps := ["_law_purse_here", "_law_names", "_law_most"]) fun _ _ _ _ _ _ us hl => match us, hl with | [_, _, _], _ => rfl
  have GSp := fun_mk (st := sSpare) lSp cSp kSp
  have bSp := GSp.binds (ps := ["_law_names"]) fun _ _ _ _ _ _ us hl => match us, hl with | [_], _ => rfl
  have GKb := fun_mk (st := sLKept) lKb cKb kKb
  have bKb := GKb.binds (ps := ["_law_part", "_law_clause_here"]) fun _ _ _ _ _ _ us hl => match us, hl with | [_, _], _ => rfl
  have GLr := fun_mk (st := sLR) lLr cLr kLr
  have bLr := GLr.binds (ps := ["_law_purse_here", "_law_names"]) fun _ _ _ _ _ _ us hl => match us, hl with | [_, _], _ => rfl
  have GTr := fun_mk (st := sTwo) lTr cTr kTr
  have bTr := GTr.binds (ps := ["_law_one", "_law_other", "_law_full"]) fun _ _ _ _ _ _ us hl => match us, hl with | [_, _, _], _ => rfl
  have GSr := fun_mk (st := sSR) lSr cSr kSr
  have bSr := GSr.binds (ps := ["_law_purse_here", "_law_clause_here", "_law_names"]) fun _ _ _ _ _ _ us hl => match us, hl with | [_, _, _], _ => rfl
  have GLx := fun_mk (st := sLaw3) lLx cLx kLx
  have bLx := GLx.binds (ps := ["_law_script"]) fun _ _ _ _ _ _ us hl => match us, hl with | [_], _ => rfl
  refine ⟨PySem.W.fnOf "law" "law" (defArgs sLaw3) (defBody sLaw3) (defScope sLaw3) .none kVLx docLx pmLx anLx cdvLx ctLx, fun s v => .of_eq rfl, fun base _ _ => ?_⟩
  have oIv : FnOk l.prog w K mg base CX0 1 gIv _ _ (spIsVar K) := ok_isvar GIv B
  have oBa : FnOk l.prog w K mg base CX0 1 gBa _ _ spBare := ok_bare GBa
  have oOp : FnOk l.prog w K mg base CX0 2 gOp _ _ spOpp := ok_opp GOp (at_ aBa) GBa bBa
  have oIl : FnOk l.prog w K mg base CX0 2 gIl _ _ (spIsLit K) := ok_islit GIl B (at_ aIv) GIv bIv
  have oOr : FnOk l.prog w K mg base CX0 1 gOr _ _ (spOrd K) := ok_ord GOr B
  have oAs : FnOk l.prog w K mg base CX0 1 gAs _ _ (spAsc K) := ok_asc GAs B
  have oAr : FnOk l.prog w K mg base CX0 3 gAr _ _ (spAre K) := ok_are GAr B (at_ aIl) kIl oIl bIl
  have oHa : FnOk l.prog w K mg base CX0 1 gHa _ _ (spHas K) := ok_has GHa B
  have oIc : FnOk l.prog w K mg base CX0 4 gIc _ _ (spIsCl K) := ok_iscl GIc B (at_ aIl) kIl oIl bIl (at_ aHa) kHa oHa bHa
  have oNl : FnOk l.prog w K mg base CX0 3 gNl _ _ spNeedL := ok_needl GNl (at_ aIl) kIl oIl bIl
  have oNc : FnOk l.prog w K mg base CX0 5 gNc _ _ (spNeedC K) := ok_needc GNc (at_ aIc) kIc oIc bIc
  have oNs : FnOk l.prog w K mg base CX0 6 gNs _ _ (spNeedCs K) := ok_needcs GNs (at_ aNc) kNc oNc bNc
  have oCo : FnOk l.prog w K mg base CX0 4 gCo _ _ (spOneL oppS) := ok_contr GCo (at_ aNl) kNl oNl bNl (at_ aOp) kOp oOp bOp
  have oVo : FnOk l.prog w K mg base CX0 4 gVo _ _ (spOneL bareS) := ok_varof GVo (at_ aNl) kNl oNl bNl (at_ aBa) kBa oBa bBa
  have oCl : FnOk l.prog w K mg base CX0 4 gCl _ _ (spClOf K) := ok_clof GCl B (at_ aAr) kAr oAr bAr (at_ aHa) kHa oHa bHa (at_ aOr) kOr oOr bOr
  have oVi : FnOk l.prog w K mg base CX0 6 gVi _ _ (spVarsIn K) := ok_varsin GVi B (at_ aNc) kNc oNc bNc (at_ aBa) kBa oBa bBa
  have oWi : FnOk l.prog w K mg base CX0 7 gWi _ _ (spWithin K) := ok_within GWi B (at_ aNs) kNs oNs bNs
  have oCm : FnOk l.prog w K mg base CX0 7 gCm _ _ (spCommon K) := ok_common GCm B (at_ aNs) kNs oNs bNs
  have oUn : FnOk l.prog w K mg base CX0 7 gUn _ _ (spUnited K) := ok_united GUn (at_ aNs) kNs oNs bNs (at_ aHa) kHa oHa bHa (at_ aOr) kOr oOr bOr
  have oMo : FnOk l.prog w K mg base CX0 3 gMo _ _ (spMeet K) := ok_meetof GMo B (at_ aOp) kOp oOp bOp (at_ aBa) kBa oBa bBa
  have oMe : FnOk l.prog w K mg base CX0 7 gMe _ _ (spMeet K) := ok_meet GMe (at_ aNs) kNs oNs bNs (at_ aMo) kMo oMo bMo
  have oJo : FnOk l.prog w K mg base CX0 2 gJo _ _ (spJoin K) := ok_join GJo (at_ aBa) kBa oBa bBa (at_ aOr) kOr oOr bOr
  have oPu : FnOk l.prog w K mg base CX0 8 gPu _ _ (spPut K) := ok_put GPu (at_ aMe) kMe oMe bMe (at_ aJo) kJo oJo bJo
  have oNa : FnOk l.prog w K mg base CX0 2 gNa _ _ (spNameL K) := ok_namel GNa B (at_ aIv) kIv oIv bIv (at_ aAs) kAs oAs bAs
  have oTu : FnOk l.prog w K mg base CX0 6 gTu _ _ (spTurn K) := ok_turn GTu (at_ aNc) kNc oNc bNc (at_ aNa) kNa oNa bNa (at_ aBa) kBa oBa bBa (at_ aOp) kOp oOp bOp (at_ aOr) kOr oOr bOr
  have oSe : FnOk l.prog w K mg base CX0 2 gSe _ _ spSent := ok_sent GSe (at_ aBa) kBa oBa bBa
  have oRe : FnOk l.prog w K mg base CX0 2 gRe _ _ (spRen K) := ok_ren GRe B (at_ aIv) kIv oIv bIv
  have oRn : FnOk l.prog w K mg base CX0 7 gRn _ _ (spRenamed K) := ok_renamed GRn B (at_ aNc) kNc oNc bNc (at_ aRe) kRe oRe bRe (at_ aVi) kVi oVi bVi (at_ aSe) kSe oSe bSe (at_ aOr) kOr oOr bOr
  have oLd : FnOk l.prog w K mg base CX0 2 gLd _ _ spDraw := ok_draw GLd D (at_ aLm) GLm bLm
  have oLs : FnOk l.prog w K mg base CX0 3 gLs _ _ (spPurses K) := ok_purses GLs D (at_ aLp) GLp bLp
  have oSh : FnOk l.prog w K mg base CX0 3 gSh _ _ (spShuf K) := ok_shuf GSh (no z_len) (at_ aLd) kLd oLd bLd
  have oE0 : FnOk l.prog w K mg base CX0 1 gEx _ _ (spExact K 0) := ok_exact0 GEx E
  have oE1 : FnOk l.prog w K mg base CX0 2 gEx _ _ (spExact K 1) := ok_exactS GEx E (at_ aEx) bEx oE0
  have oE2 : FnOk l.prog w K mg base CX0 3 gEx _ _ (spExact K 2) := ok_exactS GEx E (at_ aEx) bEx oE1
  have oE3 : FnOk l.prog w K mg base CX0 4 gEx _ _ (spExact K 3) := ok_exactS GEx E (at_ aEx) bEx oE2
  have oLw : FnOk l.prog w K mg base CX0 4 gLw _ _ spWord := ok_word GLw D (at_ aLd) kLd oLd bLd
  have oWs : FnOk l.prog w K mg base CX0 5 gWs _ _ spWords := ok_words GWs (no z_len) (no z_range) (no z_list) (at_ aLd) kLd oLd bLd (at_ aLw) kLw oLw bLw
  have oLc : FnOk l.prog w K mg base CX0 1 gLc _ _ (spLOne oppS) := ok_lcon GLc
  have oLb : FnOk l.prog w K mg base CX0 1 gLb _ _ (spLOne bareS) := ok_lbare GLb
  have oLl : FnOk l.prog w K mg base CX0 1 gLl _ _ (spLCl K) := ok_lcl GLl B
  have oLa : FnOk l.prog w K mg base CX0 1 gLa _ _ (spParts K) := ok_parts GLa (no z_sorted) (no z_tuple)
  have oDc : FnOk l.prog w K mg base CX0 4 gDc _ _ (spDrawn K) := ok_drawn GDc (no z_len) (no z_min) (at_ aSh) kSh oSh bSh (at_ aLd) kLd oLd bLd (at_ aLl) kLl oLl bLl
  have oSp : FnOk l.prog w K mg base CX0 1 gSp _ _ (spSpare K) := ok_spare GSp (no z_list)
  have oKb : FnOk l.prog w K mg base CX0 1 gKb _ _ (spLKept K) := ok_lkept GKb B
  have oLr : FnOk l.prog w K mg base CX0 7 gLr _ _ (spLR K) := ok_lr GLr ⟨no z_sorted, no z_len, no z_list⟩ (at_ aLd) kLd oLd bLd (at_ aSh) kSh oSh bSh (at_ aLl) kLl oLl bLl (at_ aEx) kEx oE2 bEx (at_ aCl) kCl oCl bCl q1Cl (at_ aCo) kCo oCo bCo q1Co (at_ aVo) kVo oVo bVo q1Vo (at_ aIl) kIl oIl bIl (at_ aLc) kLc oLc bLc (at_ aLb) kLb oLb bLb (at_ aVi) kVi oVi bVi q1Vi (at_ aIc) kIc oIc bIc
  have oTr : FnOk l.prog w K mg base CX0 9 gTr _ _ (spTwo K) := ok_two GTr ⟨no z_sorted, no z_len, no z_all⟩ (at_ aWi) kWi oWi bWi q2Wi (at_ aCm) kCm oCm bCm q2Cm (at_ aMe) kMe oMe bMe q2Me (at_ aUn) kUn oUn bUn q2Un (at_ aPu) kPu oPu bPu q2Pu (at_ aEx) kEx oE2 bEx (at_ aLl) kLl oLl bLl (at_ aLc) kLc oLc bLc (at_ aLb) kLb oLb bLb (at_ aKb) kKb oKb bKb
  have oSr : FnOk l.prog w K mg base CX0 8 gSr _ _ (spSR K) := ok_sr GSr ⟨no z_dict, no z_list, no z_zip⟩ (at_ aLd) kLd oLd bLd (at_ aSh) kSh oSh bSh (at_ aLl) kLl oLl bLl (at_ aEx) kEx oE3 bEx (at_ aLc) kLc oLc bLc (at_ aLb) kLb oLb bLb (at_ aSp) kSp oSp bSp (at_ aTu) kTu oTu bTu q2Tu (at_ aRn) kRn oRn bRn q2Rn
  exact ok_law3 GLx ⟨no z_sorted, no z_len, no z_range, no z_list⟩ (at_ aLs) kLs oLs bLs (at_ aLd) kLd oLd bLd (at_ aWs) kWs oWs bWs (at_ aLa) kLa oLa bLa (at_ aDc) kDc oDc bDc (at_ aLl) kLl oLl bLl (at_ aLc) kLc oLc bLc (at_ aSr) kSr oSr bSr (at_ aTr) kTr oTr bTr (at_ aLr) kLr oLr bLr
end My
end

open PySem PySem.W PyProof.Rows
set_option Elab.async false
set_option maxRecDepth 100000
set_option maxHeartbeats 0
open_top k03_head for PySem.Challenge.rw_lookdepths_k03_whole_clauses

set_option Elab.async false
set_option linter.all false
set_option maxRecDepth 100000
set_option maxHeartbeats 0
open PySem PySem.W PyProof.Rows
theorem PySem.Challenge.cw_lookdepths_k03_whole_clauses_holds : PySem.Challenge.rw_lookdepths_k03_whole_clauses.Holds :=
  k03_head (by
    k_fill
    refine My.walk (l := PySem.Challenge.rw_lookdepths_k03_whole_clauses) rfl rfl (fun w h Y => PySem.W.kIn_of Y) ?F
    case F =>
      intro w mg fa h KX G hmg
      refine' My.all_mk KX G hmg ?z_sum ?z_int ?z_max ?z_min ?z_len ?z_range ?z_isinstance ?z_all ?z_any ?z_list ?z_dict ?z_tuple ?z_str ?z_sorted ?z_set ?z_zip ?z_bool ?aMO ?aIv ?lIv ?cIv ?kIv ?aBa ?lBa ?cBa ?kBa ?aOp ?lOp ?cOp ?kOp ?aIl ?lIl ?cIl ?kIl ?aOr ?lOr ?cOr ?kOr ?aAs ?lAs ?cAs ?kAs ?aAr ?lAr ?cAr ?kAr ?aHa ?lHa ?cHa ?kHa ?aIc ?lIc ?cIc ?kIc ?aNl ?lNl ?cNl ?kNl ?aNc ?lNc ?cNc ?kNc ?aNs ?lNs ?cNs ?kNs ?aCo ?lCo ?cCo ?kCo ?aVo ?lVo ?cVo ?kVo ?aCl ?lCl ?cCl ?kCl ?aVi ?lVi ?cVi ?kVi ?aWi ?lWi ?cWi ?kWi ?aCm ?lCm ?cCm ?kCm ?aUn ?lUn ?cUn ?kUn ?aMo ?lMo ?cMo ?kMo ?aMe ?lMe ?cMe ?kMe ?aJo ?lJo ?cJo ?kJo ?aPu ?lPu ?cPu ?kPu ?aNa ?lNa ?cNa ?kNa ?aTu ?lTu ?cTu ?kTu ?aSe ?lSe ?cSe ?kSe ?aRe ?lRe ?cRe ?kRe ?aRn ?lRn ?cRn ?kRn ?aLp ?lLp ?cLp ?kLp ?aLm ?lLm ?cLm ?kLm ?aLd ?lLd ?cLd ?kLd ?aLs ?lLs ?cLs ?kLs ?aSh ?lSh ?cSh ?kSh ?aEx ?lEx ?cEx ?kEx ?aLw ?lLw ?cLw ?kLw ?aWs ?lWs ?cWs ?kWs ?aLc ?lLc ?cLc ?kLc ?aLb ?lLb ?cLb ?kLb ?aLl ?lLl ?cLl ?kLl ?aLa ?lLa ?cLa ?kLa ?aDc ?lDc ?cDc ?kDc ?aSp ?lSp ?cSp ?kSp ?aKb ?lKb ?cKb ?kKb ?aLr ?lLr ?cLr ?kLr ?aTr ?lTr ?cTr ?kTr ?aSr ?lSr ?cSr ?kSr ?aLx ?lLx ?cLx ?kLx
      (case z_sum => k_is)
      (case z_int => k_is)
      (case z_max => k_is)
      (case z_min => k_is)
      (case z_len => k_is)
      (case z_range => k_is)
      (case z_isinstance => k_is)
      (case z_all => k_is)
      (case z_any => k_is)
      (case z_list => k_is)
      (case z_dict => k_is)
      (case z_tuple => k_is)
      (case z_str => k_is)
      (case z_sorted => k_is)
      (case z_set => k_is)
      (case z_zip => k_is)
      (case z_bool => k_is)
      (case aMO => k_is)
      (case aIv => k_is)
      (case lIv => k_is)
      (case cIv => k_is)
      (case kIv => k_is)
      (case aBa => k_is)
      (case lBa => k_is)
      (case cBa => k_is)
      (case kBa => k_is)
      (case aOp => k_is)
      (case lOp => k_is)
      (case cOp => k_is)
      (case kOp => k_is)
      (case aIl => k_is)
      (case lIl => k_is)
      (case cIl => k_is)
      (case kIl => k_is)
      (case aOr => k_is)
      (case lOr => k_is)
      (case cOr => k_is)
      (case kOr => k_is)
      (case aAs => k_is)
      (case lAs => k_is)
      (case cAs => k_is)
      (case kAs => k_is)
      (case aAr => k_is)
      (case lAr => k_is)
      (case cAr => k_is)
      (case kAr => k_is)
      (case aHa => k_is)
      (case lHa => k_is)
      (case cHa => k_is)
      (case kHa => k_is)
      (case aIc => k_is)
      (case lIc => k_is)
      (case cIc => k_is)
      (case kIc => k_is)
      (case aNl => k_is)
      (case lNl => k_is)
      (case cNl => k_is)
      (case kNl => k_is)
      (case aNc => k_is)
      (case lNc => k_is)
      (case cNc => k_is)
      (case kNc => k_is)
      (case aNs => k_is)
      (case lNs => k_is)
      (case cNs => k_is)
      (case kNs => k_is)
      (case aCo => k_is)
      (case lCo => k_is)
      (case cCo => k_is)
      (case kCo => k_is)
      (case aVo => k_is)
      (case lVo => k_is)
      (case cVo => k_is)
      (case kVo => k_is)
      (case aCl => k_is)
      (case lCl => k_is)
      (case cCl => k_is)
      (case kCl => k_is)
      (case aVi => k_is)
      (case lVi => k_is)
      (case cVi => k_is)
      (case kVi => k_is)
      (case aWi => k_is)
      (case lWi => k_is)
      (case cWi => k_is)
      (case kWi => k_is)
      (case aCm => k_is)
      (case lCm => k_is)
      (case cCm => k_is)
      (case kCm => k_is)
      (case aUn => k_is)
      (case lUn => k_is)
      (case cUn => k_is)
      (case kUn => k_is)
      (case aMo => k_is)
      (case lMo => k_is)
      (case cMo => k_is)
      (case kMo => k_is)
      (case aMe => k_is)
      (case lMe => k_is)
      (case cMe => k_is)
      (case kMe => k_is)
      (case aJo => k_is)
      (case lJo => k_is)
      (case cJo => k_is)
      (case kJo => k_is)
      (case aPu => k_is)
      (case lPu => k_is)
      (case cPu => k_is)
      (case kPu => k_is)
      (case aNa => k_is)
      (case lNa => k_is)
      (case cNa => k_is)
      (case kNa => k_is)
      (case aTu => k_is)
      (case lTu => k_is)
      (case cTu => k_is)
      (case kTu => k_is)
      (case aSe => k_is)
      (case lSe => k_is)
      (case cSe => k_is)
      (case kSe => k_is)
      (case aRe => k_is)
      (case lRe => k_is)
      (case cRe => k_is)
      (case kRe => k_is)
      (case aRn => k_is)
      (case lRn => k_is)
      (case cRn => k_is)
      (case kRn => k_is)
      (case aLp => k_is)
      (case lLp => k_is)
      (case cLp => k_is)
      (case kLp => k_is)
      (case aLm => k_is)
      (case lLm => k_is)
      (case cLm => k_is)
      (case kLm => k_is)
      (case aLd => k_is)
      (case lLd => k_is)
      (case cLd => k_is)
      (case kLd => k_is)
      (case aLs => k_is)
      (case lLs => k_is)
      (case cLs => k_is)
      (case kLs => k_is)
      (case aSh => k_is)
      (case lSh => k_is)
      (case cSh => k_is)
      (case kSh => k_is)
      (case aEx => k_is)
      (case lEx => k_is)
      (case cEx => k_is)
      (case kEx => k_is)
      (case aLw => k_is)
      (case lLw => k_is)
      (case cLw => k_is)
      (case kLw => k_is)
      (case aWs => k_is)
      (case lWs => k_is)
      (case cWs => k_is)
      (case kWs => k_is)
      (case aLc => k_is)
      (case lLc => k_is)
      (case cLc => k_is)
      (case kLc => k_is)
      (case aLb => k_is)
      (case lLb => k_is)
      (case cLb => k_is)
      (case kLb => k_is)
      (case aLl => k_is)
      (case lLl => k_is)
      (case cLl => k_is)
      (case kLl => k_is)
      (case aLa => k_is)
      (case lLa => k_is)
      (case cLa => k_is)
      (case kLa => k_is)
      (case aDc => k_is)
      (case lDc => k_is)
      (case cDc => k_is)
      (case kDc => k_is)
      (case aSp => k_is)
      (case lSp => k_is)
      (case cSp => k_is)
      (case kSp => k_is)
      (case aKb => k_is)
      (case lKb => k_is)
      (case cKb => k_is)
      (case kKb => k_is)
      (case aLr => k_is)
      (case lLr => k_is)
      (case cLr => k_is)
      (case kLr => k_is)
      (case aTr => k_is)
      (case lTr => k_is)
      (case cTr => k_is)
      (case kTr => k_is)
      (case aSr => k_is)
      (case lSr => k_is)
      (case cSr => k_is)
      (case kSr => k_is)
      (case aLx => k_is)
      (case lLx => k_is)
      (case cLx => k_is)
      (case kLx => k_is))
